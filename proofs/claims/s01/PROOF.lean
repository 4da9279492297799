import PyProof.Rows.All
import Wide.All
import OpenK.AllK
import Wide.FinOn
import PyProof.EqAt
import PyProof.EqKinds
import PyProof.TupleCall
import KE.BitLaws
import KE.OsGo
import KE.OsArgs
import PySem.Challenge.RW_waitboard_s01_answers
set_option Elab.async false
set_option linter.all false
set_option maxRecDepth 100000
namespace Wb
open Kp148

/-! ### Rows -/
def LeV (x y : Nat) : Prop := x = 2 ∨ x = y
theorem LeV.refl (x : Nat) : LeV x x := .inr rfl
theorem LeV.trans {x y z : Nat} (h : LeV x y) (k : LeV y z) : LeV x z := by
  unfold LeV at *; omega
theorem LeV.antisymm {x y : Nat} (h : LeV x y) (k : LeV y x) : x = y := by
  unfold LeV at *; omega
structure LeL (v u : Row) : Prop where
  len : v.length = u.length
  le : ∀ k, LeV (on v k) (on u k)
theorem LeL.refl (v : Row) : LeL v v := ⟨rfl, fun _ => .refl _⟩
theorem LeL.trans {v u x : Row} (h : LeL v u) (k : LeL u x) : LeL v x := ⟨h.len.trans k.len, fun i => (h.le i).trans (k.le i)⟩
theorem on_nil (k : Nat) : on [] k = 2 := by unfold on; simp
theorem on_zero (x : Nat) (r : Row) : on (x :: r) 0 = x := by unfold on; simp
theorem on_succ (x : Nat) (r : Row) (k : Nat) : on (x :: r) (k + 1) = on r k := by unfold on; simp
theorem on_ge {v : Row} {k : Nat} (h : v.length ≤ k) : on v k = 2 := by
  unfold on; rw [List.getD_eq_getElem?_getD, List.getElem?_eq_none h]; rfl
theorem on_lt {v : Row} {k : Nat} (h : k < v.length) : v[k]? = some (on v k) := by
  unfold on; rw [List.getD_eq_getElem?_getD, List.getElem?_eq_getElem h]; rfl
theorem on_of {v : Row} {k x : Nat} (h : v[k]? = some x) : on v k = x := by
  unfold on; rw [List.getD_eq_getElem?_getD, h]; rfl
theorem ext_on {v u : Row} (h : v.length = u.length) (e : ∀ k, on v k = on u k) : v = u := by
  apply List.ext_getElem? 
  intro k
  by_cases hk : k < v.length
  · rw [on_lt hk, on_lt (h ▸ hk), e]
  · rw [List.getElem?_eq_none (by omega), List.getElem?_eq_none (by omega)]
theorem LeL.antisymm {v u : Row} (h : LeL v u) (k : LeL u v) : v = u := ext_on h.len fun i => (h.le i).antisymm (k.le i)
theorem on_app {i v : Row} (k : Nat) : on (i ++ v) k = if k < i.length then on i k else on v (k - i.length) := by
  unfold on
  rw [List.getD_eq_getElem?_getD, List.getElem?_append]
  split
  · rw [← List.getD_eq_getElem?_getD]
  · rw [← List.getD_eq_getElem?_getD]
theorem on_set {v : Row} {p x : Nat} (k : Nat) (hp : p < v.length) : on (v.set p x) k = if k = p then x else on v k := by
  unfold on
  rw [List.getD_eq_getElem?_getD, List.getElem?_set]
  by_cases h : p = k
  · subst h; simp [hp]
  · simp only [h, if_false, if_neg (fun e : k = p => h e.symm), List.getD_eq_getElem?_getD]
theorem LeL.app {i j v u : Row} (h : LeL i j) (k : LeL v u) : LeL (i ++ v) (j ++ u) := by
  refine ⟨by simp [h.len, k.len], fun x => ?_⟩
  rw [on_app, on_app, ← h.len]
  split
  · exact h.le x
  · exact k.le _
def cnt : Row → Nat
  | [] => 0
  | x :: r => (if x = 2 then 0 else 1) + cnt r
theorem cnt_le : ∀ v : Row, cnt v ≤ v.length
  | [] => Nat.le_refl _
  | x :: r => by
    have := cnt_le r
    unfold cnt
    simp only [List.length_cons]
    split <;> omega
theorem LeL.tail {x y : Nat} {r s : Row} (h : LeL (x :: r) (y :: s)) : LeV x y ∧ LeL r s :=
  ⟨by have := h.le 0; rwa [on_zero, on_zero] at this, by simpa using h.len, fun k => by have := h.le (k + 1); rwa [on_succ, on_succ] at this⟩
theorem cnt_mono : ∀ {v u : Row}, LeL v u → cnt v ≤ cnt u ∧ (cnt v = cnt u → v = u)
  | [], [], _ => ⟨Nat.le_refl _, fun _ => rfl⟩
  | [], y :: s, h => by have := h.len; simp at this
  | x :: r, [], h => by have := h.len; simp at this
  | x :: r, y :: s, h => by
    obtain ⟨h1, h2⟩ := h.tail
    obtain ⟨a, b⟩ := cnt_mono h2
    unfold cnt
    rcases h1 with e | e
    · subst e
      refine ⟨by by_cases e : y = 2 <;> simp [e] <;> omega, fun q => ?_⟩
      by_cases e : y = 2
      · subst e; rw [b (by simpa using q)]
      · simp [e] at q; omega
    · subst e
      exact ⟨by omega, fun q => by rw [b (by omega)]⟩

/-! ### Going round -/
def iter {A : Type} (f : A → A) : Nat → A → A
  | 0, v => v
  | n + 1, v => iter f n (f v)
theorem iter_fix {A : Type} {f : A → A} {v : A} (h : f v = v) : ∀ n, iter f n v = v
  | 0 => rfl
  | n + 1 => by unfold iter; rw [h]; exact iter_fix h n
theorem iter_succ {A : Type} {f : A → A} : ∀ (n : Nat) (v : A), iter f (n + 1) v = f (iter f n v)
  | 0, v => rfl
  | n + 1, v => by
    show iter f (n + 1) (f v) = f (iter f n (f v))
    exact iter_succ n (f v)
theorem again_iter {A : Type} [DecidableEq A] (f : A → A) : ∀ (n : Nat) (v : A), again f n v = iter f n v
  | 0, v => rfl
  | n + 1, v => by
    unfold again
    by_cases h : f v = v
    · simp only [h, if_true]; exact (iter_fix h (n + 1)).symm
    · simp only [h, if_false]; exact again_iter f n (f v)
theorem iter_inv {A : Type} {f : A → A} {I : A → Prop} (s : ∀ v, I v → I (f v)) : ∀ (n : Nat) {v : A}, I v → I (iter f n v)
  | 0, _, h => h
  | n + 1, _, h => iter_inv s n (s _ h)
theorem desc_fix {f : Row → Row} (h : ∀ v, LeL (f v) v) : ∀ (m : Nat) (v : Row), cnt v ≤ m → f (iter f m v) = iter f m v
  | 0, v, e => (cnt_mono (h v)).2 (by have := (cnt_mono (h v)).1; omega)
  | m + 1, v, e => by
    by_cases q : f v = v
    · rw [iter_fix q]; exact q
    · have a := cnt_mono (h v)
      exact desc_fix h m (f v) (by have : cnt (f v) ≠ cnt v := fun z => q (a.2 z); omega)
theorem asc_fix {f : Row → Row} {I : Row → Prop} (hI : ∀ v, I v → I (f v)) (h : ∀ v, I v → LeL v (f v)) : ∀ (m : Nat) (v : Row), I v → v.length - cnt v ≤ m → f (iter f m v) = iter f m v
  | 0, v, i, e => ((cnt_mono (h v i)).2 (by have := (cnt_mono (h v i)).1; have a := cnt_le (f v); have b := cnt_le v; have c := (h v i).len; omega)).symm
  | m + 1, v, i, e => by
    by_cases q : f v = v
    · rw [iter_fix q]; exact q
    · have a := cnt_mono (h v i)
      exact asc_fix hI h m (f v) (hI v i) (by have : cnt v ≠ cnt (f v) := fun z => q (a.2 z).symm; have := (h v i).len; have := cnt_le (f v); omega)

/-! ### Looking -/
def gt (g : List Gate) (k : Nat) : Gate := g.getD k default
theorem gt_lt {g : List Gate} {k : Nat} (h : k < g.length) : g[k]? = some (gt g k) := by
  unfold gt; rw [List.getD_eq_getElem?_getD, List.getElem?_eq_getElem h]; rfl
theorem gt_of {g : List Gate} {k : Nat} {x : Gate} (h : g[k]? = some x) : gt g k = x := by
  unfold gt; rw [List.getD_eq_getElem?_getD, h]; rfl
def lookV (kind x y : Nat) : Nat :=
  if kind = 0 then (if x = 0 then 1 else if x = 1 then 0 else 2)
  else if kind = 1 then (if x = 0 ∨ y = 0 then 1 else if x = 1 ∧ y = 1 then 0 else 2)
  else (if x = 1 ∨ y = 1 then 0 else if x = 0 ∧ y = 0 then 1 else 2)
theorem look_eq (g : Gate) (s : Row) : look g s = lookV g.kind (on s g.a) (on s g.b) := rfl
theorem lookV_le (kind x y : Nat) : lookV kind x y ≤ 2 := by
  unfold lookV; repeat' split
  all_goals omega
theorem look_le (g : Gate) (s : Row) : look g s ≤ 2 := by rw [look_eq]; exact lookV_le _ _ _
theorem lookV_mono {kind x y x' y' : Nat} (h : LeV x x') (k : LeV y y') : LeV (lookV kind x y) (lookV kind x' y') := by
  unfold LeV at *
  rcases h with rfl | rfl <;> rcases k with rfl | rfl <;> unfold lookV <;> (repeat' split) <;> omega
theorem look_mono {s t : Row} (g : Gate) (h : ∀ k, LeV (on s k) (on t k)) : LeV (look g s) (look g t) := lookV_mono (h _) (h _)
/-- the program's own way of looking -/
def comes (kind x y : Nat) : Nat :=
  let second := if kind = 0 then x else y
  let forcing := if kind = 2 then 1 else 0
  if x = forcing ∨ second = forcing then 1 - forcing else if x = 2 ∨ second = 2 then 2 else forcing
theorem comes_eq {kind x y : Nat} (hk : kind ≤ 2) (hx : x ≤ 2) (hy : y ≤ 2) : comes kind x y = lookV kind x y := by
  unfold comes lookV
  rcases (by omega : kind = 0 ∨ kind = 1 ∨ kind = 2) with rfl | rfl | rfl <;> rcases (by omega : x = 0 ∨ x = 1 ∨ x = 2) with rfl | rfl | rfl <;> rcases (by omega : y = 0 ∨ y = 1 ∨ y = 2) with rfl | rfl | rfl <;> rfl

theorem wider_len {g : List Gate} {i v : Row} (h : v.length = g.length) : (wider g i v).length = v.length := by
  unfold wider; simp [h]
theorem on_wider {g : List Gate} {i v : Row} (h : v.length = g.length) {k : Nat} (hk : k < g.length) :
    on (wider g i v) k = if on v k = look (gt g k) (i ++ v) then on v k else 2 := by
  apply on_of
  unfold wider
  have e1 : (v.zip (g.map fun x => look x (i ++ v)))[k]? = some (on v k, look (gt g k) (i ++ v)) := by
    rw [List.getElem?_zip_eq_some]
    exact ⟨on_lt (by omega), by rw [List.getElem?_map, gt_lt hk]; rfl⟩
  rw [List.getElem?_map, e1]
  rfl
theorem narrower_len {g : List Gate} {i v : Row} : (narrower g i v).length = g.length := by unfold narrower; simp
theorem on_narrower {g : List Gate} {i v : Row} {k : Nat} (hk : k < g.length) : on (narrower g i v) k = look (gt g k) (i ++ v) := by
  apply on_of
  unfold narrower
  rw [List.getElem?_map, gt_lt hk]; rfl
theorem wider_le {g : List Gate} {i v : Row} (h : v.length = g.length) : LeL (wider g i v) v := by
  refine ⟨wider_len h, fun k => ?_⟩
  by_cases hk : k < g.length
  · rw [on_wider h hk]
    split
    · exact .refl _
    · exact .inl rfl
  · rw [on_ge (by rw [wider_len h]; omega)]; exact .inl rfl

/-! ### What's always so -/
def Stable (g : List Gate) (i v : Row) : Prop := ∀ k, k < g.length → on v k = 2 ∨ look (gt g k) (i ++ v) = on v k
theorem stable_of {g : List Gate} {i v : Row} (h : v.length = g.length) (e : wider g i v = v) : Stable g i v := fun k hk => by
  have a := on_wider (i := i) h hk
  rw [e] at a
  by_cases q : on v k = look (gt g k) (i ++ v)
  · exact .inr q.symm
  · rw [if_neg q] at a; exact .inl a
theorem of_stable {g : List Gate} {i v : Row} (h : v.length = g.length) (s : Stable g i v) : wider g i v = v :=
  ext_on (wider_len h) fun k => by
    by_cases hk : k < g.length
    · rw [on_wider h hk]
      rcases s k hk with e | e
      · split
        · rfl
        · exact e.symm
      · rw [if_pos e.symm]
    · rw [on_ge (by rw [wider_len h]; omega), on_ge (by omega)]
theorem always_len {g : List Gate} {i v : Row} (h : v.length = g.length) : (always g i v).length = g.length := by
  unfold always; rw [again_iter]
  exact iter_inv (I := fun v : Row => v.length = g.length) (fun v e => (wider_len e).trans e) _ h
theorem always_le {g : List Gate} {i v : Row} (h : v.length = g.length) : LeL (always g i v) v := by
  unfold always; rw [again_iter]
  exact (iter_inv (I := fun u => u.length = g.length ∧ LeL u v) (fun u e => ⟨(wider_len e.1).trans e.1, (wider_le e.1).trans e.2⟩) _ ⟨h, .refl _⟩).2
theorem always_stable {g : List Gate} {i v : Row} (h : v.length = g.length) : Stable g i (always g i v) := by
  refine stable_of (always_len h) ?_
  unfold always; rw [again_iter]
  let f : Row → Row := fun u => if u.length = g.length then wider g i u else u
  have e : ∀ m (u : Row), u.length = g.length → iter f m u = iter (wider g i) m u := by
    intro m
    induction m with
    | zero => intro u _; rfl
    | succ m ih =>
      intro u hu
      show iter f m (f u) = iter (wider g i) m (wider g i u)
      have : f u = wider g i u := if_pos hu
      rw [this]
      exact ih _ ((wider_len hu).trans hu)
  have hf : ∀ u, LeL (f u) u := fun u => by
    show LeL (if u.length = g.length then wider g i u else u) u
    split
    · next q => exact wider_le q
    · exact .refl _
  have q := desc_fix hf (g.length + 1) v (by have := cnt_le v; omega)
  rw [e _ _ h] at q
  have l : (iter (wider g i) (g.length + 1) v).length = g.length := iter_inv (I := fun v : Row => v.length = g.length) (fun v e => (wider_len e).trans e) _ h
  have : f (iter (wider g i) (g.length + 1) v) = wider g i (iter (wider g i) (g.length + 1) v) := if_pos l
  rw [← this]; exact q
theorem always_greatest {g : List Gate} {i v u : Row} (h : v.length = g.length) (s : Stable g i u) (le : LeL u v) : LeL u (always g i v) := by
  unfold always; rw [again_iter]
  refine (iter_inv (I := fun x => x.length = g.length ∧ LeL u x) (fun x e => ⟨(wider_len e.1).trans e.1, (e.2.len.trans (wider_len e.1).symm), fun k => ?_⟩) _ ⟨h, le⟩).2
  by_cases hk : k < g.length
  · rw [on_wider e.1 hk]
    rcases s k hk with q | q
    · exact .inl q
    · rcases e.2.le k with z | z
      · exact .inl z
      · have m := look_mono (gt g k) (LeL.app (.refl i) e.2).le
        rw [q] at m
        rcases m with y | y
        · exact .inl y
        · rw [if_pos (by rw [← z, y])]; exact .inr z
  · rw [on_ge (v := u) (by rw [e.2.len, e.1]; omega)]; exact .inl rfl
theorem always_of {g : List Gate} {i v u : Row} (h : v.length = g.length) (s : Stable g i u) (le : LeL u v) (ge : LeL (always g i v) u) : u = always g i v :=
  (always_greatest h s le).antisymm ge

/-- the gates that use a signal -/
def srcs (g : Gate) : List Nat := if g.kind = 0 then [g.a] else [g.a, g.b]
def usersFrom : Nat → List Gate → Nat → List Nat
  | _, [], _ => []
  | p, g :: r, s => ((srcs g).filter (fun x => x == s)).map (fun _ => p) ++ usersFrom (p + 1) r s
def users (g : List Gate) (s : Nat) : List Nat := usersFrom 0 g s
theorem mem_usersFrom : ∀ (g : List Gate) (p s k : Nat), k ∈ usersFrom p g s ↔ ∃ j, j < g.length ∧ k = p + j ∧ s ∈ srcs (gt g j)
  | [], p, s, k => by unfold usersFrom; simp
  | x :: r, p, s, k => by
    unfold usersFrom
    rw [List.mem_append, mem_usersFrom r (p + 1) s k]
    constructor
    · rintro (h | ⟨j, h1, h2, h3⟩)
      · refine ⟨0, by simp, ?_⟩
        simp only [List.mem_map, List.mem_filter, beq_iff_eq] at h
        obtain ⟨y, ⟨hy, rfl⟩, rfl⟩ := h
        exact ⟨by omega, hy⟩
      · exact ⟨j + 1, by simp; omega, by omega, h3⟩
    · rintro ⟨j, h1, h2, h3⟩
      cases j with
      | zero =>
        left
        simp only [List.mem_map, List.mem_filter, beq_iff_eq]
        exact ⟨s, ⟨h3, rfl⟩, by omega⟩
      | succ j => exact .inr ⟨j, by simp at h1; omega, by omega, h3⟩
theorem mem_users {g : List Gate} {s k : Nat} : k ∈ users g s ↔ k < g.length ∧ s ∈ srcs (gt g k) := by
  unfold users
  rw [mem_usersFrom]
  constructor
  · rintro ⟨j, h1, h2, h3⟩
    have : k = j := by omega
    subst this; exact ⟨h1, h3⟩
  · rintro ⟨h1, h2⟩; exact ⟨k, h1, by omega, h2⟩
theorem usersFrom_snoc : ∀ (g : List Gate) (p s : Nat) (x : Gate), usersFrom p (g ++ [x]) s = usersFrom p g s ++ ((srcs x).filter (fun y => y == s)).map (fun _ => p + g.length)
  | [], p, s, x => by simp [usersFrom]
  | y :: r, p, s, x => by
    show _ ++ usersFrom (p + 1) (r ++ [x]) s = (_ ++ usersFrom (p + 1) r s) ++ _
    rw [usersFrom_snoc r (p + 1) s x, List.append_assoc]
    have : p + 1 + r.length = p + (y :: r).length := by simp; omega
    rw [this]
theorem users_snoc (g : List Gate) (s : Nat) (x : Gate) : users (g ++ [x]) s = users g s ++ ((srcs x).filter (fun y => y == s)).map (fun _ => g.length) := by
  unfold users; rw [usersFrom_snoc]; simp
/-- looking hangs on the sources alone -/
theorem look_srcs {g : Gate} {s t : Row} (h : ∀ k, k ∈ srcs g → on s k = on t k) : look g s = look g t := by
  rw [look_eq, look_eq]
  unfold srcs at h
  by_cases q : g.kind = 0
  · rw [if_pos q] at h
    unfold lookV
    rw [if_pos q, if_pos q, h g.a (by simp)]
  · rw [if_neg q] at h
    rw [h g.a (by simp), h g.b (by simp)]

structure AlwInv (g : List Gate) (i v0 v : Row) (wt : List Nat) : Prop where
  len : v.length = g.length
  le : LeL v v0
  ge : LeL (always g i v0) v
  ok : ∀ k, k < g.length → k ∉ wt → on v k = 2 ∨ look (gt g k) (i ++ v) = on v k
  wlt : ∀ k ∈ wt, k < g.length
theorem AlwInv.start {g : List Gate} {i v0 : Row} (h : v0.length = g.length) : AlwInv g i v0 v0 (List.range g.length) :=
  ⟨h, .refl _, always_le h, fun k hk n => absurd (List.mem_range.mpr hk) n, fun k h => List.mem_range.mp h⟩
theorem AlwInv.keep {g : List Gate} {i v0 v : Row} {wt : List Nat} {p : Nat} (I : AlwInv g i v0 v (wt ++ [p])) (h : on v p = 2 ∨ look (gt g p) (i ++ v) = on v p) : AlwInv g i v0 v wt :=
  ⟨I.len, I.le, I.ge, fun k hk n => by
    by_cases e : k = p
    · subst e; exact h
    · exact I.ok k hk (by simp [n, e]), fun k h => I.wlt k (by simp [h])⟩
theorem set_le {v : Row} {p : Nat} (hp : p < v.length) : LeL (v.set p 2) v :=
  ⟨by simp, fun k => by rw [on_set k hp]; split; exact .inl rfl; exact .refl _⟩
theorem AlwInv.lose {g : List Gate} {i v0 v : Row} {wt : List Nat} {p : Nat} (h0 : v0.length = g.length) (I : AlwInv g i v0 v (wt ++ [p])) (h1 : on v p ≠ 2) (h2 : look (gt g p) (i ++ v) ≠ on v p) :
    AlwInv g i v0 (v.set p 2) (wt ++ users g (i.length + p)) := by
  have hp : p < g.length := I.wlt p (by simp)
  have hv : p < v.length := by rw [I.len]; exact hp
  refine ⟨by simp [I.len], (set_le hv).trans I.le, ⟨by rw [I.ge.len]; simp, fun k => ?_⟩, fun k hk n => ?_, fun k hk => ?_⟩
  · rw [on_set k hv]
    split
    · next e =>
      subst e
      rcases always_stable (i := i) h0 k hp with q | q
      · exact .inl q
      · rcases I.ge.le k with z | z
        · exact .inl z
        · have m := look_mono (gt g k) (LeL.app (.refl i) I.ge).le
          rw [q] at m
          rcases m with y | y
          · exact .inl y
          · exact absurd (y.symm.trans z) h2
    · exact I.ge.le k
  · rw [on_set k hv]
    split
    · exact .inl rfl
    · next e =>
      have nu : i.length + p ∉ srcs (gt g k) := fun z => n (by rw [List.mem_append]; exact .inr (mem_users.mpr ⟨hk, z⟩))
      have n' : k ∉ wt ++ [p] := by simp at n ⊢; exact ⟨n.1, e⟩
      rcases I.ok k hk n' with q | q
      · exact .inl q
      · right
        rw [← q]
        refine look_srcs fun s hs => ?_
        have ns : s ≠ i.length + p := fun z => nu (z ▸ hs)
        rw [on_app, on_app]
        split
        · rfl
        · rw [on_set _ hv, if_neg (by omega)]
  · rw [List.mem_append] at hk
    rcases hk with z | z
    · exact I.wlt k (by simp [z])
    · exact (mem_users.mp z).1
theorem AlwInv.stop {g : List Gate} {i v0 v : Row} (h0 : v0.length = g.length) (I : AlwInv g i v0 v []) : v = always g i v0 :=
  always_of h0 (fun k hk => I.ok k hk (by simp)) I.le I.ge
/-- what falls -/
def mw (f : Nat → Nat) : Nat → Row → Nat
  | _, [] => 0
  | p, x :: r => (if x = 2 then 0 else f p) + mw f (p + 1) r
theorem mw_set (f : Nat → Nat) : ∀ (p k : Nat) (v : Row), k < v.length → on v k ≠ 2 → mw f p (v.set k 2) + f (p + k) = mw f p v
  | p, k, [], h, _ => by simp at h
  | p, 0, x :: r, _, n => by
    rw [on_zero] at n
    simp [mw, n]; omega
  | p, k + 1, x :: r, h, n => by
    rw [on_succ] at n
    have := mw_set f (p + 1) k r (by simpa using h) n
    simp only [List.set_cons_succ, mw]
    have e : p + (k + 1) = p + 1 + k := by omega
    rw [e]; omega
theorem sum_zero : ∀ S : List Nat, (S.map fun _ => 0).sum = 0
  | [] => rfl
  | _ :: S => by simp only [List.map_cons, List.sum_cons, sum_zero S]
theorem users_sum (g : List Gate) (n : Nat) : ∀ (S : List Nat), S.Nodup → (S.map fun s => (users g s).length).sum ≤ 2 * g.length := by
  have key : ∀ (g : List Gate) (p : Nat) (S : List Nat), S.Nodup → (S.map fun s => (usersFrom p g s).length).sum ≤ 2 * g.length := by
    intro g
    induction g with
    | nil => intro p S _; simp only [usersFrom, List.length_nil, sum_zero]; omega
    | cons x r ih =>
      intro p S nd
      have a := ih (p + 1) S nd
      have b : ∀ (l S : List Nat), S.Nodup → (S.map fun s => (l.filter (fun y => y == s)).length).sum ≤ l.length := by
        intro l
        induction l with
        | nil => intro S _; simp only [List.filter_nil, List.length_nil, sum_zero]; omega
        | cons y l ih =>
          intro S nd
          have c := ih S nd
          have d : ∀ S : List Nat, S.Nodup → (S.map fun s => ((y :: l).filter (fun y => y == s)).length).sum ≤ (S.map fun s => (l.filter (fun y => y == s)).length).sum + 1 ∧ (y ∉ S → (S.map fun s => ((y :: l).filter (fun y => y == s)).length).sum = (S.map fun s => (l.filter (fun y => y == s)).length).sum) := by
            intro S
            induction S with
            | nil => intro _; simp
            | cons s S ih2 =>
              intro nd
              obtain ⟨n1, n2⟩ := List.nodup_cons.mp nd
              obtain ⟨i1, i2⟩ := ih2 n2
              simp only [List.map_cons, List.sum_cons]
              by_cases e : y = s
              · subst e
                rw [i2 n1]
                simp [List.filter_cons]
                omega
              · have : ((y :: l).filter (fun y => y == s)) = l.filter (fun y => y == s) := by simp [List.filter_cons, e]
                rw [this]
                refine ⟨by omega, fun q => ?_⟩
                rw [i2 (by simp at q; exact q.2)]
          have := (d S nd).1
          simp only [List.length_cons]; omega
      have c := b (srcs x) S nd
      have d : (srcs x).length ≤ 2 := by unfold srcs; split <;> simp
      have e : (S.map fun s => (usersFrom p (x :: r) s).length).sum = (S.map fun s => ((srcs x).filter (fun y => y == s)).length).sum + (S.map fun s => (usersFrom (p + 1) r s).length).sum := by
        clear a b c nd
        induction S with
        | nil => simp
        | cons s S ih =>
          simp only [List.map_cons, List.sum_cons]
          rw [ih]
          simp only [usersFrom, List.length_append, List.length_map]; omega
      simp only [List.length_cons]; omega
  intro S nd
  exact key g 0 S nd
theorem mw_sum (f : Nat → Nat) : ∀ (p : Nat) (v : Row), mw f p v ≤ ((List.range' p v.length).map f).sum
  | p, [] => by simp [mw]
  | p, x :: r => by
    have := mw_sum f (p + 1) r
    simp only [mw, List.length_cons, List.range'_succ, List.map_cons, List.sum_cons]
    split <;> omega
theorem mw_users (g : List Gate) (v : Row) (n : Nat) : mw (fun j => (users g (n + j)).length) 0 v ≤ 2 * g.length := by
  refine Nat.le_trans (mw_sum _ 0 v) ?_
  have e : (List.range' 0 v.length).map (fun j => (users g (n + j)).length) = ((List.range' 0 v.length).map fun j => n + j).map fun s => (users g s).length := by
    rw [List.map_map]; rfl
  rw [e]
  refine users_sum g n _ ?_
  have : (List.range' 0 v.length).map (fun j => n + j) = List.range' n v.length := by
    simpa using List.map_add_range' (a := n) 0 v.length 1
  rw [this]
  exact List.nodup_range'
end Wb

namespace Wb
open Kp148

/-! ### What's so in the end -/
theorem atRest_iter {g : List Gate} {l i v : Row} : atRest g l i v = iter (narrower g i) (g.length + 1) (always g l v) := by unfold atRest; rw [again_iter]
theorem stable_up {g : List Gate} {l i v : Row} (hli : LeL l i) (hv : v.length = g.length) (s : Stable g l v) : LeL v (narrower g i v) := by
  refine ⟨by rw [narrower_len, hv], fun k => ?_⟩
  by_cases hk : k < g.length
  · rw [on_narrower hk]
    rcases s k hk with e | e
    · exact .inl e
    · have m := look_mono (gt g k) (LeL.app hli (.refl v)).le
      rw [e] at m; exact m
  · rw [on_ge (by omega)]; exact .inl rfl
theorem narrower_mono {g : List Gate} {i v u : Row} (h : LeL v u) : LeL (narrower g i v) (narrower g i u) := by
  refine ⟨by rw [narrower_len, narrower_len], fun k => ?_⟩
  by_cases hk : k < g.length
  · rw [on_narrower hk, on_narrower hk]
    exact look_mono _ (LeL.app (.refl i) h).le
  · rw [on_ge (by rw [narrower_len]; omega)]; exact .inl rfl
theorem rest_fix {g : List Gate} {i w : Row} (hw : w.length = g.length) (up : LeL w (narrower g i w)) : narrower g i (iter (narrower g i) (g.length + 1) w) = iter (narrower g i) (g.length + 1) w :=
  asc_fix (f := narrower g i) (I := fun v => LeL v (narrower g i v)) (fun v h => narrower_mono h) (fun v h => h) _ w up (by omega)
theorem rest_ge {g : List Gate} {i w : Row} (up : LeL w (narrower g i w)) : LeL w (iter (narrower g i) (g.length + 1) w) :=
  (iter_inv (I := fun v => LeL v (narrower g i v) ∧ LeL w v) (fun v h => ⟨narrower_mono h.1, h.2.trans h.1⟩) _ ⟨up, .refl _⟩).2
theorem rest_least {g : List Gate} {i w u : Row} (le : LeL w u) (fx : narrower g i u = u) : LeL (iter (narrower g i) (g.length + 1) w) u :=
  iter_inv (I := fun v => LeL v u) (fun v h => by have := narrower_mono (g := g) (i := i) h; rwa [fx] at this) _ le

/-! ### Times -/
def tm (t : Times) (k : Nat) : Option Nat := t.getD k none
theorem tm_lt {t : Times} {k : Nat} (h : k < t.length) : t[k]? = some (tm t k) := by
  unfold tm; rw [List.getD_eq_getElem?_getD, List.getElem?_eq_getElem h]; rfl
theorem tm_ge {t : Times} {k : Nat} (h : t.length ≤ k) : tm t k = none := by
  unfold tm; rw [List.getD_eq_getElem?_getD, List.getElem?_eq_none h]; rfl
theorem tm_of {t : Times} {k : Nat} {x : Option Nat} (h : t[k]? = some x) : tm t k = x := by
  unfold tm; rw [List.getD_eq_getElem?_getD, h]; rfl
theorem tm_set {t : Times} {p : Nat} {x : Option Nat} (k : Nat) (hp : p < t.length) : tm (t.set p x) k = if k = p then x else tm t k := by
  unfold tm
  rw [List.getD_eq_getElem?_getD, List.getElem?_set]
  by_cases h : p = k
  · subst h; simp [hp]
  · simp only [h, if_false, if_neg (fun e : k = p => h e.symm), List.getD_eq_getElem?_getD]
theorem ext_tm {t u : Times} (h : t.length = u.length) (e : ∀ k, k < t.length → tm t k = tm u k) : t = u := by
  apply List.ext_getElem?
  intro k
  by_cases hk : k < t.length
  · rw [tm_lt hk, tm_lt (h ▸ hk), e k hk]
  · rw [List.getElem?_eq_none (by omega), List.getElem?_eq_none (by omega)]
/-- what decides alone -/
def dc (kind : Nat) : Nat := if kind = 1 then 0 else 1
def candV (kind xa : Nat) (ta : Option Nat) (xb : Nat) (tb : Option Nat) : Option Nat :=
  if kind = 0 then ta else
    soonest (soonest (if xa = dc kind then ta else none) (if xb = dc kind then tb else none)) (latest ta tb)
theorem timeBy_eq (i z : Row) (t : Times) (g : Gate) (w : Nat) : timeBy i z t g w = if w ≠ 2 then some 0 else plus (candV g.kind (on z g.a) (timeOf i t g.a) (on z g.b) (timeOf i t g.b)) g.most := by
  unfold timeBy candV ifIs dc
  by_cases h : w ≠ 2
  · rw [if_pos h, if_pos h]
  · rw [if_neg h, if_neg h]
    by_cases k : g.kind = 0
    · rw [if_pos k, if_pos k]
    · rw [if_neg k, if_neg k]
theorem plus_some {t : Option Nat} {n x : Nat} : plus t n = some x ↔ ∃ c, t = some c ∧ c + n = x := by
  unfold plus
  cases t <;> simp
theorem plus_none {t : Option Nat} {n : Nat} : plus t n = none ↔ t = none := by unfold plus; cases t <;> simp
theorem next_len {g : List Gate} {i z w : Row} {t : Times} (h : w.length = g.length) : (nextTimes g i z w t).length = g.length := by unfold nextTimes; simp [h]
theorem tm_next {g : List Gate} {i z w : Row} {t : Times} (h : w.length = g.length) {k : Nat} (hk : k < g.length) : tm (nextTimes g i z w t) k = timeBy i z t (gt g k) (on w k) := by
  apply tm_of
  unfold nextTimes
  have e1 : (g.zip w)[k]? = some (gt g k, on w k) := by
    rw [List.getElem?_zip_eq_some]
    exact ⟨gt_lt hk, on_lt (by omega)⟩
  rw [List.getElem?_map, e1]; rfl
/-- t is no sooner than u -/
def GeT (t u : Option Nat) : Prop := ∀ x, t = some x → ∃ y, u = some y ∧ y ≤ x
theorem GeT.refl (t : Option Nat) : GeT t t := fun x e => ⟨x, e, Nat.le_refl _⟩
theorem soon_none {b : Option Nat} : soonest none b = b := rfl
theorem soon_none' {a : Option Nat} : soonest a none = a := by cases a <;> rfl
theorem soon_some {a b : Nat} : soonest (some a) (some b) = some (min a b) := rfl
theorem late_some {a b : Nat} : latest (some a) (some b) = some (max a b) := rfl
theorem late_none {b : Option Nat} : latest none b = none := rfl
theorem late_none' {a : Option Nat} : latest a none = none := by cases a <;> rfl
theorem GeT.soon {a b a' b' : Option Nat} (h : GeT a a') (k : GeT b b') : GeT (soonest a b) (soonest a' b') := by
  intro x e
  cases a with
  | none =>
    rw [soon_none] at e
    obtain ⟨y, rfl, hy⟩ := k x e
    cases a' with
    | none => exact ⟨y, rfl, hy⟩
    | some z => exact ⟨min z y, rfl, by omega⟩
  | some p =>
    obtain ⟨q, rfl, hq⟩ := h p rfl
    cases b with
    | none =>
      rw [soon_none'] at e; cases e
      cases b' with
      | none => exact ⟨q, rfl, hq⟩
      | some z => exact ⟨min q z, rfl, by omega⟩
    | some r =>
      rw [soon_some] at e; cases e
      obtain ⟨s, rfl, hs⟩ := k r rfl
      exact ⟨min q s, rfl, by omega⟩
theorem GeT.late {a b a' b' : Option Nat} (h : GeT a a') (k : GeT b b') : GeT (latest a b) (latest a' b') := by
  intro x e
  cases a with
  | none => rw [late_none] at e; cases e
  | some p =>
    cases b with
    | none => rw [late_none'] at e; cases e
    | some r =>
      rw [late_some] at e; cases e
      obtain ⟨q, rfl, hq⟩ := h p rfl
      obtain ⟨s, rfl, hs⟩ := k r rfl
      exact ⟨max q s, rfl, by omega⟩
theorem GeT.ite {c : Prop} [Decidable c] {a a' : Option Nat} (h : GeT a a') : GeT (if c then a else none) (if c then a' else none) := by
  split
  · exact h
  · exact .refl _
theorem GeT.cand {kind xa xb : Nat} {ta tb ta' tb' : Option Nat} (h : GeT ta ta') (k : GeT tb tb') : GeT (candV kind xa ta xb tb) (candV kind xa ta' xb tb') := by
  unfold candV
  by_cases e : kind = 0
  · rw [if_pos e, if_pos e]; exact h
  · rw [if_neg e, if_neg e]; exact .soon (.soon (.ite h) (.ite k)) (.late h k)
theorem GeT.plus {a a' : Option Nat} {n : Nat} (h : GeT a a') : GeT (Kp148.plus a n) (Kp148.plus a' n) := by
  intro x e
  obtain ⟨c, rfl, rfl⟩ := plus_some.mp e
  obtain ⟨y, rfl, hy⟩ := h c rfl
  exact ⟨y + n, rfl, by omega⟩
theorem soon_cases {a b : Option Nat} {c : Nat} : soonest a b = some c → (a = some c ∨ b = some c) ∧ (∀ x, a = some x → c ≤ x) ∧ (∀ x, b = some x → c ≤ x) := by
  intro e
  cases a with
  | none => rw [soon_none] at e; subst e; simp
  | some p =>
    cases b with
    | none => rw [soon_none'] at e; cases e; simp
    | some r => rw [soon_some] at e; cases e; simp; omega
theorem soon_mk {a b : Option Nat} {c : Nat} (h : a = some c ∨ b = some c) (h1 : ∀ x, a = some x → c ≤ x) (h2 : ∀ x, b = some x → c ≤ x) : soonest a b = some c := by
  cases a with
  | none => simp at h; subst h; rfl
  | some p =>
    have := h1 p rfl
    cases b with
    | none => simp at h; subst h; rfl
    | some r =>
      have := h2 r rfl
      rw [soon_some]; simp at h; congr 1; omega
theorem late_cases {a b : Option Nat} {c : Nat} : latest a b = some c → ∃ x y, a = some x ∧ b = some y ∧ c = max x y := by
  intro e
  cases a with
  | none => rw [late_none] at e; cases e
  | some p =>
    cases b with
    | none => rw [late_none'] at e; cases e
    | some r => rw [late_some] at e; cases e; exact ⟨p, r, rfl, rfl, rfl⟩
/-- what is used stands right: so what is made of it -/
theorem cand_right {kind xa xb c : Nat} {ta tb ua ub : Option Nat} (e : candV kind xa ta xb tb = some c) (ga : GeT ua ta) (gb : GeT ub tb) (ha : ∀ y, y ≤ c → ta = some y → ua = some y) (hb : kind ≠ 0 → ∀ y, y ≤ c → tb = some y → ub = some y) :
    candV kind xa ua xb ub = some c := by
  have G : GeT (candV kind xa ua xb ub) (candV kind xa ta xb tb) := .cand ga gb
  have low : ∀ x, candV kind xa ua xb ub = some x → c ≤ x := fun x q => by
    obtain ⟨y, e1, e2⟩ := G x q
    rw [e] at e1; cases e1; exact e2
  unfold candV at e
  by_cases k : kind = 0
  · rw [if_pos k] at e
    unfold candV; rw [if_pos k]; exact ha c (Nat.le_refl _) e
  · rw [if_neg k] at e
    have hb := hb k
    have up : ∃ x, candV kind xa ua xb ub = some x ∧ x ≤ c := by
      unfold candV; rw [if_neg k]
      have s1 : ∀ {a b : Option Nat} {z : Nat}, a = some z → ∃ x, soonest a b = some x ∧ x ≤ z := by
        intro a b z q; subst q
        cases b with
        | none => exact ⟨z, rfl, Nat.le_refl _⟩
        | some y => exact ⟨min z y, rfl, by omega⟩
      have s2 : ∀ {a b : Option Nat} {z : Nat}, b = some z → ∃ x, soonest a b = some x ∧ x ≤ z := by
        intro a b z q; subst q
        cases a with
        | none => exact ⟨z, rfl, Nat.le_refl _⟩
        | some y => exact ⟨min y z, rfl, by omega⟩
      rcases (soon_cases e).1 with e1 | e1
      · rcases (soon_cases e1).1 with e2 | e2
        · have q : (if xa = dc kind then ua else none) = some c := by
            by_cases z : xa = dc kind
            · rw [if_pos z] at e2 ⊢; exact ha c (Nat.le_refl _) e2
            · rw [if_neg z] at e2; cases e2
          obtain ⟨x, p1, p2⟩ := s1 (b := (if xb = dc kind then ub else none)) q
          obtain ⟨y, p3, p4⟩ := s1 (b := latest ua ub) p1
          exact ⟨y, p3, by omega⟩
        · have q : (if xb = dc kind then ub else none) = some c := by
            by_cases z : xb = dc kind
            · rw [if_pos z] at e2 ⊢; exact hb c (Nat.le_refl _) e2
            · rw [if_neg z] at e2; cases e2
          obtain ⟨x, p1, p2⟩ := s2 (a := (if xa = dc kind then ua else none)) q
          obtain ⟨y, p3, p4⟩ := s1 (b := latest ua ub) p1
          exact ⟨y, p3, by omega⟩
      · obtain ⟨x, y, q1, q2, q3⟩ := late_cases e1
        have l : latest ua ub = some c := by
          rw [ha x (by omega) q1, hb y (by omega) q2, q3]; rfl
        exact s2 l
    obtain ⟨x, p1, p2⟩ := up
    have := low x p1
    rw [p1]; congr 1; omega
def rk (x : Nat) : Times → Nat
  | [] => 0
  | e :: r => (match e with | some y => if y < x then 1 else 0 | none => 0) + rk x r
theorem rk_le (x : Nat) : ∀ t : Times, rk x t ≤ t.length
  | [] => Nat.le_refl _
  | e :: r => by
    have := rk_le x r
    simp only [rk, List.length_cons]
    cases e with
    | none => simp; omega
    | some y => simp only; split <;> omega
theorem rk_mono {x y : Nat} (h : y < x) : ∀ t : Times, rk y t ≤ rk x t ∧ ((some y) ∈ t → rk y t < rk x t)
  | [] => by simp [rk]
  | e :: r => by
    obtain ⟨a, b⟩ := rk_mono h r
    simp only [rk]
    cases e with
    | none => exact ⟨by simp; exact a, fun m => by simp at m ⊢; exact b m⟩
    | some z =>
      simp only
      refine ⟨by split <;> split <;> omega, fun m => ?_⟩
      simp at m
      rcases m with m | m
      · subst m; simp [h]; omega
      · have := b m
        split <;> split <;> omega
theorem times_of {g : List Gate} {i z w : Row} {t : Times} (hw : w.length = g.length) (ht : t.length = g.length) (hm : ∀ k, k < g.length → 1 ≤ (gt g k).most)
    (fx : nextTimes g i z w t = t) : iter (nextTimes g i z w) (g.length + 1) (List.replicate g.length none) = t := by
  let f := nextTimes g i z w
  let N : Times := List.replicate g.length none
  have len : ∀ m, (iter f m N).length = g.length := fun m => by
    cases m with
    | zero => simp [iter, N]
    | succ m => rw [iter_succ]; exact next_len hw
  have tog : ∀ {u u' : Times}, (∀ k, GeT (tm u k) (tm u' k)) → ∀ k, GeT (timeOf i u k) (timeOf i u' k) := by
    intro u u' h k
    unfold timeOf
    split
    · exact .refl _
    · exact h _
  have ge : ∀ m k, GeT (tm (iter f m N) k) (tm t k) := by
    intro m
    induction m with
    | zero =>
      intro k x e
      have : tm N k = none := by
        unfold tm; rw [List.getD_eq_getElem?_getD, List.getElem?_replicate]; split <;> rfl
      have e' : tm N k = some x := e
      rw [this] at e'; cases e'
    | succ m ih =>
      intro k
      by_cases hk : k < g.length
      · rw [iter_succ]
        have a := tm_next (i := i) (z := z) (t := iter f m N) hw hk
        have b := tm_next (i := i) (z := z) (t := t) hw hk
        rw [fx] at b
        show GeT (tm (nextTimes g i z w (iter f m N)) k) _
        rw [a, b, timeBy_eq, timeBy_eq]
        split
        · exact .refl _
        · exact .plus (.cand (tog ih _) (tog ih _))
      · rw [tm_ge (by rw [len]; omega)]; intro x e; cases e
  have right : ∀ m k x, k < g.length → tm t k = some x → rk x t < m → tm (iter f m N) k = some x := by
    intro m
    induction m with
    | zero => intro k x _ _ h; omega
    | succ m ih =>
      intro k x hk e hr
      have b := tm_next (i := i) (z := z) (t := t) hw hk
      rw [fx, e, timeBy_eq] at b
      have a := tm_next (i := i) (z := z) (t := iter f m N) hw hk
      rw [iter_succ]
      show tm (nextTimes g i z w (iter f m N)) k = some x
      rw [a, timeBy_eq]
      by_cases hwk : on w k ≠ 2
      · rw [if_pos hwk] at b ⊢; exact b.symm
      · rw [if_neg hwk] at b ⊢
        obtain ⟨c, hc, hx⟩ := plus_some.mp b.symm
        have hmk := hm k hk
        have sub : ∀ s y, y ≤ c → timeOf i t s = some y → timeOf i (iter f m N) s = some y := by
          intro s y hy hs
          unfold timeOf at hs ⊢
          split
          · next q => rw [if_pos q] at hs; exact hs
          · next q =>
            rw [if_neg q] at hs
            have hs' : tm t (s - i.length) = some y := hs
            have hl : s - i.length < t.length := by
              rcases Nat.lt_or_ge (s - i.length) t.length with z | z
              · exact z
              · rw [tm_ge z] at hs'; cases hs'
            have mem : some y ∈ t := by
              have := tm_lt hl
              rw [hs'] at this
              exact List.mem_of_getElem? this
            have := (rk_mono (x := x) (y := y) (by omega) t).2 mem
            exact ih _ y (by omega) hs' (by omega)
        exact plus_some.mpr ⟨c, cand_right hc (tog (ge m) _) (tog (ge m) _) (sub _) (fun _ => sub _), hx⟩
  refine ext_tm ((len _).trans ht.symm) fun k hk => ?_
  have hk' : k < g.length := by rw [← len (g.length + 1)]; exact hk
  show tm (iter f (g.length + 1) N) k = tm t k
  cases e : tm t k with
  | some x => exact right _ k x hk' e (by have := rk_le x t; omega)
  | none =>
    cases q : tm (iter f (g.length + 1) N) k with
    | none => rfl
    | some x =>
      obtain ⟨y, h1, _⟩ := ge _ k x q
      rw [e] at h1; cases h1
end Wb

namespace Wb
open Kp148

def Stp (y x : Nat) (t : Option Nat) (x' : Nat) (t' : Option Nat) : Prop := (x' = x ∧ t' = t) ∨ (x = 2 ∧ t = none ∧ t' = some y)
theorem dc_le (k : Nat) : dc k ≤ 1 := by unfold dc; split <;> omega
theorem cand_none {kind xa xb : Nat} {ta tb : Option Nat} (hk : kind ≤ 2) (ha : xa ≤ 2) (hb : xb ≤ 2) (ea : ta = none ↔ xa = 2) (eb : tb = none ↔ xb = 2) : candV kind xa ta xb tb = none ↔ lookV kind xa xb = 2 := by
  have e2 : ∀ {t : Option Nat} {x : Nat}, (t = none ↔ x = 2) → (x = 2 ∧ t = none) ∨ (x ≠ 2 ∧ ∃ y, t = some y) := by
    intro t x e
    cases t with
    | none => exact .inl ⟨e.mp rfl, rfl⟩
    | some y =>
      refine .inr ⟨fun z => ?_, y, rfl⟩
      have q := e.mpr z
      cases q
  unfold candV lookV dc
  rcases (by omega : kind = 0 ∨ kind = 1 ∨ kind = 2) with rfl | rfl | rfl <;>
  rcases e2 ea with ⟨rfl, rfl⟩ | ⟨na, p, rfl⟩ <;> rcases e2 eb with ⟨rfl, rfl⟩ | ⟨nb, q, rfl⟩ <;>
  (try (rcases (by omega : xa = 0 ∨ xa = 1) with rfl | rfl)) <;> (try (rcases (by omega : xb = 0 ∨ xb = 1) with rfl | rfl)) <;>
  simp [soonest, latest]
theorem cand_keep {kind xa xb y c xa' xb' : Nat} {ta tb ta' tb' : Option Nat} (sa : Stp y xa ta xa' ta') (sb : Stp y xb tb xb' tb') (e : candV kind xa ta xb tb = some c) (hc : c ≤ y) : candV kind xa' ta' xb' tb' = some c := by
  have hd := dc_le kind
  have n2 : ¬ (2 = dc kind) := by omega
  by_cases k : kind = 0
  · unfold candV at e ⊢
    rw [if_pos k] at e ⊢
    rcases sa with ⟨rfl, rfl⟩ | ⟨_, rfl, _⟩
    · exact e
    · cases e
  · unfold candV at e ⊢
    rw [if_neg k] at e ⊢
    rcases sa with ⟨rfl, rfl⟩ | ⟨rfl, rfl, rfl⟩ <;> rcases sb with ⟨rfl, rfl⟩ | ⟨rfl, rfl, rfl⟩
    · exact e
    · rw [if_neg n2, late_none', soon_none', soon_none'] at e
      rw [e]
      by_cases q : xb' = dc kind
      · rw [if_pos q]
        by_cases q1 : xa' = dc kind
        · rw [if_pos q1] at e; subst e; simp only [soonest, latest]; congr 1; omega
        · rw [if_neg q1] at e; cases e
      · rw [if_neg q]
        by_cases q1 : xa' = dc kind
        · rw [if_pos q1] at e; subst e; simp only [soonest, latest]; congr 1; omega
        · rw [if_neg q1] at e; cases e
    · rw [if_neg n2, late_none, soon_none, soon_none'] at e
      rw [e]
      by_cases q1 : xb' = dc kind
      · rw [if_pos q1] at e; subst e
        by_cases q : xa' = dc kind
        · rw [if_pos q]; simp only [soonest, latest]; congr 1; omega
        · rw [if_neg q]; simp only [soonest, latest]; congr 1; omega
      · rw [if_neg q1] at e; cases e
    · rw [if_neg n2] at e; cases e
theorem cand_new {kind xa xb y xa' xb' : Nat} {ta tb ta' tb' : Option Nat} (sa : Stp y xa ta xa' ta') (sb : Stp y xb tb xb' tb') (e : candV kind xa ta xb tb = none) (la : ∀ z, ta = some z → z ≤ y) (lb : ∀ z, tb = some z → z ≤ y) :
    candV kind xa' ta' xb' tb' = none ∨ candV kind xa' ta' xb' tb' = some y := by
  by_cases k : kind = 0
  · unfold candV at e ⊢
    rw [if_pos k] at e ⊢
    rcases sa with ⟨rfl, rfl⟩ | ⟨_, _, rfl⟩
    · exact .inl e
    · exact .inr rfl
  · unfold candV at e ⊢
    rw [if_neg k] at e ⊢
    rcases sa with ⟨rfl, rfl⟩ | ⟨rfl, rfl, rfl⟩ <;> rcases sb with ⟨rfl, rfl⟩ | ⟨rfl, rfl, rfl⟩
    · exact .inl e
    · cases ta' with
      | none =>
        by_cases q : xb' = dc kind
        · right; rw [if_pos q, ite_self]; rfl
        · left; rw [if_neg q, ite_self]; rfl
      | some z =>
        have := la z rfl
        by_cases q : xa' = dc kind
        · rw [if_pos q, late_none', soon_none'] at e
          exfalso; revert e; split <;> intro e <;> cases e
        · right
          by_cases q1 : xb' = dc kind
          · rw [if_neg q, if_pos q1]; simp only [soonest, latest]; congr 1; omega
          · rw [if_neg q, if_neg q1]; simp only [soonest, latest]; congr 1; omega
    · cases tb' with
      | none =>
        by_cases q : xa' = dc kind
        · right; rw [if_pos q, ite_self]; rfl
        · left; rw [if_neg q, ite_self]; rfl
      | some z =>
        have := lb z rfl
        by_cases q : xb' = dc kind
        · rw [if_pos q, late_none, soon_none'] at e
          exfalso; revert e; split <;> intro e <;> cases e
        · right
          by_cases q1 : xa' = dc kind
          · rw [if_neg q, if_pos q1]; simp only [soonest, latest]; congr 1; omega
          · rw [if_neg q, if_neg q1]; simp only [soonest, latest]; congr 1; omega
    · right
      by_cases q : xa' = dc kind
      · by_cases q1 : xb' = dc kind
        · rw [if_pos q, if_pos q1]; simp only [soonest, latest]; congr 1; omega
        · rw [if_pos q, if_neg q1]; simp only [soonest, latest]; congr 1; omega
      · by_cases q1 : xb' = dc kind
        · rw [if_neg q, if_pos q1]; simp only [soonest, latest]; congr 1; omega
        · rw [if_neg q, if_neg q1]; simp only [soonest, latest]; congr 1; omega

def ts (ins v : Row) (t : Times) (s : Nat) : Option Nat := if on (ins ++ v) s = 2 then none else timeOf ins t s
def cd (g : List Gate) (ins v : Row) (t : Times) (k : Nat) : Option Nat :=
  candV (gt g k).kind (on (ins ++ v) (gt g k).a) (ts ins v t (gt g k).a) (on (ins ++ v) (gt g k).b) (ts ins v t (gt g k).b)
structure Stat (g : List Gate) (ins w Z : Row) : Prop where
  kind : ∀ k, k < g.length → (gt g k).kind ≤ 2
  most : ∀ k, k < g.length → 1 ≤ (gt g k).most
  bits : ∀ k, k < ins.length → on ins k ≤ 1
  wl : w.length = g.length
  zl : Z.length = g.length
  w2 : ∀ k, on w k ≤ 2
  up : LeL w (narrower g ins w)
  wZ : LeL w Z
  fz : narrower g ins Z = Z
structure EndInv (g : List Gate) (ins w Z v : Row) (t : Times) (E : List (Nat × Nat)) (now : Nat) (todo : List Nat) : Prop where
  lv : v.length = g.length
  lt : t.length = g.length
  le : LeL v Z
  wle : LeL w v
  sett : ∀ k, k < g.length → on v k ≠ 2 → ∃ x, tm t k = some x ∧ x ≤ now
  w0 : ∀ k, k < g.length → on w k ≠ 2 → tm t k = some 0
  lk : ∀ k, k < g.length → on v k ≠ 2 → look (gt g k) (ins ++ v) = on v k
  ag : ∀ x k, (x, k) ∈ E ↔ (k < g.length ∧ on v k = 2 ∧ tm t k = some x)
  nd : (E.map (·.2)).Nodup
  so : E.Pairwise (fun a b => b.1 ≤ a.1)
  ge : ∀ e, e ∈ E → now ≤ e.1
  just : ∀ k, k < g.length → ∀ x, tm t k = some x → on w k = 2 → ∃ c, cd g ins v t k = some c ∧ c + (gt g k).most = x ∧ c ≤ now
  un : ∀ k, k < g.length → tm t k = none → cd g ins v t k = none ∨ (k ∈ todo ∧ cd g ins v t k = some now)
  tlt : ∀ k, k ∈ todo → k < g.length
section
variable {g : List Gate} {ins w Z v : Row} {t : Times} {E : List (Nat × Nat)} {now : Nat} {todo : List Nat}
theorem Stat.zle (S : Stat g ins w Z) (k : Nat) : on Z k ≤ 2 := by
  by_cases hk : k < g.length
  · have := on_narrower (i := ins) (v := Z) hk
    rw [S.fz] at this; rw [this]; exact look_le _ _
  · rw [on_ge (by rw [S.zl]; omega)]; omega
theorem on_le_of (S : Stat g ins w Z) {v : Row} (h : LeL v Z) (s : Nat) : on (ins ++ v) s ≤ 2 := by
  rw [on_app]
  split
  · next q => have := S.bits s q; omega
  · rcases h.le (s - ins.length) with e | e
    · omega
    · rw [e]; exact S.zle _
theorem EndInv.tsn (S : Stat g ins w Z) (I : EndInv g ins w Z v t E now todo) (s : Nat) : ts ins v t s = none ↔ on (ins ++ v) s = 2 := by
  unfold ts
  constructor
  · intro e
    by_cases q : on (ins ++ v) s = 2
    · exact q
    · rw [if_neg q] at e
      unfold timeOf at e
      rw [on_app] at q
      by_cases p : s < ins.length
      · rw [if_pos p] at e q
        rw [if_neg q] at e; cases e
      · rw [if_neg p] at e q
        have hl : s - ins.length < g.length := by
          rcases Nat.lt_or_ge (s - ins.length) g.length with z | z
          · exact z
          · exact absurd (on_ge (by rw [I.lv]; exact z)) q
        obtain ⟨x, e1, _⟩ := I.sett _ hl q
        have e' : tm t (s - ins.length) = none := e
        rw [e1] at e'; cases e'
  · intro e; rw [if_pos e]
theorem EndInv.tsle (S : Stat g ins w Z) (I : EndInv g ins w Z v t E now todo) (s z : Nat) (e : ts ins v t s = some z) : z ≤ now := by
  unfold ts at e
  by_cases q : on (ins ++ v) s = 2
  · rw [if_pos q] at e; cases e
  · rw [if_neg q] at e
    unfold timeOf at e
    rw [on_app] at q
    by_cases p : s < ins.length
    · rw [if_pos p] at e q
      rw [if_neg q] at e; cases e; omega
    · rw [if_neg p] at e q
      have hl : s - ins.length < g.length := by
        rcases Nat.lt_or_ge (s - ins.length) g.length with z | z
        · exact z
        · exact absurd (on_ge (by rw [I.lv]; exact z)) q
      obtain ⟨x, e1, e2⟩ := I.sett _ hl q
      have e' : tm t (s - ins.length) = some z := e
      rw [e1] at e'; cases e'; exact e2
theorem EndInv.cdn (S : Stat g ins w Z) (I : EndInv g ins w Z v t E now todo) {k : Nat} (hk : k < g.length) : cd g ins v t k = none ↔ look (gt g k) (ins ++ v) = 2 :=
  cand_none (S.kind k hk) (on_le_of S I.le _) (on_le_of S I.le _) (I.tsn S _) (I.tsn S _)
theorem EndInv.noted (S : Stat g ins w Z) (I : EndInv g ins w Z v t E now todo) {k : Nat} (hk : k < g.length) (h : tm t k ≠ none) : look (gt g k) (ins ++ v) ≠ 2 := by
  by_cases q : on w k = 2
  · cases e : tm t k with
    | none => exact absurd e h
    | some x =>
      obtain ⟨c, h1, _⟩ := I.just k hk x e q
      intro z
      rw [(I.cdn S hk).mpr z] at h1; cases h1
  · rcases I.wle.le k with z | z
    · exact absurd z q
    · rw [I.lk k hk (by rw [← z]; exact q), ← z]; exact q
/-- the times at first -/
def t0 (w : Row) : Times := w.map fun x => if x = 2 then none else some 0
theorem tm_t0 {k : Nat} (hk : k < w.length) : tm (t0 w) k = if on w k = 2 then none else some 0 := by
  apply tm_of
  unfold t0
  rw [List.getElem?_map, on_lt hk]; rfl
theorem EndInv.start (S : Stat g ins w Z) : EndInv g ins w Z w (t0 w) [] 0 (List.range g.length) := by
  have h0 : ∀ s, Stp 0 2 none (on (ins ++ w) s) (ts ins w (t0 w) s) := by
    intro s
    unfold ts
    by_cases q : on (ins ++ w) s = 2
    · rw [if_pos q]; exact .inl ⟨q, rfl⟩
    · rw [if_neg q]
      refine .inr ⟨rfl, rfl, ?_⟩
      rw [on_app] at q
      unfold timeOf
      by_cases p : s < ins.length
      · rw [if_pos p] at q ⊢; rw [if_neg q]
      · rw [if_neg p] at q ⊢
        have hl : s - ins.length < w.length := by
          rcases Nat.lt_or_ge (s - ins.length) w.length with z | z
          · exact z
          · exact absurd (on_ge z) q
        have := tm_t0 hl
        rw [if_neg q] at this; exact this
  refine ⟨S.wl, by unfold t0; simp [S.wl], S.wZ, .refl _, fun k hk h => ⟨0, by rw [tm_t0 (by rw [S.wl]; exact hk), if_neg h], Nat.le_refl _⟩, fun k hk h => by rw [tm_t0 (by rw [S.wl]; exact hk), if_neg h], fun k hk h => ?_,
    fun x k => ⟨fun z => (by cases z), fun ⟨h1, h2, h3⟩ => by rw [tm_t0 (by rw [S.wl]; exact h1), if_pos h2] at h3; cases h3⟩, by simp, by simp, fun e h => (by cases h), fun k hk x e h => ?_, fun k hk e => ?_, fun k h => List.mem_range.mp h⟩
  · rcases S.up.le k with e | e
    · exact absurd e h
    · rw [on_narrower hk] at e; exact e.symm
  · rw [tm_t0 (by rw [S.wl]; exact hk), if_pos h] at e; cases e
  · rcases cand_new (kind := (gt g k).kind) (h0 (gt g k).a) (h0 (gt g k).b) (by unfold candV; rw [ite_self]; split <;> rfl) (fun z e => by cases e) (fun z e => by cases e) with q | q
    · exact .inl q
    · exact .inr ⟨List.mem_range.mpr hk, q⟩
theorem EndInv.skip {k : Nat} (S : Stat g ins w Z) (I : EndInv g ins w Z v t E now (k :: todo)) (h : tm t k ≠ none ∨ look (gt g k) (ins ++ v) = 2) : EndInv g ins w Z v t E now todo :=
  ⟨I.lv, I.lt, I.le, I.wle, I.sett, I.w0, I.lk, I.ag, I.nd, I.so, I.ge, I.just, fun j hj e => by
    rcases I.un j hj e with q | ⟨q1, q2⟩
    · exact .inl q
    · by_cases z : j = k
      · subst z
        rcases h with h | h
        · exact absurd e h
        · exact .inl ((I.cdn S hj).mpr h)
      · exact .inr ⟨(List.mem_cons.mp q1).resolve_left z, q2⟩, fun j hj => I.tlt j (List.mem_cons_of_mem _ hj)⟩
theorem ts_note {k : Nat} {x : Option Nat} (hl : k < t.length) (hv : on v k = 2) (s : Nat) : ts ins v (t.set k x) s = ts ins v t s := by
  unfold ts
  by_cases q : on (ins ++ v) s = 2
  · rw [if_pos q, if_pos q]
  · rw [if_neg q, if_neg q]
    unfold timeOf
    by_cases p : s < ins.length
    · rw [if_pos p, if_pos p]
    · rw [if_neg p, if_neg p]
      rw [on_app, if_neg p] at q
      show tm (t.set k x) _ = tm t _
      rw [tm_set _ hl, if_neg (fun z => q (by rw [z]; exact hv))]
theorem cd_note {k : Nat} {x : Option Nat} (hl : k < t.length) (hv : on v k = 2) (j : Nat) : cd g ins v (t.set k x) j = cd g ins v t j := by
  unfold cd; rw [ts_note hl hv, ts_note hl hv]
theorem EndInv.note {k : Nat} {E1 E2 : List (Nat × Nat)} (S : Stat g ins w Z) (I : EndInv g ins w Z v t (E1 ++ E2) now (k :: todo)) (h1 : tm t k = none) (h2 : look (gt g k) (ins ++ v) ≠ 2)
    (s1 : ∀ e, e ∈ E1 → now + (gt g k).most ≤ e.1) (s2 : ∀ e, e ∈ E2 → e.1 ≤ now + (gt g k).most) :
    EndInv g ins w Z v (t.set k (some (now + (gt g k).most))) (E1 ++ (now + (gt g k).most, k) :: E2) now todo := by
  have hk := I.tlt k (by simp)
  have hl : k < t.length := by rw [I.lt]; exact hk
  have hv : on v k = 2 := by
    by_cases q : on v k = 2
    · exact q
    · obtain ⟨x, e, _⟩ := I.sett k hk q
      rw [h1] at e; cases e
  have hw : on w k = 2 := by
    rcases I.wle.le k with e | e
    · exact e
    · rw [e]; exact hv
  have hc : cd g ins v t k = some now := by
    rcases I.un k hk h1 with q | q
    · exact absurd ((I.cdn S hk).mp q) h2
    · exact q.2
  have hnk : k ∉ (E1 ++ E2).map (·.2) := fun z => by
    obtain ⟨⟨x, k'⟩, hm, rfl⟩ := List.mem_map.mp z
    obtain ⟨_, _, e⟩ := (I.ag x _).mp hm
    rw [h1] at e; cases e
  refine ⟨I.lv, by simp [I.lt], I.le, I.wle, fun j hj h => ?_, fun j hj h => ?_, I.lk, fun x j => ?_, ?_, ?_, fun e he => ?_, fun j hj x e h => ?_, fun j hj e => ?_, fun j hj => I.tlt j (List.mem_cons_of_mem _ hj)⟩
  · rw [tm_set _ hl, if_neg (fun z => h (by rw [z]; exact hv))]; exact I.sett j hj h
  · rw [tm_set _ hl, if_neg (fun z => h (by rw [z]; exact hw))]; exact I.w0 j hj h
  · have a := I.ag x j
    simp only [List.mem_append, List.mem_cons, Prod.mk.injEq] at a ⊢
    rw [tm_set _ hl]
    by_cases z : j = k
    · subst z
      simp only [if_true, Option.some.injEq]
      constructor
      · rintro (q | ⟨q, _⟩ | q)
        · have := (a.mp (.inl q)).2.2; rw [h1] at this; cases this
        · exact ⟨hk, hv, q.symm⟩
        · have := (a.mp (.inr q)).2.2; rw [h1] at this; cases this
      · rintro ⟨_, _, q⟩; exact .inr (.inl ⟨q.symm, trivial⟩)
    · rw [if_neg z, ← a]
      constructor
      · rintro (q | ⟨_, q⟩ | q)
        · exact .inl q
        · exact absurd q z
        · exact .inr q
      · rintro (q | q)
        · exact .inl q
        · exact .inr (.inr q)
  · have := I.nd
    rw [List.map_append] at this hnk ⊢
    rw [List.map_cons]
    have p : (List.map (fun x : Nat × Nat => x.2) E1 ++ k :: List.map (fun x => x.2) E2).Perm (k :: (List.map (fun x => x.2) E1 ++ List.map (fun x => x.2) E2)) := List.perm_middle
    exact p.nodup_iff.mpr (List.nodup_cons.mpr ⟨hnk, this⟩)
  · have := I.so
    rw [List.pairwise_append] at this ⊢
    obtain ⟨p1, p2, p3⟩ := this
    refine ⟨p1, List.pairwise_cons.mpr ⟨s2, p2⟩, fun a ha b hb => ?_⟩
    rcases List.mem_cons.mp hb with z | z
    · subst z; exact s1 a ha
    · exact p3 a ha b z
  · simp only [List.mem_append, List.mem_cons] at he
    rcases he with q | q | q
    · exact I.ge e (by simp [q])
    · subst q; exact Nat.le_add_right _ _
    · exact I.ge e (by simp [q])
  · rw [cd_note hl hv]
    rw [tm_set _ hl] at e
    by_cases z : j = k
    · subst z
      rw [if_pos rfl] at e; cases e
      exact ⟨now, hc, rfl, Nat.le_refl _⟩
    · rw [if_neg z] at e; exact I.just j hj x e h
  · rw [cd_note hl hv]
    rw [tm_set _ hl] at e
    by_cases z : j = k
    · rw [if_pos z] at e; cases e
    · rw [if_neg z] at e
      rcases I.un j hj e with q | ⟨q1, q2⟩
      · exact .inl q
      · exact .inr ⟨(List.mem_cons.mp q1).resolve_left z, q2⟩
theorem set_up {k x : Nat} (hk : k < v.length) (h : on v k = 2) : LeL v (v.set k x) :=
  ⟨by simp, fun j => by
    rw [on_set j hk]
    split
    · next e => subst e; exact .inl h
    · exact .refl _⟩
theorem EndInv.settle {k x : Nat} (S : Stat g ins w Z) (I : EndInv g ins w Z v t (E ++ [(x, k)]) now []) :
    EndInv g ins w Z (v.set k (look (gt g k) (ins ++ v))) t E x (users g (ins.length + k)) ∧ on v k = 2 ∧ look (gt g k) (ins ++ v) ≠ 2 ∧ tm t k = some x := by
  obtain ⟨hk, hv2, htk⟩ := (I.ag x k).mp (by simp)
  have hv : k < v.length := by rw [I.lv]; exact hk
  have hnow : now ≤ x := I.ge (x, k) (by simp)
  have hlk : look (gt g k) (ins ++ v) ≠ 2 := I.noted S hk (by rw [htk]; intro z; cases z)
  refine ⟨?_, hv2, hlk, htk⟩
  generalize ey : look (gt g k) (ins ++ v) = y at hlk
  have hup : LeL v (v.set k y) := set_up hv hv2
  have hsr : ∀ s, Stp x (on (ins ++ v) s) (ts ins v t s) (on (ins ++ v.set k y) s) (ts ins (v.set k y) t s) ∧ (s ≠ ins.length + k → on (ins ++ v.set k y) s = on (ins ++ v) s ∧ ts ins (v.set k y) t s = ts ins v t s) := by
    intro s
    by_cases z : s = ins.length + k
    · subst z
      have e1 : on (ins ++ v) (ins.length + k) = 2 := by rw [on_app, if_neg (by omega)]; simpa using hv2
      have e2 : on (ins ++ v.set k y) (ins.length + k) = y := by
        rw [on_app, if_neg (by omega), on_set _ hv, if_pos (by omega)]
      refine ⟨.inr ⟨e1, ?_, ?_⟩, fun q => absurd rfl q⟩
      · unfold ts; rw [if_pos e1]
      · unfold ts; rw [e2, if_neg hlk]; unfold timeOf; rw [if_neg (by omega)]
        have : tm t (ins.length + k - ins.length) = some x := by simpa using htk
        exact this
    · have e1 : on (ins ++ v.set k y) s = on (ins ++ v) s := by
        rw [on_app, on_app]
        split
        · rfl
        · rw [on_set _ hv, if_neg (by omega)]
      have e2 : ts ins (v.set k y) t s = ts ins v t s := by unfold ts; rw [e1]
      exact ⟨.inl ⟨e1, e2⟩, fun _ => ⟨e1, e2⟩⟩
  have hla : ∀ s z, ts ins v t s = some z → z ≤ x := fun s z e => Nat.le_trans (I.tsle S s z e) hnow
  have hnd := I.nd
  rw [List.map_append] at hnd
  have hkE : k ∉ E.map (·.2) := fun z => by
    have := (List.nodup_append.mp hnd).2.2 k z k (by simp)
    exact this rfl
  refine ⟨by simp [I.lv], I.lt, ⟨by rw [List.length_set, I.lv, S.zl], fun j => ?_⟩, I.wle.trans hup, fun j hj h => ?_, I.w0, fun j hj h => ?_, fun x' j => ?_, (List.nodup_append.mp hnd).1, (List.pairwise_append.mp I.so).1, fun e he => ?_, fun j hj x' e h => ?_, fun j hj e => ?_, fun j hj => (mem_users.mp hj).1⟩
  · rw [on_set j hv]
    split
    · next q =>
      subst q
      have m := look_mono (gt g j) (LeL.app (.refl ins) I.le).le
      rw [ey] at m
      have q := on_narrower (i := ins) (v := Z) (k := j) hk
      rw [S.fz] at q
      rw [q]; exact m
    · exact I.le.le j
  · by_cases z : j = k
    · subst z; exact ⟨x, htk, Nat.le_refl _⟩
    · rw [on_set j hv, if_neg z] at h
      obtain ⟨a, b, c⟩ := I.sett j hj h
      exact ⟨a, b, Nat.le_trans c hnow⟩
  · have m := look_mono (gt g j) (LeL.app (.refl ins) hup).le
    rw [on_set j hv] at h ⊢
    by_cases z : j = k
    · subst z
      rw [if_pos rfl]
      rw [ey] at m
      rcases m with q | q
      · exact absurd q hlk
      · exact q.symm
    · rw [if_neg z] at h ⊢
      rw [I.lk j hj h] at m
      rcases m with q | q
      · exact absurd q h
      · exact q.symm
  · have a := I.ag x' j
    rw [on_set j hv]
    constructor
    · intro q
      obtain ⟨h1, h2, h3⟩ := a.mp (by simp [q])
      have z : j ≠ k := fun z => hkE (by rw [← z]; exact List.mem_map.mpr ⟨_, q, rfl⟩)
      rw [if_neg z]; exact ⟨h1, h2, h3⟩
    · rintro ⟨h1, h2, h3⟩
      by_cases z : j = k
      · rw [if_pos z] at h2; exact absurd h2 hlk
      · rw [if_neg z] at h2
        have := a.mpr ⟨h1, h2, h3⟩
        simp only [List.mem_append, List.mem_singleton, Prod.mk.injEq] at this
        rcases this with q | q
        · exact q
        · exact absurd q.2 z
  · exact (List.pairwise_append.mp I.so).2.2 e he (x, k) (by simp)
  · obtain ⟨c, h1, h2, h3⟩ := I.just j hj x' e h
    exact ⟨c, cand_keep (hsr _).1 (hsr _).1 h1 (by omega), h2, by omega⟩
  · rcases I.un j hj e with q | ⟨q, _⟩
    · by_cases z : ins.length + k ∈ srcs (gt g j)
      · rcases cand_new (hsr (gt g j).a).1 (hsr (gt g j).b).1 q (hla _) (hla _) with p | p
        · exact .inl p
        · exact .inr ⟨mem_users.mpr ⟨hj, z⟩, p⟩
      · left
        rw [← q]
        unfold cd
        unfold srcs at z
        have ea : (gt g j).a ≠ ins.length + k := fun q => z (by rw [q]; split <;> simp)
        rw [((hsr _).2 ea).1, ((hsr _).2 ea).2]
        by_cases hk0 : (gt g j).kind = 0
        · unfold candV; rw [if_pos hk0, if_pos hk0]
        · rw [if_neg hk0] at z
          have eb : (gt g j).b ≠ ins.length + k := fun q => z (by rw [q]; simp)
          rw [((hsr _).2 eb).1, ((hsr _).2 eb).2]
    · cases q
theorem EndInv.stop (S : Stat g ins w Z) (I : EndInv g ins w Z v t [] now []) : narrower g ins v = v ∧ nextTimes g ins (ins ++ v) w t = t := by
  have hn : ∀ k, k < g.length → on v k = 2 → tm t k = none := fun k hk h => by
    cases e : tm t k with
    | none => rfl
    | some x => exact absurd ((I.ag x k).mpr ⟨hk, h, e⟩) (by simp)
  have hu : ∀ k, k < g.length → tm t k = none → cd g ins v t k = none := fun k hk e => (I.un k hk e).elim id (fun q => by cases q.1)
  have hts : ∀ s, ts ins v t s = timeOf ins t s := fun s => by
    unfold ts
    by_cases q : on (ins ++ v) s = 2
    · rw [if_pos q]
      unfold timeOf
      rw [on_app] at q
      by_cases p : s < ins.length
      · rw [if_pos p] at q; have := S.bits s p; omega
      · rw [if_neg p] at q ⊢
        rcases Nat.lt_or_ge (s - ins.length) g.length with z | z
        · exact (hn _ z q).symm
        · exact (tm_ge (by rw [I.lt]; exact z)).symm
    · rw [if_neg q]
  constructor
  · refine ext_on (by rw [narrower_len, I.lv]) fun k => ?_
    by_cases hk : k < g.length
    · rw [on_narrower hk]
      by_cases q : on v k = 2
      · rw [(I.cdn S hk).mp (hu k hk (hn k hk q)), q]
      · exact I.lk k hk q
    · rw [on_ge (by rw [narrower_len]; omega), on_ge (by rw [I.lv]; omega)]
  · refine ext_tm (by rw [next_len S.wl, I.lt]) fun k hk => ?_
    rw [next_len S.wl] at hk
    rw [tm_next S.wl hk, timeBy_eq, ← hts, ← hts]
    by_cases q : on w k ≠ 2
    · rw [if_pos q, I.w0 k hk q]
    · rw [if_neg q]
      have q : on w k = 2 := Classical.not_not.mp q
      cases e : tm t k with
      | none => exact plus_none.mpr (hu k hk e)
      | some x =>
        obtain ⟨c, h1, h2, _⟩ := I.just k hk x e q
        exact plus_some.mpr ⟨c, h1, h2⟩
theorem EndInv.rest (S : Stat g ins w (iter (narrower g ins) (g.length + 1) w)) (I : EndInv g ins w (iter (narrower g ins) (g.length + 1) w) v t [] now []) :
    v = iter (narrower g ins) (g.length + 1) w ∧ iter (nextTimes g ins (ins ++ v) w) (g.length + 1) (List.replicate g.length none) = t := by
  obtain ⟨h1, h2⟩ := I.stop S
  exact ⟨I.le.antisymm (rest_least I.wle h1), times_of S.wl I.lt S.most h2⟩
end
/-- the statics hold of what's always so -/
theorem Stat.of {g : List Gate} {ins l v : Row} (hk : ∀ k, k < g.length → (gt g k).kind ≤ 2) (hm : ∀ k, k < g.length → 1 ≤ (gt g k).most) (hb : ∀ k, k < ins.length → on ins k ≤ 1) (hl : LeL l ins) (hv : v.length = g.length) (hv2 : ∀ k, on v k ≤ 2) :
    Stat g ins (always g l v) (atRest g l ins v) := by
  have up := stable_up hl (always_len (i := l) hv) (always_stable hv)
  rw [atRest_iter]
  refine ⟨hk, hm, hb, always_len hv, ?_, fun k => ?_, up, rest_ge up, rest_fix (always_len hv) up⟩
  · rw [← (rest_ge up).len]; exact always_len hv
  · rcases (always_le (i := l) hv).le k with e | e
    · omega
    · rw [e]; exact hv2 k
theorem EndInv.done {g : List Gate} {ins l v0 v : Row} {t : Times} {now : Nat} (S : Stat g ins (always g l v0) (atRest g l ins v0)) (I : EndInv g ins (always g l v0) (atRest g l ins v0) v t [] now []) :
    v = atRest g l ins v0 ∧ t = times g l ins v0 := by
  rw [atRest_iter] at S I
  obtain ⟨h1, h2⟩ := I.rest S
  refine ⟨by rw [atRest_iter]; exact h1, ?_⟩
  rw [← h2]
  show _ = again (nextTimes g ins (ins ++ atRest g l ins v0) (always g l v0)) (g.length + 1) (List.replicate g.length none)
  rw [again_iter, atRest_iter, ← h1]
theorem cnt_set : ∀ {v : Row} {k x : Nat}, k < v.length → on v k = 2 → x ≠ 2 → cnt (v.set k x) = cnt v + 1
  | [], k, x, h, _, _ => by simp at h
  | y :: r, 0, x, _, e, n => by rw [on_zero] at e; subst e; simp [cnt, n]; omega
  | y :: r, k + 1, x, h, e, n => by
    rw [on_succ] at e
    have := cnt_set (v := r) (k := k) (x := x) (by simpa using h) e n
    simp only [List.set_cons_succ, cnt]; omega
end Wb

namespace Wb
open Kp148

/-- each time that isn't 0 has its reason -/
def Reasons (g : List Gate) (ins : Row) (t : Times) : Prop :=
  ∀ k x, k < g.length → tm t k = some x → x ≠ 0 → ∃ j c, j ∈ srcs (gt g k) ∧ timeOf ins t j = some c ∧ c + (gt g k).most = x
theorem reasons_of {g : List Gate} {i z w : Row} {t : Times} (hw : w.length = g.length) (fx : nextTimes g i z w t = t) : Reasons g i t := by
  intro k x hk e hx
  have b := tm_next (i := i) (z := z) (t := t) hw hk
  rw [fx, e, timeBy_eq] at b
  by_cases q : on w k ≠ 2
  · rw [if_pos q] at b; cases b; exact absurd rfl hx
  · rw [if_neg q] at b
    obtain ⟨c, h1, h2⟩ := plus_some.mp b.symm
    unfold candV at h1
    by_cases h0 : (gt g k).kind = 0
    · rw [if_pos h0] at h1
      exact ⟨_, c, by unfold srcs; rw [if_pos h0]; simp, h1, h2⟩
    · rw [if_neg h0] at h1
      have sa : (gt g k).a ∈ srcs (gt g k) := by unfold srcs; rw [if_neg h0]; simp
      have sb : (gt g k).b ∈ srcs (gt g k) := by unfold srcs; rw [if_neg h0]; simp
      rcases (soon_cases h1).1 with e1 | e1
      · rcases (soon_cases e1).1 with e2 | e2
        · by_cases z : on z (gt g k).a = dc (gt g k).kind
          · rw [if_pos z] at e2; exact ⟨_, c, sa, e2, h2⟩
          · rw [if_neg z] at e2; cases e2
        · by_cases z : on z (gt g k).b = dc (gt g k).kind
          · rw [if_pos z] at e2; exact ⟨_, c, sb, e2, h2⟩
          · rw [if_neg z] at e2; cases e2
      · obtain ⟨p, q, e3, e4, e5⟩ := late_cases e1
        by_cases z : p ≤ q
        · have : c = q := by omega
          subst this; exact ⟨_, c, sb, e4, h2⟩
        · have : c = p := by omega
          subst this; exact ⟨_, c, sa, e3, h2⟩
/-- times hang on how many inputs there are -/
theorem timeOf_ins {i j : Row} {t : Times} (h : i.length = j.length) (hi : ∀ k, k < i.length → on i k ≤ 1) (hj : ∀ k, k < j.length → on j k ≤ 1) (s : Nat) : timeOf i t s = timeOf j t s := by
  unfold timeOf
  rw [← h]
  by_cases q : s < i.length
  · have a := hi s q
    have b := hj s (by omega)
    rw [if_pos q, if_pos q, if_neg (by omega), if_neg (by omega)]
  · rw [if_neg q, if_neg q]
theorem Reasons.ins {g : List Gate} {i j : Row} {t : Times} (R : Reasons g i t) (h : i.length = j.length) (hi : ∀ k, k < i.length → on i k ≤ 1) (hj : ∀ k, k < j.length → on j k ≤ 1) : Reasons g j t := fun k x hk e hx => by
  obtain ⟨s, c, h1, h2, h3⟩ := R k x hk e hx
  exact ⟨s, c, h1, by rw [← timeOf_ins h hi hj]; exact h2, h3⟩

/-- the order in which a gate's inputs are asked -/
def ordd (g : Gate) : List Nat := if g.kind = 0 then [g.a] else if g.a ≤ g.b then [g.a, g.b] else [g.b, g.a]
theorem mem_ordd {g : Gate} {s : Nat} : s ∈ ordd g ↔ s ∈ srcs g := by
  unfold ordd srcs
  by_cases h : g.kind = 0
  · rw [if_pos h, if_pos h]
  · rw [if_neg h, if_neg h]
    split
    · rfl
    · simp; exact Or.comm
theorem from_eq (a : Kp149.Abs) (t : Times) (g : Gate) (x : Nat) : Kp149.from_ a t g x = (ordd g).find? fun j => plus (timeOf a.ins t j) g.most == some x := rfl
theorem from_some {a : Kp149.Abs} {t : Times} {k x : Nat} (R : Reasons a.gates a.ins t) (hk : k < a.gates.length) (e : tm t k = some x) (hx : x ≠ 0) :
    ∃ j c, Kp149.from_ a t (gt a.gates k) x = some j ∧ j ∈ srcs (gt a.gates k) ∧ timeOf a.ins t j = some c ∧ c + (gt a.gates k).most = x := by
  obtain ⟨j, c, h1, h2, h3⟩ := R k x hk e hx
  rw [from_eq]
  cases q : (ordd (gt a.gates k)).find? fun j => plus (timeOf a.ins t j) (gt a.gates k).most == some x with
  | none =>
    have := List.find?_eq_none.mp q j (mem_ordd.mpr h1)
    rw [h2] at this
    exfalso; apply this
    simp [plus, h3]
  | some j' =>
    have m := List.mem_of_find?_eq_some q
    have p := List.find?_some q
    have p' : plus (timeOf a.ins t j') (gt a.gates k).most = some x := by simpa using p
    obtain ⟨c', e1, e2⟩ := plus_some.mp p'
    exact ⟨j', c', rfl, mem_ordd.mp m, e1, e2⟩
theorem way_zero {a : Kp149.Abs} {t : Times} {n k : Nat} (h : timeOf a.ins t k = some 0) : Kp149.way a t n k = [k] := by
  cases n with
  | zero => rfl
  | succ n =>
    unfold Kp149.way Kp149.whenOf
    rw [h]
    rfl
theorem way_succ {a : Kp149.Abs} {t : Times} {n k x j : Nat} (h : timeOf a.ins t k = some x) (hx : x ≠ 0) (hk : ¬ k < a.ins.length) (hj : Kp149.from_ a t (gt a.gates (k - a.ins.length)) x = some j) : Kp149.way a t (n + 1) k = k :: Kp149.way a t n j := by
  conv => lhs; unfold Kp149.way Kp149.whenOf
  rw [h]
  cases x with
  | zero => exact absurd rfl hx
  | succ x =>
    have e : Kp149.from_ a t (a.gates.getD (k - a.ins.length) default) (x + 1) = some j := hj
    simp only [if_neg hk, e]
/-- steps enough -/
def Fuel (a : Kp149.Abs) (t : Times) (n k : Nat) : Prop := ∀ x, timeOf a.ins t k = some x → x ≠ 0 → rk x t < n
theorem rk_mem {x : Nat} : ∀ {t : Times}, some x ∈ t → rk x t < t.length
  | [], h => by cases h
  | e :: r, h => by
    simp only [rk, List.length_cons]
    rcases List.mem_cons.mp h with q | q
    · subst q
      have := rk_le x r
      simp; omega
    · have := rk_mem q
      cases e with
      | none => simp; omega
      | some y => simp only; split <;> omega
theorem tm_mem {t : Times} {k x : Nat} (h : tm t k = some x) : k < t.length ∧ some x ∈ t := by
  have hl : k < t.length := by
    rcases Nat.lt_or_ge k t.length with z | z
    · exact z
    · rw [tm_ge z] at h; cases h
  refine ⟨hl, ?_⟩
  have := tm_lt hl
  rw [h] at this
  exact List.mem_of_getElem? this
theorem gate_of {a : Kp149.Abs} {t : Times} {k x : Nat} (h : timeOf a.ins t k = some x) (hx : x ≠ 0) : ¬ k < a.ins.length ∧ tm t (k - a.ins.length) = some x := by
  unfold timeOf at h
  by_cases q : k < a.ins.length
  · rw [if_pos q] at h
    split at h
    · cases h
    · cases h; exact absurd rfl hx
  · rw [if_neg q] at h; exact ⟨q, h⟩
theorem Fuel.start {a : Kp149.Abs} {t : Times} (ht : t.length = a.gates.length) (k : Nat) : Fuel a t a.gates.length k := fun x h hx => by
  obtain ⟨h1, h2⟩ := gate_of h hx
  have := rk_mem (tm_mem h2).2
  omega
theorem Fuel.next {a : Kp149.Abs} {t : Times} {n k x j c : Nat} (F : Fuel a t n k) (h : timeOf a.ins t k = some x) (hx : x ≠ 0) (hj : timeOf a.ins t j = some c) (hc : c < x) : ∃ m, n = m + 1 ∧ Fuel a t m j := by
  have := F x h hx
  refine ⟨n - 1, by omega, fun y hy hy0 => ?_⟩
  rw [hj] at hy; cases hy
  obtain ⟨_, h2⟩ := gate_of hj hy0
  have := (rk_mono hc t).2 (tm_mem h2).2
  omega
theorem way_len {a : Kp149.Abs} {t : Times} : ∀ (n k : Nat), (Kp149.way a t n k).length ≤ n + 1
  | 0, k => Nat.le_refl _
  | n + 1, k => by
    unfold Kp149.way
    split
    · simp
    · split
      · have := way_len (a := a) (t := t) n
        simp only [List.length_cons]
        rename_i j _
        have := this j
        omega
      · simp
    · simp
end Wb

namespace Wb
open Kp148 Kp149Neutral

/-! ### A gate, a row of gates, in numbers -/
def encG (g : Gate) : List Int := [(g.kind : Int), (g.a : Int), (g.b : Int), (g.most : Int)]
def encGs (gs : List Gate) : List Int := gs.flatMap encG
theorem encGs_len (gs : List Gate) : (encGs gs).length = 4 * gs.length := by
  unfold encGs
  induction gs with
  | nil => rfl
  | cons g r ih => rw [List.flatMap_cons, List.length_append, ih]; simp [encG]; omega
theorem rdNat_some {l : List Int} {x : Nat} {r : List Int} (h : rdNat l = some (x, r)) : l = (x : Int) :: r := by
  cases l with
  | nil => cases h
  | cons v l =>
    unfold rdNat at h
    dsimp only at h
    by_cases q : 0 ≤ v
    · rw [if_pos q] at h
      have e := Option.some.inj h
      rw [Prod.mk.injEq] at e
      obtain ⟨e1, e2⟩ := e
      rw [← e1, ← e2, Int.toNat_of_nonneg q]
    · rw [if_neg q] at h; cases h
theorem rdGate_some {l r : List Int} {g : Gate} (h : rdKp148_Gate l = some (g, r)) : l = encG g ++ r := by
  unfold rdKp148_Gate at h
  simp only [Option.bind_eq_some_iff] at h
  obtain ⟨⟨k, l1⟩, h1, ⟨a, l2⟩, h2, ⟨b, l3⟩, h3, ⟨m, l4⟩, h4, h5⟩ := h
  dsimp only at h2 h3 h4 h5
  have e := Option.some.inj h5
  rw [Prod.mk.injEq] at e
  obtain ⟨e1, e2⟩ := e
  rw [rdNat_some h1, rdNat_some h2, rdNat_some h3, rdNat_some h4, ← e1, ← e2]
  rfl
theorem rdMany_some : ∀ {n : Nat} {l r : List Int} {gs : List Gate}, rdMany rdKp148_Gate n l = some (gs, r) → gs.length = n ∧ l = encGs gs ++ r
  | 0, l, r, gs, h => by
    unfold rdMany at h
    have e := Option.some.inj h
    rw [Prod.mk.injEq] at e
    obtain ⟨e1, e2⟩ := e
    subst e1; subst e2; exact ⟨rfl, rfl⟩
  | n + 1, l, r, gs, h => by
    unfold rdMany at h
    simp only [Option.bind_eq_some_iff, Option.map_eq_some_iff] at h
    obtain ⟨⟨g, l1⟩, h1, ⟨gs', l2⟩, h2, h3⟩ := h
    rw [Prod.mk.injEq] at h3
    obtain ⟨e1, e2⟩ := h3
    obtain ⟨i1, i2⟩ := rdMany_some h2
    subst e1; subst e2
    refine ⟨by simp [i1], ?_⟩
    have := rdGate_some h1
    rw [this]
    show encG g ++ l1 = encGs (g :: gs') ++ l2
    have i2' : l1 = encGs gs' ++ l2 := i2
    rw [i2']
    unfold encGs
    rw [List.flatMap_cons, List.append_assoc]
theorem rdOpt_some {l : List Int} {o : Option (List Gate)} (h : rdOpt (rdList rdKp148_Gate) l = some (o, [])) : (o = none ∧ l = [0]) ∨ ∃ gs, o = some gs ∧ l = 1 :: (gs.length : Int) :: encGs gs := by
  unfold rdOpt at h
  split at h
  · have e := Option.some.inj h
    rw [Prod.mk.injEq] at e
    exact .inl ⟨e.1.symm, by rw [e.2]⟩
  · rename_i l'
    simp only [Option.map_eq_some_iff] at h
    obtain ⟨⟨gs, r⟩, h1, h2⟩ := h
    rw [Prod.mk.injEq] at h2
    obtain ⟨e1, e2⟩ := h2
    right
    refine ⟨gs, e1.symm, ?_⟩
    unfold rdList at h1
    simp only [Option.bind_eq_some_iff] at h1
    obtain ⟨⟨n, l2⟩, h3, h4⟩ := h1
    by_cases q : n ≤ l2.length + 1
    · rw [if_pos q] at h4
      obtain ⟨i1, i2⟩ := rdMany_some h4
      have e2' : r = [] := e2
      rw [rdNat_some h3, i1]
      have i2' : l2 = encGs gs ++ r := i2
      rw [i2', e2', List.append_nil]
    · rw [if_neg q] at h4; cases h4
  · cases h

/-! ### A call in numbers -/
def enc : Kp149.Call → List Int
  | .start none n => [0, (n : Int), 1, 0]
  | .start (some gs) n => 0 :: (n : Int) :: ((2 + 4 * gs.length : Nat) : Int) :: 1 :: (gs.length : Int) :: encGs gs
  | .set_ i b => [1, (i : Int), (b : Int)]
  | .wait => [2]
  | .get k => [3, (k : Int)]
  | .when_ k => [4, (k : Int)]
  | .why k room => [5, (k : Int), (room : Int)]
  | .longest => [6]
def MayAll : S → List Kp149.Call → Prop
  | _, [] => True
  | s, x :: xs => may s x = true ∧ MayAll (does s x).1 xs
def play : S → List Kp149.Call → List Int
  | _, [] => []
  | s, x :: xs => ((wrKp149_Ans (does s x).2).length : Int) :: wrKp149_Ans (does s x).2 ++ play (does s x).1 xs
theorem natural_nat {z : Int} {b : Nat} (h : natural z b = true) : ((z.toNat : Nat) : Int) = z := by
  unfold natural at h
  rw [Bool.and_eq_true] at h
  exact Int.toNat_of_nonneg (of_decide_eq_true h.1)
theorem row_some {l x s : List Int} (h : PyFlat.row l = some (x, s)) : ∃ (n : Nat), l = (n : Int) :: (x ++ s) ∧ x.length = n := by
  cases l with
  | nil => cases h
  | cons n r =>
    unfold PyFlat.row at h
    dsimp only at h
    by_cases q : 0 ≤ n ∧ n.toNat ≤ r.length
    · rw [if_pos q] at h
      have e := Option.some.inj h
      rw [Prod.mk.injEq] at e
      obtain ⟨e1, e2⟩ := e
      refine ⟨n.toNat, ?_, ?_⟩
      · rw [Int.toNat_of_nonneg q.1, ← e1, ← e2, List.take_append_drop]
      · rw [← e1, List.length_take]; omega
    · rw [if_neg q] at h; cases h
/-- one call as it is handed in, one as the words have it -/
theorem call_some {p : Int} {r t : List Int} {c : List (List Int)} (h : PyFlat.call PyKp149.shape (p :: r) = some (c, t)) :
    (∃ (x : Int) (n : Nat) (y : List Int), p = 0 ∧ r = x :: (n : Int) :: (y ++ t) ∧ y.length = n ∧ c = [[0, x], y]) ∨ (∃ x y, p = 1 ∧ r = x :: y :: t ∧ c = [[1, x, y]]) ∨ (p = 2 ∧ r = t ∧ c = [[2]]) ∨ (∃ x, p = 3 ∧ r = x :: t ∧ c = [[3, x]]) ∨
    (∃ x, p = 4 ∧ r = x :: t ∧ c = [[4, x]]) ∨ (∃ x y, p = 5 ∧ r = x :: y :: t ∧ c = [[5, x, y]]) ∨ (p = 6 ∧ r = t ∧ c = [[6]]) := by
  unfold PyFlat.call at h
  dsimp only at h
  have zero : ∀ {n : Nat} {u : List Int}, PyKp149.shape p = some (n, 0) → (match PyKp149.shape p with | none => none | some (n, k) => if r.length < n then none else match PyFlat.rows k (r.drop n) with | none => none | some (xs, t) => some ((p :: r.take n) :: xs, t)) = some (c, t) → n ≤ r.length ∧ r.drop n = t ∧ c = [p :: r.take n] := by
    intro n u e q
    rw [e] at q
    by_cases z : r.length < n
    · simp only [z, if_true] at q; cases q
    · simp only [z, if_false, PyFlat.rows] at q
      have e := Option.some.inj q
      rw [Prod.mk.injEq] at e
      exact ⟨by omega, e.2, e.1.symm⟩
  by_cases h0 : p = 0
  · subst h0
    left
    have es : PyKp149.shape 0 = some (1, 1) := rfl
    rw [es] at h
    by_cases z : r.length < 1
    · simp only [z, if_true] at h; cases h
    · simp only [z, if_false] at h
      cases r with
      | nil => simp at z
      | cons x r =>
        simp only [List.drop_succ_cons, List.drop_zero, List.take_succ_cons, List.take_zero, PyFlat.rows] at h
        cases e : PyFlat.row r with
        | none => rw [e] at h; cases h
        | some q =>
          obtain ⟨y, s⟩ := q
          rw [e] at h
          have e' := Option.some.inj h
          rw [Prod.mk.injEq] at e'
          obtain ⟨n, e1, e2⟩ := row_some e
          have e3 : s = t := e'.2
          subst e3
          exact ⟨x, n, y, rfl, by rw [e1], e2, e'.1.symm⟩
  by_cases h1 : p = 1
  · subst h1
    obtain ⟨a, b, d⟩ := zero (n := 2) (u := []) rfl h
    right; left
    match r, a, b, d with
    | x :: y :: r, _, b, d => exact ⟨x, y, rfl, by rw [← b]; rfl, by rw [d]; rfl⟩
    | [x], a, _, _ => simp at a
    | [], a, _, _ => simp at a
  by_cases h2 : p = 2
  · subst h2
    obtain ⟨a, b, d⟩ := zero (n := 0) (u := []) rfl h
    exact .inr (.inr (.inl ⟨rfl, by simpa using b, by rw [d]; rfl⟩))
  by_cases h3 : p = 3
  · subst h3
    obtain ⟨a, b, d⟩ := zero (n := 1) (u := []) rfl h
    match r, a, b, d with
    | x :: r, _, b, d => exact .inr (.inr (.inr (.inl ⟨x, rfl, by rw [← b]; rfl, by rw [d]; rfl⟩)))
    | [], a, _, _ => simp at a
  by_cases h4 : p = 4
  · subst h4
    obtain ⟨a, b, d⟩ := zero (n := 1) (u := []) rfl h
    match r, a, b, d with
    | x :: r, _, b, d => exact .inr (.inr (.inr (.inr (.inl ⟨x, rfl, by rw [← b]; rfl, by rw [d]; rfl⟩))))
    | [], a, _, _ => simp at a
  by_cases h5 : p = 5
  · subst h5
    obtain ⟨a, b, d⟩ := zero (n := 2) (u := []) rfl h
    match r, a, b, d with
    | x :: y :: r, _, b, d => exact .inr (.inr (.inr (.inr (.inr (.inl ⟨x, y, rfl, by rw [← b]; rfl, by rw [d]; rfl⟩)))))
    | [x], a, _, _ => simp at a
    | [], a, _, _ => simp at a
  by_cases h6 : p = 6
  · subst h6
    obtain ⟨a, b, d⟩ := zero (n := 0) (u := []) rfl h
    exact .inr (.inr (.inr (.inr (.inr (.inr ⟨rfl, by simpa using b, by rw [d]; rfl⟩)))))
  have : PyKp149.shape p = none := by
    unfold PyKp149.shape
    rw [if_neg h0, if_neg h1, if_neg h2, if_neg h3, if_neg h4, if_neg h5, if_neg h6]
  rw [this] at h; cases h
theorem typed {s : S} {p : Int} {r t : List Int} {c : List (List Int)} (h : PyFlat.call PyKp149.shape (p :: r) = some (c, t)) (ha : asked1 (PyKp149.whole c) = true) :
    ∃ x, callOf (PyKp149.whole c) = some x ∧ p :: r = enc x ++ t := by
  rcases call_some h with ⟨x, n, y, rfl, rfl, hy, rfl⟩ | ⟨x, y, rfl, rfl, rfl⟩ | ⟨rfl, rfl, rfl⟩ | ⟨x, rfl, rfl, rfl⟩ | ⟨x, rfl, rfl, rfl⟩ | ⟨x, y, rfl, rfl, rfl⟩ | ⟨rfl, rfl, rfl⟩
  · have e : PyKp149.whole [[0, x], y] = [[0, x], y] := rfl
    rw [e] at ha ⊢
    have ha' : ((match (rdOpt (rdList (rdKp148_Gate))) y with
      | some (_, []) => true
      | _ => false) && natural x 63) = true := ha
    rw [Bool.and_eq_true] at ha'
    obtain ⟨h1, h2⟩ := ha'
    cases q : rdOpt (rdList rdKp148_Gate) y with
    | none => rw [q] at h1; cases h1
    | some z =>
      obtain ⟨o, l⟩ := z
      cases l with
      | cons v l => rw [q] at h1; cases h1
      | nil =>
        have hc : callOf [[0, x], y] = some (Kp149.Call.start o x.toNat) := by
          show ((rdOpt (rdList (rdKp148_Gate)) y).bind fun c1 => if c1.2 = [] then some (Kp149.Call.start c1.1 ((x).toNat)) else none) = _
          rw [q]; rfl
        refine ⟨_, hc, ?_⟩
        have hx := natural_nat h2
        rcases rdOpt_some q with ⟨rfl, rfl⟩ | ⟨gs, rfl, rfl⟩
        · have : n = 1 := by simpa using hy.symm
          subst this
          simp [enc, hx]
        · have : n = 2 + 4 * gs.length := by rw [← hy]; simp [encGs_len]; omega
          subst this
          simp only [enc, hx, List.cons_append]
  · have e : PyKp149.whole [[1, x, y]] = [[1, x, y]] := rfl
    rw [e] at ha ⊢
    have ha' : (natural x 63 && natural y 63) = true := ha
    rw [Bool.and_eq_true] at ha'
    exact ⟨Kp149.Call.set_ x.toNat y.toNat, rfl, by simp [enc, natural_nat ha'.1, natural_nat ha'.2]⟩
  · exact ⟨Kp149.Call.wait, rfl, rfl⟩
  · have ha' : natural x 63 = true := ha
    exact ⟨Kp149.Call.get x.toNat, rfl, by simp [enc, natural_nat ha']⟩
  · have ha' : natural x 63 = true := ha
    exact ⟨Kp149.Call.when_ x.toNat, rfl, by simp [enc, natural_nat ha']⟩
  · have ha' : (natural x 63 && natural y 63) = true := ha
    rw [Bool.and_eq_true] at ha'
    exact ⟨Kp149.Call.why x.toNat y.toNat, rfl, by simp [enc, natural_nat ha'.1, natural_nat ha'.2]⟩
  · exact ⟨Kp149.Call.longest, rfl, rfl⟩
theorem told_cons (a : List Int) (l : List (List Int)) : PyFlat.told (a :: l) = (a.length : Int) :: a ++ PyFlat.told l := by
  unfold PyFlat.told; rw [List.flatMap_cons]
theorem typed_all : ∀ (f : Nat) (l : List Int) (cs : List (List (List Int))) (s : S), PyFlat.calls PyKp149.shape f l = some cs → askedFrom s (cs.map PyKp149.whole) = true →
    ∃ xs : List Kp149.Call, l = xs.flatMap enc ∧ xs.length = cs.length ∧ MayAll s xs ∧ PyFlat.told (PyFlat.played Kp149Neutral.step s (cs.map PyKp149.whole)) = play s xs
  | f, [], cs, s, h, ha => by
    have : cs = [] := by
      cases f <;> (unfold PyFlat.calls at h; exact (Option.some.inj h).symm)
    subst this
    exact ⟨[], rfl, rfl, trivial, rfl⟩
  | 0, p :: r, cs, s, h, ha => by unfold PyFlat.calls at h; cases h
  | f + 1, p :: r, cs, s, h, ha => by
    unfold PyFlat.calls at h
    cases e : PyFlat.call PyKp149.shape (p :: r) with
    | none => rw [e] at h; cases h
    | some z =>
      obtain ⟨c, t⟩ := z
      rw [e] at h
      simp only at h
      cases e2 : PyFlat.calls PyKp149.shape f t with
      | none => rw [e2] at h; cases h
      | some cs' =>
        rw [e2] at h
        have e3 : c :: cs' = cs := Option.some.inj h
        subst e3
        rw [List.map_cons] at ha ⊢
        unfold askedFrom at ha
        rw [Bool.and_eq_true, Bool.and_eq_true] at ha
        obtain ⟨⟨h1, h2⟩, h3⟩ := ha
        obtain ⟨x, hx, hl⟩ := typed (s := s) e h1
        rw [hx] at h2
        have st : Kp149Neutral.step s (PyKp149.whole c) = ((does s x).1, wrKp149_Ans (does s x).2) := by unfold Kp149Neutral.step; rw [hx]
        rw [st] at h3
        obtain ⟨xs, a1, a2, a3, a4⟩ := typed_all f t cs' _ e2 h3
        refine ⟨x :: xs, by rw [hl, List.flatMap_cons, ← a1], by simp [a2], ⟨h2, a3⟩, ?_⟩
        unfold PyFlat.played
        rw [st, told_cons, a4]
        rfl
/-- **What is handed in, as calls.** -/
theorem asked_typed {l : List Int} (h : PyKp149.answers_asked l = true) : ∃ xs : List Kp149.Call, l = xs.flatMap enc ∧ xs.length ≤ 50 ∧ xs ≠ [] ∧ MayAll none xs ∧ PyKp149.answers l = play none xs := by
  unfold PyKp149.answers_asked at h
  cases e : PyKp149.calls l with
  | none => rw [e] at h; cases h
  | some cs =>
    rw [e] at h
    have h : (PyFlat.atMost 50 cs && Kp149Neutral.asked cs) = true := h
    rw [Bool.and_eq_true] at h
    obtain ⟨h1, h2⟩ := h
    unfold Kp149Neutral.asked at h2
    rw [Bool.and_eq_true, Bool.and_eq_true] at h2
    obtain ⟨h3, h4, h5⟩ := h2
    unfold PyKp149.calls at e
    cases e2 : PyFlat.calls PyKp149.shape l.length l with
    | none => rw [e2] at e; cases e
    | some cs' =>
      rw [e2] at e
      have e3 : cs'.map PyKp149.whole = cs := Option.some.inj e
      subst e3
      obtain ⟨xs, a1, a2, a3, a4⟩ := typed_all _ l cs' start e2 h5
      refine ⟨xs, a1, ?_, ?_, a3, ?_⟩
      · have := of_decide_eq_true h1
        rw [a2]; simpa using this
      · intro z
        subst z
        have : cs' = [] := List.length_eq_zero_iff.mp a2.symm
        subst this
        cases h3
      · unfold PyKp149.answers PyKp149.calls
        rw [e2]; exact a4
end Wb

namespace Wb
open Kp148

/-- a gate as the document has it, m signals there are -/
def Fits (m : Nat) (x : Gate) : Prop := x.kind ≤ 2 ∧ x.a < m ∧ (x.kind ≠ 0 → x.b < m) ∧ 1 ≤ x.most
theorem fits_iff {m : Nat} {x : Gate} : goodGate m x = true ↔ Fits m x := by
  unfold goodGate Fits
  simp only [Bool.and_eq_true, Bool.or_eq_true, decide_eq_true_eq, beq_iff_eq]
  constructor
  · rintro ⟨⟨⟨h1, h2⟩, h3⟩, h4⟩
    exact ⟨h1, h2, fun q => h3.resolve_left q, h4⟩
  · rintro ⟨h1, h2, h3, h4⟩
    refine ⟨⟨⟨h1, h2⟩, ?_⟩, h4⟩
    by_cases q : x.kind = 0
    · exact .inl q
    · exact .inr (h3 q)
theorem fits_srcs {m : Nat} {x : Gate} (h : Fits m x) : ∀ s, s ∈ srcs x → s < m := by
  intro s hs
  unfold srcs at hs
  split at hs
  · simp at hs; subst hs; exact h.2.1
  · next q =>
    simp at hs
    rcases hs with rfl | rfl
    · exact h.2.1
    · exact h.2.2.1 q
theorem goodStart_iff {g : List Gate} {n : Nat} : Kp149.goodStart g n = true ↔ ∀ x, x ∈ g → Fits (n + g.length) x := by
  unfold Kp149.goodStart
  rw [List.all_eq_true]
  exact ⟨fun h x hx => fits_iff.mp (h x hx), fun h x hx => fits_iff.mpr (h x hx)⟩
theorem gt_mem {g : List Gate} {k : Nat} (h : k < g.length) : gt g k ∈ g := List.mem_of_getElem? (gt_lt h)

structure AbsOk (a : Kp149.Abs) : Prop where
  fit : ∀ x, x ∈ a.gates → Fits (a.ins.length + a.gates.length) x
  nl : a.loose.length = a.ins.length
  nv : a.v.length = a.gates.length
  bits : ∀ k, k < a.ins.length → on a.ins k ≤ 1
  lo : LeL a.loose a.ins
  v2 : ∀ k, on a.v k ≤ 2
  tms : ∀ t, a.when_ = some t → t.length = a.gates.length ∧ Reasons a.gates a.ins t
theorem AbsOk.l2 {a : Kp149.Abs} (A : AbsOk a) (k : Nat) : on a.loose k ≤ 2 := by
  rcases A.lo.le k with e | e
  · omega
  · rw [e]
    rcases Nat.lt_or_ge k a.ins.length with h | h
    · have := A.bits k h; omega
    · rw [on_ge h]; omega
theorem on_rep (n x k : Nat) : on (List.replicate n x) k = if k < n then x else 2 := by
  unfold on
  rw [List.getD_eq_getElem?_getD, List.getElem?_replicate]
  split <;> rfl
theorem AbsOk.start {g : List Gate} {n : Nat} (h : Kp149.goodStart g n = true) : AbsOk (Kp149.start g n) := by
  unfold Kp149.start
  refine ⟨fun x hx => ?_, by simp, by simp, fun k hk => ?_, ⟨by simp, fun k => ?_⟩, fun k => ?_, fun t e => ?_⟩
  · simpa using goodStart_iff.mp h x hx
  · rw [on_rep]; split
    · omega
    · next q => simp at hk; exact absurd hk q
  · simp only [on_rep]; split
    · exact .inl rfl
    · exact .inl rfl
  · simp only [on_rep]; split <;> omega
  · cases e
theorem AbsOk.set {a : Kp149.Abs} (A : AbsOk a) {i b : Nat} (hi : i < a.ins.length) (hb : b ≤ 1) : AbsOk { a with ins := a.ins.set i b, loose := a.loose.set i 2 } := by
  have hl : i < a.loose.length := by rw [A.nl]; exact hi
  have hbits : ∀ k, k < (a.ins.set i b).length → on (a.ins.set i b) k ≤ 1 := fun k hk => by
    rw [on_set k hi]
    split
    · exact hb
    · exact A.bits k (by simpa using hk)
  refine ⟨by simpa using A.fit, by simpa using A.nl, A.nv, hbits, ⟨by simp [A.nl], fun k => ?_⟩, A.v2, fun t e => ?_⟩
  · show LeV (on (a.loose.set i 2) k) (on (a.ins.set i b) k)
    rw [on_set k hl, on_set k hi]
    split
    · exact .inl rfl
    · exact A.lo.le k
  · obtain ⟨h1, h2⟩ := A.tms t e
    exact ⟨h1, h2.ins (by simp) A.bits hbits⟩
theorem AbsOk.stat {a : Kp149.Abs} (A : AbsOk a) : Stat a.gates a.ins (always a.gates a.loose a.v) (atRest a.gates a.loose a.ins a.v) :=
  Stat.of (fun k hk => (A.fit _ (gt_mem hk)).1) (fun k hk => (A.fit _ (gt_mem hk)).2.2.2) A.bits A.lo A.nv A.v2
/-- the wait's end -/
theorem AbsOk.wait {a : Kp149.Abs} (A : AbsOk a) {v : Row} {t : Times} {now : Nat} (I : EndInv a.gates a.ins (always a.gates a.loose a.v) (atRest a.gates a.loose a.ins a.v) v t [] now []) :
    v = Kp149.restNow a ∧ t = Kp149.timesNow a ∧ AbsOk (Kp149.waited a) := by
  have S := A.stat
  obtain ⟨h1, h2⟩ := I.done S
  obtain ⟨_, h4⟩ := I.stop S
  have e1 : v = Kp149.restNow a := h1
  have e2 : t = Kp149.timesNow a := h2
  refine ⟨e1, e2, ?_⟩
  refine ⟨A.fit, rfl, ?_, A.bits, .refl _, fun k => ?_, fun t' e => ?_⟩
  · show (Kp149.restNow a).length = _
    rw [← e1]; exact I.lv
  · show on (Kp149.restNow a) k ≤ 2
    exact S.zle k
  · have e' : Kp149.timesNow a = t' := Option.some.inj e
    rw [← e', ← e2]
    exact ⟨I.lt, reasons_of S.wl h4⟩

/-! ### the times as the program keeps them: -1 is never -/
def tz : Option Nat → Int
  | none => -1
  | some x => (x : Int)
def wz (n : Nat) (t : Times) : List Int := List.replicate n 0 ++ t.map tz
theorem tz_neg {o : Option Nat} : tz o = -1 ↔ o = none := by
  cases o with
  | none => exact ⟨fun _ => rfl, fun _ => rfl⟩
  | some x => exact ⟨fun h => by have h : (x : Int) = -1 := h; omega, fun h => by cases h⟩
theorem fold_max : ∀ (t : Times) (m : Nat), m ≤ t.foldl (fun m x => max m (x.getD 0)) m ∧ (∀ o, o ∈ t → o.getD 0 ≤ t.foldl (fun m x => max m (x.getD 0)) m) ∧ (t.foldl (fun m x => max m (x.getD 0)) m = m ∨ ∃ y, some y ∈ t ∧ t.foldl (fun m x => max m (x.getD 0)) m = y)
  | [], m => ⟨Nat.le_refl _, fun o h => absurd h (by simp), Or.inl rfl⟩
  | x :: r, m => by
    obtain ⟨h1, h2, h3⟩ := fold_max r (max m (x.getD 0))
    rw [List.foldl_cons]
    refine ⟨by omega, fun o ho => ?_, ?_⟩
    · rcases List.mem_cons.mp ho with e | e
      · subst e; omega
      · exact h2 o e
    · rcases h3 with e | ⟨y, e1, e2⟩
      · cases x with
        | none => left; rw [e]; simp
        | some z =>
          by_cases q : m ≤ z
          · right; exact ⟨z, by simp, by rw [e]; simp; omega⟩
          · left; rw [e]; simp; omega
      · right; exact ⟨y, List.mem_cons_of_mem _ e1, e2⟩
theorem longest_of {t : Times} {n : Nat} {m : Int} (h1 : m ∈ (0 : Int) :: wz n t) (h2 : ∀ y, y ∈ (0 : Int) :: wz n t → y ≤ m) : m = (Kp149.longestOf t : Int) := by
  obtain ⟨a, b, c⟩ := fold_max t 0
  have e : Kp149.longestOf t = t.foldl (fun m x => max m (x.getD 0)) 0 := rfl
  rw [← e] at a b c
  have h0 : (0 : Int) ≤ m := h2 0 (by simp)
  have up : m ≤ (Kp149.longestOf t : Int) := by
    unfold wz at h1
    simp only [List.mem_cons, List.mem_append, List.mem_replicate, List.mem_map] at h1
    rcases h1 with q | q | ⟨o, ho, q⟩
    · omega
    · omega
    · cases o with
      | none => have q : (-1 : Int) = m := q; omega
      | some x =>
        have q : (x : Int) = m := q
        have := b (some x) ho
        simp at this; omega
  have lo : (Kp149.longestOf t : Int) ≤ m := by
    rcases c with q | ⟨y, hy, q⟩
    · omega
    · have := h2 (y : Int) (by unfold wz; simp only [List.mem_cons, List.mem_append, List.mem_map]; exact .inr (.inr ⟨some y, hy, rfl⟩))
      omega
  omega
theorem wz_len (n : Nat) (t : Times) : (wz n t).length = n + t.length := by unfold wz; simp
/-- the time of a signal, as the program keeps it -/
theorem wz_at {ins : Row} {t : Times} {s : Nat} (hb : ∀ k, k < ins.length → on ins k ≤ 1) (hs : s < ins.length + t.length) : (wz ins.length t)[s]? = some (tz (timeOf ins t s)) := by
  unfold wz timeOf
  by_cases q : s < ins.length
  · have := hb s q
    rw [if_pos q, if_neg (by omega), List.getElem?_append_left (by simpa using q), List.getElem?_replicate, if_pos q]
    rfl
  · rw [if_neg q, List.getElem?_append_right (by simpa using q), List.getElem?_map, List.length_replicate, tm_lt (by omega)]
    rfl
theorem wz_set {n k : Nat} {t : Times} {x : Nat} : (wz n t).set (n + k) (x : Int) = wz n (t.set k (some x)) := by
  unfold wz
  rw [List.set_append_right _ _ (by simp)]
  simp only [List.length_replicate, Nat.add_sub_cancel_left, List.map_set]
  rfl
end Wb

namespace Wb
open Kp148
/-- the least of a gate's inputs that will do is what the specification asks -/
theorem from_least {a : Kp149.Abs} {t : Times} {g : Gate} {x j : Nat} (hj : j ∈ srcs g) (hp : plus (timeOf a.ins t j) g.most = some x) (hl : ∀ i, i ∈ srcs g → plus (timeOf a.ins t i) g.most = some x → j ≤ i) : Kp149.from_ a t g x = some j := by
  rw [from_eq]
  unfold ordd
  unfold srcs at hj hl
  by_cases k : g.kind = 0
  · rw [if_pos k] at hj ⊢
    simp at hj
    subst hj
    rw [List.find?_cons, hp]; simp
  · rw [if_neg k] at hj hl ⊢
    simp only [List.mem_cons, List.not_mem_nil, or_false] at hj hl
    have two : ∀ p q : Nat, p ≤ q → (j = p ∨ j = q) → (plus (timeOf a.ins t p) g.most = some x → j ≤ p) → List.find? (fun j => plus (timeOf a.ins t j) g.most == some x) [p, q] = some j := by
      intro p q h1 h2 h3
      rw [List.find?_cons]
      by_cases z : plus (timeOf a.ins t p) g.most = some x
      · have := h3 z
        have e : j = p := by omega
        rw [z, e]; simp
      · have e : j = q := by
          rcases h2 with e | e
          · rw [e] at hp; exact absurd hp z
          · exact e
        have zb : (plus (timeOf a.ins t p) g.most == some x) = false := by simpa using z
        rw [zb, ← e, List.find?_cons, hp]; simp
    split
    · next c => exact two _ _ c hj fun z => hl _ (.inl rfl) z
    · next c => exact two _ _ (by omega) hj.symm fun z => hl _ (.inr rfl) z
theorem tz_plus {o : Option Nat} {m x : Nat} (h : m ≤ x) : tz o + (m : Int) = (x : Int) ↔ plus o m = some x := by
  cases o with
  | none =>
    constructor
    · intro e
      have e : (-1 : Int) + (m : Int) = (x : Int) := e
      omega
    · intro e; cases e
  | some y =>
    constructor
    · intro e
      have e : (y : Int) + (m : Int) = (x : Int) := e
      exact plus_some.mpr ⟨y, rfl, by omega⟩
    · intro e
      obtain ⟨c, e1, e2⟩ := plus_some.mp e
      cases e1
      show (y : Int) + (m : Int) = (x : Int)
      omega
/-- one step of the way -/
theorem way_step {a : Kp149.Abs} (A : AbsOk a) {t : Times} (ht : a.when_ = some t) {n k y : Nat} (F : Fuel a t n k) (h : timeOf a.ins t k = some y) (hy : y ≠ 0) :
    ∃ p, k = a.ins.length + p ∧ p < a.gates.length ∧ (∃ r c, r ∈ srcs (gt a.gates p) ∧ timeOf a.ins t r = some c ∧ c + (gt a.gates p).most = y) ∧
      ∀ j, j ∈ srcs (gt a.gates p) → plus (timeOf a.ins t j) (gt a.gates p).most = some y → (∀ i, i ∈ srcs (gt a.gates p) → plus (timeOf a.ins t i) (gt a.gates p).most = some y → j ≤ i) →
        ∃ m c, n = m + 1 ∧ Kp149.way a t n k = k :: Kp149.way a t m j ∧ Fuel a t m j ∧ timeOf a.ins t j = some c ∧ j < a.ins.length + a.gates.length := by
  obtain ⟨hl, R⟩ := A.tms t ht
  obtain ⟨h1, h2⟩ := gate_of h hy
  have hp : k - a.ins.length < a.gates.length := by rw [← hl]; exact (tm_mem h2).1
  refine ⟨k - a.ins.length, by omega, hp, R _ y hp h2 hy, fun j hj hpj hmin => ?_⟩
  obtain ⟨c, e1, e2⟩ := plus_some.mp hpj
  have hm := (A.fit _ (gt_mem hp)).2.2.2
  obtain ⟨m, rfl, F'⟩ := F.next h hy e1 (by omega)
  exact ⟨m, c, rfl, way_succ h hy h1 (from_least hj hpj hmin), F', e1, fits_srcs (A.fit _ (gt_mem hp)) j hj⟩
theorem unsure_count (v : Row) : Kp149.unsure v = v.countP fun x => x == 2 := by
  unfold Kp149.unsure; rw [List.countP_eq_length_filter]
end Wb

/-! THE HAND LAYER, for ints, bools, texts, own classes, lists, tuples, dicts, comprehensions, walks over dicts, enumerate, zip, reversed, texts, calls, loops. Paste it whole ahead of your own text; what your proof does not reach may be deleted. -/
namespace L2
open PySem PySem.Spec PyProof.Rows

/-- a key: an int or a str -/
abbrev Key := Sum Int Str
def keyIs : Key → Value → Bool
  | .inl k, v => Value.isInt k v
  | .inr x, v => Value.isStrOf x v
def keyH (w : World) : Key → Int
  | .inl k => hashInt k
  | .inr x => hashStr w x
theorem keyIs_shape : ∀ {k : Key} {v : Value}, keyIs k v = true → (∃ i t, k = Sum.inl i ∧ v = Value.int i t) ∨ (∃ x t, k = Sum.inr x ∧ v = Value.str x t)
  | .inl i, v, h => by
    obtain ⟨t, e⟩ := Value.isInt_shape (k := i) (v := v) h
    exact .inl ⟨i, t, rfl, e⟩
  | .inr x, v, h => by
    obtain ⟨t, e⟩ := Value.isStrOf_shape (x := x) (v := v) h
    exact .inr ⟨x, t, rfl, e⟩
theorem key_ll (a b : Int) : decide ((Sum.inl a : Key) = Sum.inl b) = (a == b) := by
  by_cases e : a = b
  · subst e; simp
  · have h : ¬ (Sum.inl a : Key) = Sum.inl b := fun q => e (Sum.inl.inj q)
    rw [decide_eq_false h]
    exact (beq_eq_false_iff_ne.mpr e).symm
theorem key_rr (a b : Str) : decide ((Sum.inr a : Key) = Sum.inr b) = decide (a = b) := by
  by_cases e : a = b
  · subst e; simp
  · have h : ¬ (Sum.inr a : Key) = Sum.inr b := fun q => e (Sum.inr.inj q)
    rw [decide_eq_false h, decide_eq_false e]
theorem key_lr (a : Int) (b : Str) : decide ((Sum.inl a : Key) = Sum.inr b) = false := decide_eq_false (fun q => nomatch q)
theorem key_rl (a : Str) (b : Int) : decide ((Sum.inr a : Key) = Sum.inl b) = false := decide_eq_false (fun q => nomatch q)

def mixKind (prog : Program) (w : World) : PySem.KeyKind prog w Key where
  is := keyIs
  hash := keyH w
  inj := fun v a b ha hb => by
    rcases keyIs_shape ha with ⟨i, t, rfl, rfl⟩ | ⟨x, t, rfl, rfl⟩
    · rcases keyIs_shape hb with ⟨j, u, rfl, e⟩ | ⟨y, u, rfl, e⟩
      · injection e with e1 _; rw [e1]
      · exact nomatch e
    · rcases keyIs_shape hb with ⟨j, u, rfl, e⟩ | ⟨y, u, rfl, e⟩
      · exact nomatch e
      · injection e with e1 _; rw [e1]
  byValue := fun k v h => by
    rcases keyIs_shape h with ⟨i, t, rfl, rfl⟩ | ⟨x, t, rfl, rfl⟩ <;> rfl
  pyHash := fun hv h => by
    rcases keyIs_shape hv with ⟨i, t, rfl, rfl⟩ | ⟨x, t, rfl, rfl⟩
    · exact wpAny_pyHash_int h
    · exact wpAny_pyHash_str h
  eqBool := fun hu hv h => by
    rcases keyIs_shape hu with ⟨i, t, rfl, rfl⟩ | ⟨x, t, rfl, rfl⟩
    · rcases keyIs_shape hv with ⟨j, u, rfl, rfl⟩ | ⟨y, u, rfl, rfl⟩
      · rw [key_ll] at h; exact wpAny_eqBool_int h
      · rw [key_lr] at h; exact SeqAt.EqAt.int_str i t y u _ _ _ _ h
    · rcases keyIs_shape hv with ⟨j, u, rfl, rfl⟩ | ⟨y, u, rfl, rfl⟩
      · rw [key_rl] at h; exact SeqAt.EqAt.str_int x t j u _ _ _ _ h
      · rw [key_rr] at h; exact wpAny_eqBool_str h
  «strs» := fun k x t v h => by
    rcases keyIs_shape h with ⟨i, u, rfl, e⟩ | ⟨y, u, rfl, e⟩
    · exact nomatch e
    · injection e with e1 _
      subst e1
      cases v <;> rfl

end L2

namespace L2
open PySem PySem.Spec PyProof.Rows

/-- a value, without the heap -/
inductive V where
  | non | bl (b : Bool) | int (i : Int) | str (x : Str) | byt (b : Array UInt8) | flt (b : UInt64) | ref (a : Addr) | ty (n : String)
  deriving DecidableEq

def RelV : V → Value → Prop
  | .non, u => u = Value.none
  | .bl b, u => u = Value.bool b
  | .int i, u => ∃ t, u = Value.int i t
  | .str x, u => ∃ t, u = Value.str x t
  | .byt b, u => ∃ t, u = Value.bytes b t
  | .flt b, u => ∃ t, u = Value.float b t
  | .ref a, u => u = Value.ref a
  | .ty n, u => u = Value.type n

abbrev Vals : List V → List Value → Prop := Paired RelV
theorem Vals.length {xs : List V} {us : List Value} (r : Vals xs us) : xs.length = us.length := Paired.length r
theorem Vals.get : ∀ {xs : List V} {us : List Value} {i : Nat} {x : V}, Vals xs us → xs[i]? = some x → ∃ u, us[i]? = some u ∧ RelV x u
  | _, _, _, _, .nil, e => by simp at e
  | _, _, 0, _, .cons r _, e => by simp at e; subst e; exact ⟨_, rfl, r⟩
  | _, _, i + 1, x, .cons _ t, e => by
    obtain ⟨u, h1, h2⟩ := Vals.get (i := i) (x := x) t (by simpa using e)
    exact ⟨u, by simpa using h1, h2⟩
theorem Vals.set {x : V} {u : Value} (r : RelV x u) : ∀ {xs : List V} {us : List Value} (i : Nat), Vals xs us → Vals (xs.set i x) (us.set i u)
  | _, _, _, .nil => .nil
  | _, _, 0, .cons _ t => .cons r t
  | _, _, i + 1, .cons q t => .cons q (Vals.set r i t)
theorem Vals.append : ∀ {xs ys : List V} {us ws : List Value}, Vals xs us → Vals ys ws → Vals (xs ++ ys) (us ++ ws)
  | _, _, _, _, .nil, s => s
  | _, _, _, _, .cons r t, s => .cons r (Vals.append t s)
theorem Vals.take : ∀ {xs : List V} {us : List Value} (n : Nat), Vals xs us → Vals (xs.take n) (us.take n)
  | _, _, 0, _ => .nil
  | _, _, _ + 1, .nil => .nil
  | _, _, n + 1, .cons r t => .cons r (Vals.take n t)
theorem Vals.drop : ∀ {xs : List V} {us : List Value} (n : Nat), Vals xs us → Vals (xs.drop n) (us.drop n)
  | _, _, 0, r => r
  | _, _, _ + 1, .nil => .nil
  | _, _, n + 1, .cons _ t => Vals.drop n t

def RelO : Option V → Option Value → Prop
  | some v, some u => RelV v u
  | none, none => True
  | _, _ => False
def KV {κ : Type} : List (κ × V) → List (κ × Value) → Prop := Paired fun (p : κ × V) (q : κ × Value) => p.1 = q.1 ∧ RelV p.2 q.2

/-- a key of a dict (00_mix): an int or a text -/
def kV : Key → V
  | .inl i => .int i
  | .inr x => .str x

/-- what stands at a tracked address -/
inductive HO where
  /-- a list -/
  | lst (xs : List V)
  /-- a tuple (never changes) -/
  | tup (xs : List V)
  /-- a dict whose keys are ints and texts; one whose keys are tuples of ints and texts (the empty one is both) -/
  | dK (kvs : List (Key × V)) | dT (kvs : List (List Key × V))
  /-- a set of ints: its members, its size -/
  | set (S : Int → Bool) (n : Nat)
  /-- an instance of the class at C, its dict at dx, its attributes -/
  | ins (C dx : Addr) (fs : List (Str × V))
  /-- the dict of the instance at x -/
  | own (x : Addr)
  /-- the dict of an exception -/
  | xd (fs : List (Str × V))
  /-- a bound method, f of x -/
  | met (f x : Addr)
  /-- a range object lo, lo + 1, .. below hi -/
  | rng (lo hi : Int)
  /-- a thing that is known to the object (the script; a dict while a loop walks it): read, never written while it is so -/
  | frz (o : Obj) (u : HO)
  /-- a code object's table -/
  | tbl (ps : Array Value)
  /-- any other thing, by what is true of its one object (a def of one's own: SetO a S n := HO.ext fun h => ..) -/
  | ext (φ : Heap → Prop)

abbrev Hp := Addr → Option HO
def upd (H : Hp) (a : Addr) (o : HO) : Hp := fun b => if b = a then some o else H b
theorem upd_same {H : Hp} {a : Addr} {o : HO} : upd H a o a = some o := by unfold upd; rw [if_pos rfl]
theorem upd_ne {H : Hp} {a b : Addr} {o : HO} (h : b ≠ a) : upd H a o b = H b := by unfold upd; rw [if_neg h]
theorem upd_upd {H : Hp} {a : Addr} {o u : HO} : upd (upd H a o) a u = upd H a u := by
  funext b; unfold upd; split <;> rfl
/-- two objects of different content stand apart -/
theorem ne_of {H : Hp} {a b : Addr} {o u : HO} (h : H a = some o) (h' : H b = some u) (d : o ≠ u) : a ≠ b := by
  intro e; subst e; rw [h] at h'; exact d (Option.some.inj h')
theorem ne_of_none {H : Hp} {a b : Addr} {o : HO} (h : H a = some o) (h' : H b = none) : a ≠ b := by
  intro e; subst e; rw [h] at h'; cases h'

section
variable (P : Program) (w : World)
def ObjOk (H : Hp) (h : Heap) (a : Addr) : HO → Prop
  | .lst xs => xs.length ≤ sizeLine ∧ ∃ (its : List Value) (n : Nat), Vals xs its ∧ h.get? a = some { cls := .type "list", data := .seq its.toArray n }
  | .tup xs => xs.length ≤ sizeLine ∧ ∃ its : List Value, Vals xs its ∧ IsTup h a its.toArray
  | .dK kvs => kvs.length ≤ sizeLine ∧ (a == sysModules) = false ∧ ∃ vs, KV kvs vs ∧ h.DictOf (mixKind P w) a vs
  | .dT kvs => kvs.length ≤ sizeLine ∧ (a == sysModules) = false ∧ ∃ xs : List (List Key × Addr × Value),
      Paired (fun (p : List Key × V) (q : List Key × Addr × Value) => p.1 = q.1 ∧ H q.2.1 = some (.tup (p.1.map kV)) ∧ RelV p.2 q.2.2) kvs xs ∧
      ∃ o es ep, h.get? a = some o ∧ o.ExactDict ∧ o.data = .dict es ep ∧ es.toList = xs.map (entryOfKey (tupleKind (mixKind P w))) ∧ (xs.map (·.1)).Nodup
  | .set S n => h.SetOf (intKind P w) a S n
  | .ins C dx fs => H dx = some (.own a) ∧ fs.length ≤ 1000 ∧ dx ≠ a ∧ h.get? a = some (PySem.W.instObj C dx) ∧
      ∃ mA, h.Ns1 dx mA ∧ (∀ f, RelO (fs.lookup f) (mA f)) ∧ PySem.Within mA (fs.map (·.1))
  | .own _ => ∃ o, h.get? a = some o
  | .xd fs => ∃ mA, h.Ns1 a mA ∧ ∀ f, RelO (fs.lookup f) (mA f)
  | .rng lo hi => ∃ t u v, h.get? a = some { cls := .type "range", data := .fields #[.int lo t, .int hi u, .int 1 v] }
  | .frz o u => h.get? a = some o ∧ ObjOk H h a u
  | .tbl ps => h.get? a = some { cls := .none, data := .fields ps }
  | .met f x => h.get? a = some (PySem.W.methodObj (.ref f) (.ref x))
  | .ext φ => φ h ∧ (∃ o, h.get? a = some o) ∧ ∀ h1 h2 : Heap, φ h1 → (∀ o, h1.get? a = some o → h2.get? a = some o) → φ h2
/-- the abstract heap is held -/
def HOk (H : Hp) (h : Heap) : Prop := ∀ a o, H a = some o → ObjOk P w H h a o
end

section
variable {P : Program} {w : World} {H H' : Hp} {h h' : Heap} {a : Addr} {o : HO}
theorem ObjOk.lt (x : ObjOk P w H h a o) : a < h.objs.size := by
  cases o with
  | lst xs => obtain ⟨_, _, _, _, e⟩ := x; exact Heap.lt_size e
  | tup xs => obtain ⟨_, _, _, p⟩ := x; exact p.lt
  | dK kvs => obtain ⟨_, _, _, _, o, _, _, e, _⟩ := x; exact Heap.lt_size e
  | dT kvs => obtain ⟨_, _, _, _, o, _, _, e, _⟩ := x; exact Heap.lt_size e
  | set S n => obtain ⟨o, _, _, _, e, _⟩ := x; exact Heap.lt_size e
  | ins C dx fs => obtain ⟨_, _, _, e, _⟩ := x; exact Heap.lt_size e
  | own y => obtain ⟨_, e⟩ := x; exact Heap.lt_size e
  | xd fs => obtain ⟨_, ⟨_, _, _, e, _⟩, _⟩ := x; exact Heap.lt_size e
  | rng lo hi => obtain ⟨_, _, _, e⟩ := x; exact Heap.lt_size e
  | frz ob u => obtain ⟨e, _⟩ := x; exact Heap.lt_size e
  | tbl ps => exact Heap.lt_size (show h.get? a = some _ from x)
  | met f y => exact Heap.lt_size (show h.get? a = some _ from x)
  | ext φ => obtain ⟨_, ⟨_, e⟩, _⟩ := x; exact Heap.lt_size e
theorem Paired.mapP {α β : Type} {F G : α → β → Prop} : ∀ {l₁ : List α} {l₂ : List β}, Paired F l₁ l₂ → (∀ a b, F a b → G a b) → Paired G l₁ l₂
  | _, _, .nil, _ => .nil
  | _, _, .cons r t, f => .cons (f _ _ r) (Paired.mapP t f)
/-- what an object's description leans on: its own object, its own dict, the tuples -/
theorem ObjOk.stay (x : ObjOk P w H h a o) (k : ∀ b u, (b = a ∨ H b = some (.own a)) → h.get? b = some u → h'.get? b = some u)
    (ho : ∀ b, H b = some (.own a) → H' b = some (.own a)) (ht : ∀ b xs, H b = some (.tup xs) → H' b = some (.tup xs)) : ObjOk P w H' h' a o := by
  induction o with
  | lst xs => obtain ⟨z, its, n, r, e⟩ := x; exact ⟨z, its, n, r, k _ _ (.inl rfl) e⟩
  | tup xs => obtain ⟨z, its, r, ob, e, c⟩ := x; exact ⟨z, its, r, ob, k _ _ (.inl rfl) e, c⟩
  | dK kvs => obtain ⟨z, y, vs, r, ob, es, ep, e, c⟩ := x; exact ⟨z, y, vs, r, ob, es, ep, k _ _ (.inl rfl) e, c⟩
  | dT kvs =>
    obtain ⟨z, y, xs, r, ob, es, ep, e, c⟩ := x
    exact ⟨z, y, xs, Paired.mapP r fun p q z => ⟨z.1, ht _ _ z.2.1, z.2.2⟩, ob, es, ep, k _ _ (.inl rfl) e, c⟩
  | set S n => obtain ⟨ob, es, ep, t, e, c⟩ := x; exact ⟨ob, es, ep, t, k _ _ (.inl rfl) e, c⟩
  | ins C dx fs =>
    obtain ⟨d, z, ne, e, mA, ⟨od, es, ep, e2, c⟩, r⟩ := x
    exact ⟨ho _ d, z, ne, k _ _ (.inl rfl) e, mA, ⟨od, es, ep, k _ _ (.inr d) e2, c⟩, r⟩
  | own y => obtain ⟨ob, e⟩ := x; exact ⟨ob, k _ _ (.inl rfl) e⟩
  | xd fs => obtain ⟨mA, ⟨od, es, ep, e, c⟩, r⟩ := x; exact ⟨mA, ⟨od, es, ep, k _ _ (.inl rfl) e, c⟩, r⟩
  | rng lo hi => obtain ⟨t, u, v, e⟩ := x; exact ⟨t, u, v, k _ _ (.inl rfl) e⟩
  | frz ob u ih => obtain ⟨e, q⟩ := x; exact ⟨k _ _ (.inl rfl) e, ih q⟩
  | tbl ps =>
    have e : h.get? a = some { cls := .none, data := .fields ps } := x
    show h'.get? a = some { cls := .none, data := .fields ps }
    exact k a _ (.inl rfl) e
  | met f y =>
    have e : h.get? a = some (PySem.W.methodObj (.ref f) (.ref y)) := x
    show h'.get? a = some (PySem.W.methodObj (.ref f) (.ref y))
    exact k a _ (.inl rfl) e
  | ext φ => obtain ⟨p, ⟨o, e⟩, st⟩ := x; exact ⟨st _ _ p fun o q => k _ _ (.inl rfl) q, ⟨o, k _ _ (.inl rfl) e⟩, st⟩
theorem HOk.lt (x : HOk P w H h) (e : H a = some o) : a < h.objs.size := (x a o e).lt
theorem HOk.fresh (x : HOk P w H h) (e : h.objs.size ≤ a) : H a = none := by
  cases q : H a with
  | none => rfl
  | some u => exact absurd (Nat.lt_of_lt_of_le (x.lt q) e) (Nat.lt_irrefl _)
/-- every object of the heap is kept -/
theorem HOk.kept (x : HOk P w H h) (k : ∀ b u, h.get? b = some u → h'.get? b = some u) : HOk P w H h' := fun a o e =>
  (x a o e).stay (fun b u _ q => k b u q) (fun _ q => q) fun _ _ q => q
/-- a new object is laid and tracked -/
theorem HOk.laid (x : HOk P w H h) (k : ∀ b u, h.get? b = some u → h'.get? b = some u) (hp : h.objs.size ≤ a) (new : ObjOk P w (upd H a o) h' a o) : HOk P w (upd H a o) h' := fun b u e => by
  have hn := x.fresh hp
  by_cases hb : b = a
  · subst hb; rw [upd_same] at e; cases e; exact new
  · rw [upd_ne hb] at e
    exact (x b u e).stay (fun c v _ q => k c v q) (fun c q => by rw [upd_ne (ne_of_none q hn)]; exact q) fun c xs q => by rw [upd_ne (ne_of_none q hn)]; exact q
end

/-- what may be read as u: it is u, or a known u -/
def Rd (H : Hp) (a : Addr) (u : HO) : Prop := H a = some u ∨ ∃ o, H a = some (.frz o u)
theorem Rd.ok {P : Program} {w : World} {H : Hp} {h : Heap} {a : Addr} {u : HO} (r : Rd H a u) (x : HOk P w H h) : ObjOk P w H h a u := by
  rcases r with r | ⟨o, r⟩
  · exact x a u r
  · obtain ⟨_, q⟩ := x a _ r
    exact q
/-- what may be written -/
def Mut : Option HO → Prop
  | some (.lst _) => True
  | some (.dK _) => True
  | some (.dT _) => True
  | some (.set _ _) => True
  | some (.ins _ _ _) => True
  | some (.ext _) => True
  | _ => False
section
variable {P : Program} {w : World} {H : Hp} {h h' : Heap} {x e : Addr} {o' : HO}
/-- the object at e is changed: x itself, or the dict of the instance x -/
theorem HOk.write (ok : HOk P w H h) (mu : Mut (H x)) (he : e = x ∨ H e = some (.own x)) (k : ∀ b u, b ≠ e → h.get? b = some u → h'.get? b = some u) (heo : ∃ u, h'.get? e = some u)
    (new : ObjOk P w (upd H x o') h' x o') : HOk P w (upd H x o') h' := fun b u q => by
  have nown : ∀ c y, H c = some (.own y) → c ≠ x := fun c y r z => by subst z; rw [r] at mu; exact mu
  have ntup : ∀ c xs, H c = some (.tup xs) → c ≠ x := fun c xs r z => by subst z; rw [r] at mu; exact mu
  by_cases hb : b = x
  · subst hb; rw [upd_same] at q; cases q; exact new
  · rw [upd_ne hb] at q
    by_cases hbe : b = e
    · have q' : H b = some (.own x) := by
        rcases he with z | z
        · exact absurd (hbe.trans z) hb
        · rw [hbe]; exact z
      rw [q] at q'; cases q'
      obtain ⟨v, hv⟩ := heo
      exact ⟨v, by rw [hbe]; exact hv⟩
    · refine (ok b u q).stay (fun c v hc r => k c v ?_ r) (fun c r => by rw [upd_ne (nown c b r)]; exact r) fun c xs r => by rw [upd_ne (ntup c xs r)]; exact r
      rcases hc with rfl | hc
      · exact hbe
      · rintro rfl
        rcases he with z | z
        · exact nown c b hc z
        · rw [hc] at z; cases z; exact hb rfl
end

/-! ### kept unless tracked; of the frames at fs (the callers') the slots may change (an exception that passes writes there); of the records at ex (iterators) nothing is said -/
structure Un (fs ex : List Addr) (H H' : Hp) (h h' : Heap) : Prop where
  keep : ∀ b o, h.get? b = some o → H b = none → b ∉ fs → b ∉ ex → h'.get? b = some o
  slot : ∀ b o, h.get? b = some o → H b = none → b ∈ fs → b ∉ ex → ∃ sl, h'.get? b = some { o with slots := sl }
  free : ∀ b o, h.get? b = some o → H b = none → b ∉ ex → H' b = none
  there : ∀ b o, h.get? b = some o → b ∉ ex → ∃ o', h'.get? b = some o'
  tups : ∀ b xs, H b = some (.tup xs) → H' b = some (.tup xs)
  frzs : ∀ b o u, H b = some (.frz o u) → H' b = some (.frz o u)
  tbls : ∀ b ps, H b = some (.tbl ps) → ∃ more, H' b = some (.tbl (ps ++ more))
section
variable {fs fs' ex ex' : List Addr} {H H1 H2 : Hp} {h h1 h2 h' : Heap} {a x e : Addr} {o : HO}
theorem Un.any (u : Un fs ex H H1 h h1) {b : Addr} {ob : Obj} (q : h.get? b = some ob) (n : H b = none) (hx : b ∉ ex) : ∃ sl, h1.get? b = some { ob with slots := sl } := by
  by_cases hb : b ∈ fs
  · exact u.slot b ob q n hb hx
  · exact ⟨ob.slots, u.keep b ob q n hb hx⟩
theorem Un.kept (k : ∀ b u, h.get? b = some u → h'.get? b = some u) : Un fs ex H H h h' :=
  ⟨fun b ob q _ _ _ => k b ob q, fun b ob q _ _ _ => ⟨ob.slots, k b ob q⟩, fun _ _ _ n _ => n, fun b ob q _ => ⟨ob, k b ob q⟩, fun _ _ q => q, fun _ _ _ q => q, fun _ ps q => ⟨#[], by rw [q]; simp⟩⟩
theorem Un.refl : Un fs ex H H h h := Un.kept fun _ _ q => q
theorem Un.laid (k : ∀ b u, h.get? b = some u → h'.get? b = some u) (hp : h.objs.size ≤ a) (hn : H a = none) : Un fs ex H (upd H a o) h h' where
  keep := fun b u q _ _ _ => k b u q
  slot := fun b u q _ _ _ => ⟨u.slots, k b u q⟩
  free := fun b u q n _ => by rw [upd_ne (Nat.ne_of_lt (Nat.lt_of_lt_of_le (Heap.lt_size q) hp))]; exact n
  there := fun b u q _ => ⟨u, k b u q⟩
  tups := fun b xs q => by rw [upd_ne (ne_of_none q hn)]; exact q
  frzs := fun b u xs q => by rw [upd_ne (ne_of_none q hn)]; exact q
  tbls := fun b ps q => ⟨#[], by rw [upd_ne (ne_of_none q hn), q]; simp⟩
theorem Un.write (mu : Mut (H x)) (he : e = x ∨ H e = some (.own x)) (k : ∀ b u, b ≠ e → h.get? b = some u → h'.get? b = some u) (heo : ∃ u, h'.get? e = some u) : Un fs ex H (upd H x o) h h' := by
  have hx : ∀ b, H b = none → b ≠ x := fun b n z => by subst z; rw [n] at mu; exact mu
  have hb : ∀ b, H b = none → b ≠ e := fun b n z => by
    subst z
    rcases he with r | r
    · exact hx b n r
    · rw [n] at r; cases r
  have hm : ∀ b u, H b = some u → ¬ Mut (some u) → b ≠ x := fun b u q nm z => by subst z; rw [q] at mu; exact nm mu
  refine ⟨fun b u q n _ _ => k b u (hb b n) q, fun b u q n _ _ => ⟨u.slots, k b u (hb b n) q⟩, fun b u q n _ => by rw [upd_ne (hx b n)]; exact n, fun b u q _ => ?_,
    fun b xs q => by rw [upd_ne (hm b _ q fun z => z)]; exact q, fun b u xs q => by rw [upd_ne (hm b _ q fun z => z)]; exact q, fun b ps q => ⟨#[], by rw [upd_ne (hm b _ q fun z => z), q]; simp⟩⟩
  by_cases hbe : b = e
  · subst hbe; exact heo
  · exact ⟨u, k b u hbe q⟩
end

/-! ### the heap without what is tracked -/
def trk (h : Heap) (H : Hp) : List Addr := (List.range h.objs.size).filter fun a => (H a).isSome
def hidT (h : Heap) (H : Hp) : Heap := PySem.W.hideAll h (trk h H)
theorem hidT_size (h : Heap) (H : Hp) : (hidT h H).objs.size = h.objs.size := PySem.W.hideAll_size _ _
theorem hidT_get {h : Heap} {H : Hp} {b : Addr} {o : Obj} (e : h.get? b = some o) (n : H b = none) : (hidT h H).get? b = some o :=
  PySem.W.hideAll_get _ e fun hm => by
    have q : (H b).isSome = true := (List.mem_filter.mp hm).2
    rw [n] at q; simp at q
theorem of_hidT {h : Heap} {H : Hp} {b : Addr} {o : Obj} (e : (hidT h H).get? b = some o) : h.get? b = some o ∧ H b = none := by
  have e' : h.get? b = some o := PySem.W.of_hideAll (trk h H) e
  refine ⟨e', ?_⟩
  cases q : H b with
  | none => rfl
  | some x =>
    have hm : b ∈ trk h H := List.mem_filter.mpr ⟨List.mem_range.mpr (Heap.lt_size e'), by simp [q]⟩
    have z : (hidT h H).get? b = none := PySem.W.hideAll_none (trk h H) hm
    rw [z] at e; cases e

/-! ### OpenK's ledger, filled with every new object but one -/
end L2

namespace L2
open PySem PySem.Spec PyProof.Rows

/-- the module's facts, over the base: the heap at the law's entry without what is tracked there -/
structure Mod (K : PySem.W.Frag) (mg : Str → Option Value) (base : Heap) : Prop where
  kin : K.In base
  glob : base.Ns mainGlobals mg
  blt : ∃ mb, base.Ns builtinsNs mb ∧ ∀ x : Str, x ≠ "__name__" → mb x = bootBuiltins x
  nolimit : base.NoLimit

/-- the context: a def's body (or a comprehension's block) running. base: fixed through the whole law; s₀, H₀: the entry; outer: the frames whose slots others may change (a def's callers); stack: all frames that run;
   ex: iterators that were made ahead of the entry and are walked here (a comprehension's); fn: the names whose cells were made at the entry (a def: all; a comprehension's block: its own); calm: not within an except suite; pn: pins that every state bears; xe: what is wanted of an exception that leaves the code -/
structure Cx where
  prog : Program
  w : World
  K : PySem.W.Frag
  mg : Str → Option Value
  base : Heap
  A : Around
  N : List Str
  s_0 : Shared
  H_0 : Hp
  env : Env
  outer : List Env
  stack : List Env
  ex : List Addr
  fn : Str → Bool
  calm : Bool
  pn : List (Addr × Obj)
  xe : Value → Shared → Prop
/-- the callers' frames -/
def frs (l : List Env) : List Addr := l.filterMap (·.frame)
abbrev Cx.fs (X : Cx) : List Addr := frs X.outer

def Vis (sc : Scope) (x : Str) : Prop := sc.names.lookup x = some .local ∨ sc.names.lookup x = some .cell ∨ sc.names.lookup x = some .free
def Loc (sc : Scope) (x : Str) : Prop := sc.names.lookup x = some .local ∨ sc.names.lookup x = some .cell
def Look (env : Env) (h : Heap) (m : Str → Option Value) (x : Str) (u : Value) : Prop :=
  (env.kindOf x = some .local ∧ m x = some u) ∨ ((env.kindOf x = some .cell ∨ env.kindOf x = some .free) ∧ ∃ c, env.cells.lookup x = some c ∧ h.IsCell c (some u))

structure Cx.Ok (X : Cx) : Prop where
  mod : Mod X.K X.mg X.base
  kind : X.env.scope.kind = .function
  glob : X.env.globals = mainGlobals
  blt : X.env.builtins = builtinsNs
  above : X.s_0.heap.objs.size ≤ X.env.locals
  inj : ∀ x y c, X.env.cells.lookup x = some c → X.env.cells.lookup y = some c → x = y
  has : ∀ x, (X.env.kindOf x = some .cell ∨ X.env.kindOf x = some .free) → ∃ c, X.env.cells.lookup x = some c
  cab : ∀ x c, X.fn x = true → X.env.cells.lookup x = some c → X.s_0.heap.objs.size ≤ c
  hd : X.calm = true → X.A.handled = none
  frames : X.A.frames = some X.stack
  stk : X.stack = X.outer ∨ (X.stack = X.env :: X.outer ∧ X.env.frame = some X.env.locals)
  exf : ∀ b ∈ X.ex, b ≠ X.env.locals ∧ ∀ x c, X.env.cells.lookup x = some c → c ≠ b
  bs : ∀ b o, X.base.get? b = some o → X.s_0.heap.get? b = some o ∧ X.H_0 b = none
  bsz : X.base.objs.size ≤ X.s_0.heap.objs.size
  noex : ∀ b o, X.base.get? b = some o → b ∉ X.ex
  exfs : ∀ b ∈ X.ex, b ∉ X.fs
  funs : X.s_0.heap.FunFrames X.base X.outer
  frf : ∀ b ∈ X.fs, X.H_0 b = none

structure Inv (X : Cx) (pins : List (Addr × Obj)) (σ : List (Option V)) (H : Hp) (s : Shared) : Prop where
  ok : X.Ok
  os : s.os = X.s_0.os
  bare : AllBare s.gens
  base : Un X.fs X.ex X.H_0 H X.s_0.heap s.heap
  loc : ∃ m, s.heap.Ns X.env.locals m ∧ ∀ (i : Nat) (x : Str) (v : V), X.N[i]? = some x → σ[i]? = some (some v) → Vis X.env.scope x → ∃ u, RelV v u ∧ Look X.env s.heap m x u
  cell : ∀ x c, X.env.cells.lookup x = some c → ∃ v, s.heap.IsCell c v
  free : H X.env.locals = none
  freeC : ∀ x c, X.env.cells.lookup x = some c → H c = none
  pin : ∀ p ∈ X.pn ++ pins, s.heap.get? p.1 = some p.2 ∧ H p.1 = none ∧ p.1 ≠ X.env.locals ∧ p.1 ∉ X.fs ∧ ∀ v, p.2.data ≠ .cell v
  hok : HOk X.prog X.w H s.heap
  len : σ.length = X.N.length

section
variable {X : Cx} {pins : List (Addr × Obj)} {σ : List (Option V)} {H H' : Hp} {s : Shared} {h' : Heap}

theorem Cx.Ok.nofr (ok : X.Ok) {b : Addr} {o : Obj} (e : X.base.get? b = some o) : b ∉ X.fs := fun hb => by
  have := (ok.funs.mem hb).1
  rw [e] at this; cases this
theorem Inv.bs (I : Inv X pins σ H s) : ∀ b o, X.base.get? b = some o → s.heap.get? b = some o ∧ H b = none := fun b o e =>
  ⟨I.base.keep b o (I.ok.bs b o e).1 (I.ok.bs b o e).2 (I.ok.nofr e) (I.ok.noex b o e), I.base.free b o (I.ok.bs b o e).1 (I.ok.bs b o e).2 (I.ok.noex b o e)⟩
theorem Inv.bk (I : Inv X pins σ H s) : ∀ b o, X.base.get? b = some o → s.heap.get? b = some o := fun b o e => (I.bs b o e).1
theorem Inv.mod (I : Inv X pins σ H s) : Mod X.K X.mg X.base := I.ok.mod
theorem Inv.kIn (I : Inv X pins σ H s) : X.K.In s.heap := I.ok.mod.kin.keeps I.bk
/-- the frame over the base: for OpenK's rules (K.In X.base is I.mod.kin) -/
theorem Inv.fr (I : Inv X pins σ H s) : ∃ m, Fr X.base X.env.locals s.heap m :=
  let ⟨m, hn, _⟩ := I.loc
  ⟨m, hn, I.bk, Nat.le_trans I.ok.bsz I.ok.above⟩
theorem Inv.lt (I : Inv X pins σ H s) : X.env.locals < s.heap.objs.size := let ⟨_, hn, _⟩ := I.loc; hn.lt
theorem Inv.sz (I : Inv X pins σ H s) : X.s_0.heap.objs.size ≤ s.heap.objs.size := Nat.le_trans I.ok.above (Nat.le_of_lt I.lt)
theorem Inv.nofs (I : Inv X pins σ H s) {a : Addr} (h : s.heap.objs.size ≤ a) : a ∉ X.fs := fun hb => by
  obtain ⟨_, o, ho, _⟩ := I.ok.funs.mem hb
  exact absurd (Nat.lt_of_lt_of_le (Heap.lt_size ho) (Nat.le_trans I.sz h)) (Nat.lt_irrefl _)
theorem Inv.cne (I : Inv X pins σ H s) : ∀ x c, X.env.cells.lookup x = some c → c ≠ X.env.locals := fun x c e z => by
  obtain ⟨v, o, ho, hd⟩ := I.cell x c e
  obtain ⟨m, ⟨o', es, ep, ho', hd', _⟩, _⟩ := I.loc
  rw [z, ho'] at ho; cases ho; rw [hd'] at hd; cases hd
theorem Inv.funs (I : Inv X pins σ H s) : s.heap.FunFrames X.base X.outer := by
  have all : ∀ (l : List Env), (∀ b ∈ frs l, b ∈ X.fs) → X.s_0.heap.FunFrames X.base l → s.heap.FunFrames X.base l := by
    intro l
    induction l with
    | nil => intro _ _; trivial
    | cons env r ih =>
      intro hs hl
      obtain ⟨hk, ⟨L, o, hf, hn, ho, hd⟩, hr⟩ := hl
      have hL : L ∈ X.fs := hs L (by unfold frs; rw [List.filterMap_cons, hf]; exact List.mem_cons_self)
      obtain ⟨sl, e⟩ := I.base.slot L o ho (I.ok.frf L hL) hL fun z => I.ok.exfs L z hL
      exact ⟨hk, ⟨L, _, hf, hn, e, hd⟩, ih (fun b hb => hs b (by unfold frs; rw [List.filterMap_cons, hf]; exact List.mem_cons_of_mem _ hb)) hr⟩
  exact all X.outer (fun _ hb => hb) I.ok.funs

/-- the frames that run, for a call -/
theorem Inv.stack (I : Inv X pins σ H s) : s.heap.FunFrames X.base X.stack := by
  rcases I.ok.stk with e | ⟨e, hf⟩
  · rw [e]; exact I.funs
  · rw [e]
    obtain ⟨m, hn, _⟩ := I.loc
    refine .cons (by rw [I.ok.kind]; decide) hf hn ?_ I.funs
    exact Heap.get?_none_of_le (Nat.le_trans I.ok.bsz I.ok.above)
theorem Inv.stkSub (I : Inv X pins σ H s) : ∀ b ∈ frs X.stack, b ∈ X.env.locals :: X.fs := fun b hb => by
  rcases I.ok.stk with e | ⟨e, hf⟩
  · rw [e] at hb; exact List.mem_cons_of_mem _ hb
  · rw [e] at hb
    unfold frs at hb
    rw [List.filterMap_cons, hf] at hb
    exact hb
theorem Inv.stkFree (I : Inv X pins σ H s) : ∀ b ∈ frs X.stack, H b = none := fun b hb => by
  rcases List.mem_cons.mp (I.stkSub b hb) with e | hb
  · rw [e]; exact I.free
  · obtain ⟨_, o, ho, _⟩ := I.ok.funs.mem hb
    exact I.base.free b o ho (I.ok.frf b hb) fun z => I.ok.exfs b z hb

/-- THE STEP: the untracked objects but the frame and the records at ch are kept (the callers' frames up to slots), the frame's map is kept, the new abstract heap is held -/
theorem Inv.step {g' : Array GenState} {t' : Nat} {d' : Drawn} {ch : List Addr} (I : Inv X pins σ H s)
    (hch : ∀ b ∈ ch, (b ∈ X.ex ∨ X.s_0.heap.objs.size ≤ b) ∧ b ≠ X.env.locals ∧ (∀ x c, X.env.cells.lookup x = some c → c ≠ b) ∧ ∀ p ∈ X.pn ++ pins, p.1 ≠ b)
    (keep : ∀ b o, b ≠ X.env.locals → b ∉ X.fs → b ∉ ch → s.heap.get? b = some o → H b = none → h'.get? b = some o)
    (slot : ∀ b o, b ≠ X.env.locals → b ∈ X.fs → b ∉ ch → s.heap.get? b = some o → H b = none → ∃ sl, h'.get? b = some { o with slots := sl }) (free : ∀ b o, b ∉ ch → s.heap.get? b = some o → H b = none → H' b = none)
    (there : ∀ b o, b ∉ ch → s.heap.get? b = some o → ∃ o', h'.get? b = some o')
    (tups : ∀ b xs, H b = some (.tup xs) → H' b = some (.tup xs)) (frzs : ∀ b o u, H b = some (.frz o u) → H' b = some (.frz o u)) (tbls : ∀ b ps, H b = some (.tbl ps) → ∃ more, H' b = some (.tbl (ps ++ more)))
    (ns : ∀ m, s.heap.Ns X.env.locals m → h'.Ns X.env.locals m) (hok : HOk X.prog X.w H' h') (hg : AllBare g') :
    Inv X pins σ H' { s with heap := h', gens := g', drawn := d', toks := t' } := by
  have neL : ∀ b o, X.s_0.heap.get? b = some o → b ≠ X.env.locals := fun b o e => Nat.ne_of_lt (Nat.lt_of_lt_of_le (Heap.lt_size e) I.ok.above)
  have neC : ∀ b o, X.s_0.heap.get? b = some o → b ∉ X.ex → b ∉ ch := fun b o e hx hb => by
    rcases (hch b hb).1 with z | z
    · exact hx z
    · exact absurd (Nat.lt_of_lt_of_le (Heap.lt_size e) z) (Nat.lt_irrefl _)
  have cellK : ∀ x c, X.env.cells.lookup x = some c → ∀ v, s.heap.IsCell c v → h'.IsCell c v := fun x c e v ⟨o, ho, hd⟩ => by
    have nch : c ∉ ch := fun z => (hch c z).2.2.1 x c e rfl
    by_cases hc : c ∈ X.fs
    · obtain ⟨sl, q⟩ := slot c o (I.cne x c e) hc nch ho (I.freeC x c e)
      exact ⟨_, q, hd⟩
    · exact ⟨o, keep c o (I.cne x c e) hc nch ho (I.freeC x c e), hd⟩
  refine ⟨I.ok, I.os, hg, ⟨fun b o e n hb hx => ?_, fun b o e n hb hx => ?_, fun b o e n hx => ?_, fun b o e hx => ?_, fun b xs e => tups b xs (I.base.tups b xs e), fun b o xs e => frzs b o xs (I.base.frzs b o xs e), fun b ps e => ?_⟩, ?_, fun x c e => ?_, ?_, fun x c e => ?_, fun p hp => ?_, hok, I.len⟩
  · exact keep b o (neL b o e) hb (neC b o e hx) (I.base.keep b o e n hb hx) (I.base.free b o e n hx)
  · obtain ⟨sl, e1⟩ := I.base.slot b o e n hb hx
    obtain ⟨sl', e2⟩ := slot b _ (neL b o e) hb (neC b o e hx) e1 (I.base.free b o e n hx)
    exact ⟨sl', e2⟩
  · obtain ⟨o', e1⟩ := I.base.there b o e hx
    exact free b o' (neC b o e hx) e1 (I.base.free b o e n hx)
  · obtain ⟨o', e1⟩ := I.base.there b o e hx
    exact there b o' (neC b o e hx) e1
  · obtain ⟨m1, e1⟩ := I.base.tbls b ps e
    obtain ⟨m2, e2⟩ := tbls b _ e1
    exact ⟨m1 ++ m2, by rw [e2, Array.append_assoc]⟩
  · obtain ⟨m, hn, hl⟩ := I.loc
    refine ⟨m, ns m hn, fun i x v e1 e2 e3 => ?_⟩
    obtain ⟨u, r, l⟩ := hl i x v e1 e2 e3
    refine ⟨u, r, ?_⟩
    rcases l with l | ⟨k, c, e, z⟩
    · exact .inl l
    · exact .inr ⟨k, c, e, cellK x c e _ z⟩
  · obtain ⟨v, z⟩ := I.cell x c e
    exact ⟨v, cellK x c e v z⟩
  · obtain ⟨m, ⟨o, _, _, ho, _⟩, _⟩ := I.loc
    exact free _ o (fun z => (hch _ z).2.1 rfl) ho I.free
  · obtain ⟨v, o, ho, hd⟩ := I.cell x c e
    exact free c o (fun z => (hch c z).2.2.1 x c e rfl) ho (I.freeC x c e)
  · obtain ⟨e, n, ne, nf, d⟩ := I.pin p hp
    have nch : p.1 ∉ ch := fun z => (hch p.1 z).2.2.2 p hp rfl
    exact ⟨keep p.1 p.2 ne nf nch e n, free p.1 p.2 nch e n, ne, nf, d⟩
/-- .. where the frame's own object is kept too -/
theorem Inv.un {t' : Nat} (I : Inv X pins σ H s) (u : Un X.fs [] H H' s.heap h') (hok : HOk X.prog X.w H' h') : Inv X pins σ H' { s with heap := h', toks := t' } := by
  obtain ⟨m, ⟨o, es, ep, ho, r⟩, _⟩ := id I.loc
  obtain ⟨sl, hL⟩ := u.any ho I.free (by simp)
  exact I.step (g' := s.gens) (d' := s.drawn) (ch := []) (fun _ z => nomatch z) (fun b o _ hb _ e n => u.keep b o e n hb (by simp)) (fun b o _ hb _ e n => u.slot b o e n hb (by simp)) (fun b o _ e n => u.free b o e n (by simp)) (fun b o _ e => u.there b o e (by simp)) u.tups u.frzs u.tbls (fun m' hm => by
    obtain ⟨o', es', ep', ho', r'⟩ := hm
    rw [ho] at ho'; cases ho'
    exact ⟨_, es', ep', hL, r'⟩) hok I.bare
/-- behind a call (or a comprehension's block): the slots of this frame may have changed too, the records at ch may have turned -/
theorem Inv.call {g' : Array GenState} {t' : Nat} {d' : Drawn} {ch : List Addr} (I : Inv X pins σ H s) (u : Un (frs X.stack) ch H H' s.heap h') (hok : HOk X.prog X.w H' h') (hg : AllBare g')
    (hch : ∀ b ∈ ch, (b ∈ X.ex ∨ X.s_0.heap.objs.size ≤ b) ∧ b ≠ X.env.locals ∧ (∀ x c, X.env.cells.lookup x = some c → c ≠ b) ∧ ∀ p ∈ X.pn ++ pins, p.1 ≠ b) :
    Inv X pins σ H' { s with heap := h', gens := g', drawn := d', toks := t' } := by
  obtain ⟨m, ⟨o, es, ep, ho, r⟩, _⟩ := id I.loc
  obtain ⟨sl, hL⟩ := u.any ho I.free fun z => (hch _ z).2.1 rfl
  exact I.step (ch := ch) hch (fun b o hL hb hc e n => u.keep b o e n (fun z => (List.mem_cons.mp (I.stkSub b z)).elim hL hb) hc) (fun b o _ _ hc e n => u.any e n hc) (fun b o hc e n => u.free b o e n hc) (fun b o hc e => u.there b o e hc) u.tups u.frzs u.tbls (fun m' hm => by
    obtain ⟨o', es', ep', ho', r'⟩ := hm
    rw [ho] at ho'; cases ho'
    exact ⟨_, es', ep', hL, r'⟩) hok hg
/-- an untracked record of ours (an iterator) has turned -/
theorem Inv.turned {t' : Nat} {it : Addr} (I : Inv X pins σ H s) (k : ∀ b o, b ≠ it → s.heap.get? b = some o → h'.get? b = some o) (hn : H it = none) (hL : it ≠ X.env.locals)
    (h1 : it ∈ X.ex ∨ X.s_0.heap.objs.size ≤ it) (h2 : ∀ x c, X.env.cells.lookup x = some c → c ≠ it) (h3 : ∀ p ∈ X.pn ++ pins, p.1 ≠ it) : Inv X pins σ H { s with heap := h', toks := t' } := by
  have nit : ∀ b u, H b = some u → b ≠ it := fun b u e z => by rw [z, hn] at e; cases e
  refine I.step (g' := s.gens) (d' := s.drawn) (ch := [it]) (fun b hb => ?_) (fun b o _ _ hc e _ => k b o (fun z => hc (by simp [z])) e) (fun b o _ _ hc e _ => ⟨o.slots, k b o (fun z => hc (by simp [z])) e⟩) (fun _ _ _ _ n => n)
    (fun b o hc e => ⟨o, k b o (fun z => hc (by simp [z])) e⟩) (fun _ _ e => e) (fun _ _ _ e => e) (fun b ps e => ⟨#[], by rw [e]; simp⟩) (fun m hm => ?_) (fun b u e => ?_) I.bare
  · have e : b = it := by simpa using hb
    subst e
    exact ⟨h1, hL, h2, h3⟩
  · obtain ⟨o, es, ep, ho, r⟩ := hm
    exact ⟨o, es, ep, k _ o (Ne.symm hL) ho, r⟩
  · refine (I.hok b u e).stay (fun c v hc q => k c v ?_ q) (fun _ q => q) fun _ _ q => q
    rcases hc with z | z
    · rw [z]; exact nit b u e
    · exact nit c _ z
theorem Inv.tok (I : Inv X pins σ H s) (t : Nat) : Inv X pins σ H { s with toks := t } := I.un (h' := s.heap) (t' := t) Un.refl I.hok
/-- all objects kept -/
theorem Inv.kept {t' : Nat} (I : Inv X pins σ H s) (k : ∀ b u, s.heap.get? b = some u → h'.get? b = some u) : Inv X pins σ H { s with heap := h', toks := t' } := I.un (Un.kept k) (I.hok.kept k)
/-- a new object laid and tracked -/
theorem Inv.laid {a : Addr} {o : HO} {t' : Nat} (I : Inv X pins σ H s) (k : ∀ b u, s.heap.get? b = some u → h'.get? b = some u) (hp : s.heap.objs.size ≤ a) (new : ObjOk X.prog X.w (upd H a o) h' a o) :
    Inv X pins σ (upd H a o) { s with heap := h', toks := t' } := I.un (Un.laid k hp (I.hok.fresh hp)) (I.hok.laid k hp new)
/-- an object written -/
theorem Inv.write {x e : Addr} {o : HO} {t' : Nat} (I : Inv X pins σ H s) (mu : Mut (H x)) (he : e = x ∨ H e = some (.own x)) (k : ∀ b u, b ≠ e → s.heap.get? b = some u → h'.get? b = some u) (heo : ∃ u, h'.get? e = some u)
    (new : ObjOk X.prog X.w (upd H x o) h' x o) : Inv X pins σ (upd H x o) { s with heap := h', toks := t' } := I.un (Un.write mu he k heo) (I.hok.write mu he k heo new)
/-- forgetting slots, pins -/
theorem Inv.weak {σ' : List (Option V)} (I : Inv X pins σ H s) (hl : σ'.length = σ.length) (w : ∀ (i : Nat) v, σ'[i]? = some (some v) → σ[i]? = some (some v)) : Inv X pins σ' H s :=
  ⟨I.ok, I.os, I.bare, I.base, let ⟨m, hn, hl'⟩ := I.loc; ⟨m, hn, fun i x v e1 e2 e3 => hl' i x v e1 (w i v e2) e3⟩, I.cell, I.free, I.freeC, I.pin, I.hok, hl.trans I.len⟩
theorem Inv.pins_of {pins' : List (Addr × Obj)} (I : Inv X pins σ H s) (h : ∀ p ∈ pins', s.heap.get? p.1 = some p.2 ∧ H p.1 = none ∧ p.1 ≠ X.env.locals ∧ p.1 ∉ X.fs ∧ ∀ v, p.2.data ≠ .cell v) : Inv X pins' σ H s :=
  ⟨I.ok, I.os, I.bare, I.base, I.loc, I.cell, I.free, I.freeC, fun p hp => (List.mem_append.mp hp).elim (fun z => I.pin p (List.mem_append_left _ z)) (h p), I.hok, I.len⟩

theorem nodup_ix {N : List Str} (hN : N.Nodup) {i j : Nat} {x : Str} (a : N[i]? = some x) (b : N[j]? = some x) : i = j := by
  obtain ⟨h1, e1⟩ := List.getElem?_eq_some_iff.mp a
  obtain ⟨h2, e2⟩ := List.getElem?_eq_some_iff.mp b
  exact (List.getElem_inj hN).mp (e1.trans e2.symm)

/-- a name is stored; what changed -/
theorem store_ok2 {M : Model} {A : Around} {E : Value → Shared → Prop} {i : Nat} {x : Str} {v : V} {u : Value} {Q : Unit → Shared → Prop} (I : Inv X pins σ H s) (hN : X.N.Nodup) (hi : X.N[i]? = some x) (hx : Loc X.env.scope x) (r : RelV v u)
    (h : ∀ s', Inv X pins (σ.set i (some v)) H s' → (∃ a, Heap.SameBut a s.heap s'.heap ∧ (a = X.env.locals ∨ X.env.cells.lookup x = some a)) → Q () s') (hf : X.fn x = true ∨ X.env.scope.names.lookup x = some .local := by first | exact .inl rfl | exact .inr rfl | assumption) : wpAny M A (storeName X.env x u) Q E s := by
  obtain ⟨m, hn, hl⟩ := id I.loc
  have hcls : (X.env.scope.kind == .class || (X.env.scope.kind == .module && X.env.locals != X.env.globals)) = false := by rw [I.ok.kind]; rfl
  have hiσ : i < σ.length := by rw [I.len]; exact (List.getElem?_eq_some_iff.mp hi).1
  have cne := I.cne
  have tracked : ∀ {a : Addr} {h' : Heap}, (∃ o, s.heap.get? a = some o ∧ H a = none) → Heap.SameBut a s.heap h' → HOk X.prog X.w H h' := fun {a h'} ha hs b ob e => by
    obtain ⟨_, _, hfree⟩ := ha
    refine (I.hok b ob e).stay (fun c w' hc q => (hs.2 c ?_).trans q) (fun _ q => q) fun _ _ q => q
    rintro rfl
    rcases hc with rfl | hc
    · rw [hfree] at e; cases e
    · rw [hfree] at hc; cases hc
  rcases hx with hk | hk
  · refine wpAny_storeName_local hk hn (fun h' hn' hs => ?_) hcls
    obtain ⟨oL, _, _, hoL, _⟩ := id hn
    refine h _ ⟨I.ok, I.os, I.bare, ⟨fun b o e n hb hx => ?_, fun b o e n hb hx => ?_, I.base.free, fun b o e hx => ?_, I.base.tups, I.base.frzs, I.base.tbls⟩, ⟨_, hn', fun j y v' e1 e2 e3 => ?_⟩, fun y c e => ?_, I.free, I.freeC, fun p hp => ?_, tracked ⟨oL, hoL, I.free⟩ hs, by simpa using I.len⟩ ⟨_, hs, .inl rfl⟩
    · exact (hs.2 b (Nat.ne_of_lt (Nat.lt_of_lt_of_le (Heap.lt_size e) I.ok.above))).trans (I.base.keep b o e n hb hx)
    · obtain ⟨sl, e1⟩ := I.base.slot b o e n hb hx
      exact ⟨sl, (hs.2 b (Nat.ne_of_lt (Nat.lt_of_lt_of_le (Heap.lt_size e) I.ok.above))).trans e1⟩
    · obtain ⟨o', e1⟩ := I.base.there b o e hx
      exact ⟨o', (hs.2 b (Nat.ne_of_lt (Nat.lt_of_lt_of_le (Heap.lt_size e) I.ok.above))).trans e1⟩
    · by_cases hj : j = i
      · subst hj
        rw [hi] at e1; cases e1
        rw [List.getElem?_set_self hiσ] at e2
        cases e2
        exact ⟨u, r, .inl ⟨hk, by simp⟩⟩
      · rw [List.getElem?_set_ne (Ne.symm hj)] at e2
        obtain ⟨u', r', q⟩ := hl j y v' e1 e2 e3
        refine ⟨u', r', ?_⟩
        rcases q with ⟨k, e⟩ | ⟨k, c, e, z⟩
        · refine .inl ⟨k, ?_⟩
          have : y ≠ x := fun e => hj (nodup_ix hN e1 (e ▸ hi))
          simp [this, e]
        · exact .inr ⟨k, c, e, z.sameBut hs (cne y c e)⟩
    · obtain ⟨w', z⟩ := I.cell y c e
      exact ⟨w', z.sameBut hs (cne y c e)⟩
    · obtain ⟨e, n, ne, nf, d⟩ := I.pin p hp
      exact ⟨(hs.2 p.1 ne).trans e, n, ne, nf, d⟩
  · have hfn : X.fn x = true := by
      rcases hf with z | z
      · exact z
      · rw [z] at hk; cases hk
    obtain ⟨c, hc⟩ := I.ok.has x (.inl hk)
    obtain ⟨w', z⟩ := I.cell x c hc
    refine wpAny_storeName_cell I.ok.kind hk hc z (fun h' hc' hs => ?_)
    obtain ⟨oc, hoc, hocd⟩ := id z
    refine h { s with heap := h' } ⟨I.ok, I.os, I.bare, ⟨fun b o e n hb hx => ?_, fun b o e n hb hx => ?_, I.base.free, fun b o e hx => ?_, I.base.tups, I.base.frzs, I.base.tbls⟩, ⟨m, hn.sameBut hs (Ne.symm (cne x c hc)), fun j y v' e1 e2 e3 => ?_⟩, fun y c' e => ?_, I.free, I.freeC, fun p hp => ?_, tracked ⟨oc, hoc, I.freeC x c hc⟩ hs, by simpa using I.len⟩ ⟨c, hs, .inr hc⟩
    · exact (hs.2 b (Nat.ne_of_lt (Nat.lt_of_lt_of_le (Heap.lt_size e) (I.ok.cab x c hfn hc)))).trans (I.base.keep b o e n hb hx)
    · obtain ⟨sl, e1⟩ := I.base.slot b o e n hb hx
      exact ⟨sl, (hs.2 b (Nat.ne_of_lt (Nat.lt_of_lt_of_le (Heap.lt_size e) (I.ok.cab x c hfn hc)))).trans e1⟩
    · obtain ⟨o', e1⟩ := I.base.there b o e hx
      exact ⟨o', (hs.2 b (Nat.ne_of_lt (Nat.lt_of_lt_of_le (Heap.lt_size e) (I.ok.cab x c hfn hc)))).trans e1⟩
    · by_cases hj : j = i
      · subst hj
        rw [hi] at e1; cases e1
        rw [List.getElem?_set_self hiσ] at e2
        cases e2
        exact ⟨u, r, .inr ⟨.inl hk, c, hc, hc'⟩⟩
      · rw [List.getElem?_set_ne (Ne.symm hj)] at e2
        obtain ⟨u', r', q⟩ := hl j y v' e1 e2 e3
        refine ⟨u', r', ?_⟩
        rcases q with q | ⟨k, c', e, z'⟩
        · exact .inl q
        · refine .inr ⟨k, c', e, z'.sameBut hs ?_⟩
          rintro rfl
          exact hj (nodup_ix hN e1 (I.ok.inj _ _ _ e hc ▸ hi))
    · by_cases hcc : c' = c
      · subst hcc; exact ⟨_, hc'⟩
      · obtain ⟨w2, z2⟩ := I.cell y c' e
        exact ⟨w2, z2.sameBut hs hcc⟩
    · obtain ⟨e, n, ne, nf, d⟩ := I.pin p hp
      refine ⟨(hs.2 p.1 ?_).trans e, n, ne, nf, d⟩
      intro q
      rw [q, hoc] at e
      have q' : oc = p.2 := Option.some.inj e
      exact d w' (by rw [← q']; exact hocd)
theorem store_ok {M : Model} {A : Around} {E : Value → Shared → Prop} {i : Nat} {x : Str} {v : V} {u : Value} {Q : Unit → Shared → Prop} (I : Inv X pins σ H s) (hN : X.N.Nodup) (hi : X.N[i]? = some x) (hx : Loc X.env.scope x) (r : RelV v u)
    (h : ∀ s', Inv X pins (σ.set i (some v)) H s' → Q () s') (hf : X.fn x = true ∨ X.env.scope.names.lookup x = some .local := by first | exact .inl rfl | exact .inr rfl | assumption) : wpAny M A (storeName X.env x u) Q E s :=
  store_ok2 I hN hi hx r (fun s' I' _ => h s' I') hf
/-- behind a call or a block, the state as it is -/
theorem Inv.call' {s' : Shared} {ch : List Addr} (I : Inv X pins σ H s) (ho : s'.os = s.os) (u : Un (frs X.stack) ch H H' s.heap s'.heap) (hok : HOk X.prog X.w H' s'.heap) (hg : AllBare s'.gens)
    (hch : ∀ b ∈ ch, (b ∈ X.ex ∨ X.s_0.heap.objs.size ≤ b) ∧ b ≠ X.env.locals ∧ (∀ x c, X.env.cells.lookup x = some c → c ≠ b) ∧ ∀ p ∈ X.pn ++ pins, p.1 ≠ b) : Inv X pins σ H' s' := by
  obtain ⟨h', g', d', t', o'⟩ := s'
  have e : o' = s.os := ho
  subst e
  exact I.call (g' := g') (t' := t') (d' := d') u hok hg hch
end

/-! ### the judgements -/
/-- an exception: its class, its own dict's address (where it has one), the abstract heap behind it -/
abbrev XK := Value → Option Addr → Hp → Prop
abbrev St := List (Option V)
abbrev VK := V → Hp → Prop
/-- an expression's reading; a test's; an argument list's -/
abbrev TE := St → Hp → VK → Prop
abbrev TT := St → Hp → (Bool → Hp → Prop) → Prop
abbrev TA := St → Hp → (List V → Hp → Prop) → Prop
/-- what is wanted behind a statement -/
structure Ends where
  nx : St → Hp → Prop
  rt : VK
  bk : St → Hp → Prop := fun _ _ => False
  ct : St → Hp → Prop := fun _ _ => False
abbrev TS := Ends → St → Hp → Prop

def EP (X : Cx) (pins : List (Addr × Obj)) (σ : St) (Q : VK) (u : Value) (s' : Shared) : Prop := ∃ v H', Inv X pins σ H' s' ∧ RelV v u ∧ Q v H'
def TP (X : Cx) (pins : List (Addr × Obj)) (σ : St) (Q : Bool → Hp → Prop) (b : Bool) (s' : Shared) : Prop := ∃ H', Inv X pins σ H' s' ∧ Q b H'
def AP (X : Cx) (pins : List (Addr × Obj)) (σ : St) (Q : List V → Hp → Prop) (us : List Value) (s' : Shared) : Prop := ∃ vs H', Inv X pins σ H' s' ∧ Vals vs us ∧ Q vs H'
def SP (X : Cx) (pins : List (Addr × Obj)) (D : Ends) (f : Flow) (s' : Shared) : Prop :=
  match f with
  | .next => ∃ σ' H', Inv X pins σ' H' s' ∧ D.nx σ' H'
  | .brk => ∃ σ' H', Inv X pins σ' H' s' ∧ D.bk σ' H'
  | .cont => ∃ σ' H', Inv X pins σ' H' s' ∧ D.ct σ' H'
  | .ret u => ∃ v σ' H', Inv X pins σ' H' s' ∧ RelV v u ∧ D.rt v H'

def PE (X : Cx) (e : Expr) (t : TE) : Prop :=
  ∀ (pins : List (Addr × Obj)) (s : Shared) (σ : St) (H : Hp) (Q : VK), Inv X pins σ H s → t σ H Q → wpAny (model X.prog X.w) X.A (eval e X.env) (EP X pins σ Q) X.xe s
def PT (X : Cx) (e : Expr) (t : TT) : Prop :=
  ∀ (pins : List (Addr × Obj)) (s : Shared) (σ : St) (H : Hp) (Q : Bool → Hp → Prop), Inv X pins σ H s → t σ H Q → wpAny (model X.prog X.w) X.A (isTrue e X.env (eval e X.env)) (TP X pins σ Q) X.xe s
/-- a test whatever its 'whole' is (and, or) -/
def PW (X : Cx) (e : Expr) (t : TT) : Prop :=
  ∀ (whole : Sem Value) (pins : List (Addr × Obj)) (s : Shared) (σ : St) (H : Hp) (Q : Bool → Hp → Prop), Inv X pins σ H s → t σ H Q → wpAny (model X.prog X.w) X.A (isTrue e X.env whole) (TP X pins σ Q) X.xe s
theorem PW.pt {X : Cx} {e : Expr} {t : TT} (h : PW X e t) : PT X e t := h _
/-- an argument list (no star), from the left -/
def PA (X : Cx) (es : List Expr) (t : TA) : Prop :=
  ∀ (pos : Pos) (pins : List (Addr × Obj)) (s : Shared) (σ : St) (H : Hp) (Q : List V → Hp → Prop), Inv X pins σ H s → t σ H Q → wpAny (model X.prog X.w) X.A (spliced (backTo pos (starEach es X.env))) (AP X pins σ Q) X.xe s
def PS (X : Cx) (st : Stmt) (t : TS) : Prop :=
  ∀ (pins : List (Addr × Obj)) (s : Shared) (σ : St) (H : Hp) (D : Ends), Inv X pins σ H s → t D σ H → wpAny (model X.prog X.w) X.A (exec st X.env) (SP X pins D) X.xe s
def PSs (X : Cx) (st : List Stmt) (t : TS) : Prop :=
  ∀ (pins : List (Addr × Obj)) (s : Shared) (σ : St) (H : Hp) (D : Ends), Inv X pins σ H s → t D σ H → wpAny (model X.prog X.w) X.A (execs st X.env) (SP X pins D) X.xe s
/-- weaken the end -/
theorem thn {α : Type} {t : Sem α} {Q Q' : α → Shared → Prop} {M : Model} {A : Around} {E : Value → Shared → Prop} {s : Shared} (h : wpAny M A t Q E s) (hQ : ∀ a s, Q a s → Q' a s) : wpAny M A t Q' E s := wpAny_mono h hQ fun _ _ x => x
end L2

namespace L2
open PySem PySem.Spec PyProof.Rows
section
variable {X : Cx}

/-- two expressions in a row -/
theorem bin {a b : Expr} {ta tb : TE} (ha : PE X a ta) (hb : PE X b tb) {pins : List (Addr × Obj)} {s : Shared} {σ : St} {H : Hp} {R : V → V → Hp → Prop} (I : Inv X pins σ H s) (h : ta σ H fun x H1 => tb σ H1 fun y H2 => R x y H2)
    {α : Type} {Q : α → Shared → Prop} {f : Value → Value → Sem α}
    (hf : ∀ v u s2 x y H2, Inv X pins σ H2 s2 → RelV x v → RelV y u → R x y H2 → wpAny (model X.prog X.w) X.A (f v u) Q X.xe s2) :
    wpAny (model X.prog X.w) X.A (eval a X.env) (fun v s₁ => wpAny (model X.prog X.w) X.A (eval b X.env) (fun u s₂ => wpAny (model X.prog X.w) X.A (f v u) Q X.xe s₂) X.xe s₁) X.xe s := by
  refine thn (ha pins s σ H _ I h) fun v s1 ⟨x, H1, I1, r1, q1⟩ => ?_
  refine thn (hb pins s1 σ H1 _ I1 q1) fun u s2 ⟨y, H2, I2, r2, q2⟩ => ?_
  exact hf v u s2 x y H2 I2 r1 r2 q2

/-! ### names and constants -/
def tVar (i : Nat) : TE := fun σ H Q => ∃ v, σ[i]? = some (some v) ∧ Q v H
def tC (v : V) : TE := fun _ H Q => Q v H
theorem pe_var {i : Nat} {x : Str} {pos : Pos} (hN : X.N[i]? = some x) (hv : Vis X.env.scope x) (hd : (x == ("__debug__" : Str)) = false := by decide) (hcd : (x == ("__classdict__" : Str)) = false := by decide) : PE X (.Name x pos) (tVar i) := by
  intro pins s σ H Q I h
  obtain ⟨v, e, h⟩ := h
  obtain ⟨m, hn, hl⟩ := I.loc
  obtain ⟨u, r, l⟩ := hl i x v hN e hv
  have fin : EP X pins σ Q u s := ⟨v, H, I, r, h⟩
  rcases l with ⟨hk, hm⟩ | ⟨hk, c, hc, hcell⟩
  · exact wpAny_Name (wpAny_loadName_local I.ok.kind hk hn hm fin) hd
  · rcases hk with hk | hk
    · exact wpAny_Name (wpAny_loadName_cell I.ok.kind hk hc hcell fin) hd
    · exact wpAny_Name (wpAny_loadName_free I.ok.kind hk hc hcell fin hcd) hd
theorem pe_int {i j pos} : PE X (.Constant (.int i) j pos) (tC (.int i)) := fun _ _ _ H _ I h => wpAny_Constant_int ⟨.int i, H, I.tok _, ⟨_, rfl⟩, h⟩
theorem pe_bl {b j pos} : PE X (.Constant (.bool b) j pos) (tC (.bl b)) := fun _ _ _ H _ I h => Constant_bool ⟨.bl b, H, I, rfl, h⟩
theorem pe_non {j pos} : PE X (.Constant .none j pos) (tC .non) := fun _ _ _ H _ I h => Constant_none ⟨.non, H, I, rfl, h⟩

/-- a global name of the def -/
def Gl (X : Cx) (x : Str) : Prop := X.env.kindOf x = some .globalImplicit
theorem ld_glob {E : Value → Shared → Prop} {pins : List (Addr × Obj)} {s : Shared} {σ : St} {H : Hp} {x : Str} {u : Value} {pos : Pos} {Q : Value → Shared → Prop} (I : Inv X pins σ H s) (hg : Gl X x) (hm : X.mg x = some u) (h : Q u s)
    (hd : (x == ("__debug__" : Str)) = false := by decide) : wpAny (model X.prog X.w) X.A (eval (.Name x pos) X.env) Q E s :=
  Calls.Name_function_global I.ok.kind hg (Calls.loadGlobal_global (by rw [I.ok.glob]; exact I.mod.glob.keeps I.bk) hm h) hd
theorem ld_blt {E : Value → Shared → Prop} {pins : List (Addr × Obj)} {s : Shared} {σ : St} {H : Hp} {x : Str} {u : Value} {pos : Pos} {Q : Value → Shared → Prop} (I : Inv X pins σ H s) (hg : Gl X x) (hm : X.mg x = none) (hv : bootBuiltins x = some u) (h : Q u s)
    (hn : x ≠ "__name__" := by decide) (hd : (x == ("__debug__" : Str)) = false := by decide) : wpAny (model X.prog X.w) X.A (eval (.Name x pos) X.env) Q E s := by
  obtain ⟨mb, h1, h2⟩ := I.mod.blt
  exact Calls.Name_function_global I.ok.kind hg (Calls.loadGlobal_builtin (by rw [I.ok.glob]; exact I.mod.glob.keeps I.bk) hm (by rw [I.ok.blt]; exact h1.keeps I.bk) ((h2 x hn).trans hv) h) hd
/-- a module's constant, a class, a function, as a value -/
theorem pe_glob {x : Str} {v : V} {u : Value} {pos : Pos} (hg : Gl X x) (hm : X.mg x = some u) (r : RelV v u) (hd : (x == ("__debug__" : Str)) = false := by decide) : PE X (.Name x pos) (tC v) :=
  fun _ _ _ H _ I h => ld_glob I hg hm ⟨v, H, I, r, h⟩ hd

/-! ### arithmetic -/
/-- two ints -/
def t2I (ta tb : TE) (k : Int → Int → Hp → Prop) : St → Hp → Prop := fun σ H => ta σ H fun x H1 => tb σ H1 fun y H2 => ∃ i j, x = .int i ∧ y = .int j ∧ k i j H2
def tAdd (ta tb : TE) : TE := fun σ H Q => t2I ta tb (fun i j H2 => Q (.int (i + j)) H2) σ H
def tSub (ta tb : TE) : TE := fun σ H Q => t2I ta tb (fun i j H2 => Q (.int (i - j)) H2) σ H
variable {a b : Expr} {ta tb : TE} {pos : Pos}
theorem pe_add (ha : PE X a ta) (hb : PE X b tb) : PE X (.BinOp a .Add b pos) (tAdd ta tb) := by
  intro pins s σ H Q I h
  refine wpAny_BinOp (bin ha hb I h fun v u s2 x y H2 I2 rx ry q => ?_)
  obtain ⟨i, j, rfl, rfl, q⟩ := q
  obtain ⟨t, rfl⟩ := rx
  obtain ⟨t', rfl⟩ := ry
  exact add_int ⟨.int _, H2, I2.tok _, ⟨_, rfl⟩, q⟩
theorem pe_sub (ha : PE X a ta) (hb : PE X b tb) : PE X (.BinOp a .Sub b pos) (tSub ta tb) := by
  intro pins s σ H Q I h
  refine wpAny_BinOp (bin ha hb I h fun v u s2 x y H2 I2 rx ry q => ?_)
  obtain ⟨i, j, rfl, rfl, q⟩ := q
  obtain ⟨t, rfl⟩ := rx
  obtain ⟨t', rfl⟩ := ry
  exact sub_int ⟨.int _, H2, I2.tok _, ⟨_, rfl⟩, q⟩

/-! ### comparisons -/
def PC (X : Cx) (op : CmpOp) (a b : Expr) (t : TE) : Prop :=
  ∀ (pins : List (Addr × Obj)) (s : Shared) (σ : St) (H : Hp) (Q : VK), Inv X pins σ H s → t σ H Q →
    wpAny (model X.prog X.w) X.A (eval a X.env) (fun v s₁ => wpAny (model X.prog X.w) X.A (eval b X.env) (fun u s₂ => wpAny (model X.prog X.w) X.A (compareOp op v u) (EP X pins σ Q) X.xe s₂) X.xe s₁) X.xe s
theorem nobehind (b : Expr) {op : CmpOp} (h : op ≠ .In) (h2 : op ≠ .NotIn) : behindInMarks op b = false := by
  have e1 : (op == CmpOp.In) = false := by cases op <;> first | rfl | exact absurd rfl h
  have e2 : (op == CmpOp.NotIn) = false := by cases op <;> first | rfl | exact absurd rfl h2
  cases b <;> simp [behindInMarks, e1, e2]
def tCmp (p : Int → Int → Bool) (ta tb : TE) : TE := fun σ H Q => t2I ta tb (fun i j H2 => Q (.bl (p i j)) H2) σ H
abbrev tLt : TE → TE → TE := tCmp fun i j => decide (i < j)
abbrev tGt : TE → TE → TE := tCmp fun i j => decide (j < i)
abbrev tGe : TE → TE → TE := tCmp fun i j => decide (j ≤ i)
abbrev tEqI : TE → TE → TE := tCmp fun i j => decide (i = j)
abbrev tNeI : TE → TE → TE := tCmp fun i j => !decide (i = j)
/-- a comparison of two ints, by its rule -/
theorem pc_int {op : CmpOp} {p : Int → Int → Bool} (ha : PE X a ta) (hb : PE X b tb)
    (rule : ∀ (i j : Int) (t u : Tok) (Q : Value → Shared → Prop) (s : Shared), Q (.bool (p i j)) s → wpAny (model X.prog X.w) X.A (compareOp op (.int i t) (.int j u)) Q X.xe s) : PC X op a b (tCmp p ta tb) := by
  intro pins s σ H Q I h
  refine bin ha hb I h fun v u s2 x y H2 I2 rx ry q => ?_
  obtain ⟨i, j, rfl, rfl, q⟩ := q
  obtain ⟨t, rfl⟩ := rx
  obtain ⟨t', rfl⟩ := ry
  exact rule i j t t' _ s2 ⟨.bl _, H2, I2, rfl, q⟩
theorem pc_lt (ha : PE X a ta) (hb : PE X b tb) : PC X .Lt a b (tLt ta tb) := pc_int ha hb fun _ _ _ _ _ _ h => lt_int h
theorem pc_gt (ha : PE X a ta) (hb : PE X b tb) : PC X .Gt a b (tGt ta tb) := pc_int ha hb fun _ _ _ _ _ _ h => gt_int h
theorem pc_ge (ha : PE X a ta) (hb : PE X b tb) : PC X .GtE a b (tGe ta tb) := pc_int ha hb fun _ _ _ _ _ _ h => ge_int h
theorem pc_eqI (ha : PE X a ta) (hb : PE X b tb) : PC X .Eq a b (tEqI ta tb) := pc_int ha hb fun _ _ _ _ _ _ h => eq_int (by rw [Bool.beq_eq_decide_eq]; exact h)
theorem pc_neI (ha : PE X a ta) (hb : PE X b tb) : PC X .NotEq a b (tNeI ta tb) := pc_int ha hb fun _ _ _ _ _ _ h => ne_int (by rw [bne, Bool.beq_eq_decide_eq]; exact h)
/-- is None -/
def tIsN (ta : TE) : TE := fun σ H Q => ta σ H fun x H1 => Q (.bl (decide (x = .non))) H1
theorem RelV.none_iff {x : V} {v : Value} (r : RelV x v) : (v == Value.none) = decide (x = .non) := by
  cases x with
  | non => cases r; rfl
  | bl _ => cases r; rfl
  | int _ => obtain ⟨t, rfl⟩ := r; rfl
  | str _ => obtain ⟨t, rfl⟩ := r; rfl
  | byt _ => obtain ⟨t, rfl⟩ := r; rfl
  | flt _ => obtain ⟨t, rfl⟩ := r; rfl
  | ref _ => cases r; rfl
  | ty _ => cases r; rfl
theorem pc_isN {j pos'} (ha : PE X a ta) : PC X .Is a (.Constant .none j pos') (tIsN ta) := by
  intro pins s σ H Q I h
  refine thn (ha pins s σ H _ I h) fun v s1 ⟨x, H1, I1, r1, q1⟩ => ?_
  exact Constant_none (is_none_gen ⟨.bl _, H1, I1, by rw [r1.none_iff]; rfl, q1⟩)
/-- a comparison as a value, as a test -/
def tB (t : TE) : TT := fun σ H Q => t σ H fun x H1 => ∃ c, x = .bl c ∧ Q c H1
theorem pe_cmp {op : CmpOp} {t : TE} (h : PC X op a b t) (h1 : behindInMarks op b = false := by first | exact nobehind _ (by decide) (by decide) | rfl) : PE X (.Compare a [op] [b] pos) t := fun pins s σ H Q I hw => wpAny_Compare1 (h pins s σ H Q I hw) h1
theorem pt_cmp {op : CmpOp} {t : TE} (h : PC X op a b t) (h1 : behindInMarks op b = false := by first | exact nobehind _ (by decide) (by decide) | rfl) : PT X (.Compare a [op] [b] pos) (tB t) := by
  intro pins s σ H Q I hw
  refine wpAny_isTrue_Compare1 (thn (h pins s σ H _ I hw) fun v s1 h1 => thn h1 fun u s2 h2 => thn h2 fun c s3 ⟨x, H1, I1, r1, q1⟩ => ?_) h1
  obtain ⟨d, rfl, q⟩ := q1
  cases r1
  exact wpAny_truthy_bool ⟨H1, I1, q⟩
/-- an expression whose value is a bool, as a test -/
theorem pt_val {e : Expr} {t : TE} (h : PE X e t) (he : ∀ whole, isTrue e X.env whole = (do let v ← whole; standAt e.pos; holding [v] (truthy v)) := by intro _; rfl) : PT X e (tB t) := by
  intro pins s σ H Q I hw
  refine isTrue_plain (thn (h pins s σ H _ I hw) fun v s1 ⟨x, H1, I1, r1, q1⟩ => ?_) (he _)
  obtain ⟨d, rfl, q⟩ := q1
  cases r1
  exact wpAny_truthy_bool ⟨H1, I1, q⟩

/-! ### and, or, not -/
variable {tA tB' : TT} {rest : List Expr}
def tAnd (t u : TT) : TT := fun σ H Q => t σ H fun c H1 => if c = true then u σ H1 Q else Q false H1
def tOr (t u : TT) : TT := fun σ H Q => t σ H fun c H1 => if c = true then Q true H1 else u σ H1 Q
def tNot (t : TT) : TT := fun σ H Q => t σ H fun c H1 => Q (!c) H1
theorem pw_and1 (ha : PT X a tA) : PW X (.BoolOp .And [a] pos) tA := by
  intro wh pins s σ H Q I h
  refine isTrue_and (thn (ha pins s σ H Q I h) fun c s1 e => ?_)
  cases c with
  | true => exact isTrue_and_nil e
  | false => exact e
theorem pw_or1 (ha : PT X a tA) : PW X (.BoolOp .Or [a] pos) tA := by
  intro wh pins s σ H Q I h
  refine isTrue_or (thn (ha pins s σ H Q I h) fun c s1 e => ?_)
  cases c with
  | false => exact isTrue_or_nil e
  | true => exact e
theorem pw_and (ha : PT X a tA) (hb : PW X (.BoolOp .And (b :: rest) pos) tB') : PW X (.BoolOp .And (a :: b :: rest) pos) (tAnd tA tB') := by
  intro wh pins s σ H Q I h
  refine isTrue_and (thn (ha pins s σ H _ I h) fun c s1 ⟨H1, I1, q1⟩ => ?_)
  cases c with
  | true => exact hb wh pins s1 σ H1 Q I1 q1
  | false => exact ⟨H1, I1, q1⟩
theorem pw_or (ha : PT X a tA) (hb : PW X (.BoolOp .Or (b :: rest) pos) tB') : PW X (.BoolOp .Or (a :: b :: rest) pos) (tOr tA tB') := by
  intro wh pins s σ H Q I h
  refine isTrue_or (thn (ha pins s σ H _ I h) fun c s1 ⟨H1, I1, q1⟩ => ?_)
  cases c with
  | true => exact ⟨H1, I1, q1⟩
  | false => exact hb wh pins s1 σ H1 Q I1 q1
theorem pt_not (ha : PT X a tA) : PT X (.UnaryOp .Not a pos) (tNot tA) := by
  intro pins s σ H Q I h
  exact isTrue_not (ha pins s σ H (fun c H1 => Q (!c) H1) I h)
/-- a if t else b -/
def tIf (t : TT) (ta tb : TE) : TE := fun σ H Q => t σ H fun c H1 => if c = true then ta σ H1 Q else tb σ H1 Q
theorem pe_ifExp {c : Expr} (hc : PT X c tA) (ha : PE X a ta) (hb : PE X b tb) : PE X (.IfExp c a b pos) (tIf tA ta tb) := by
  intro pins s σ H Q I h
  refine wpAny_IfExp (thn (hc pins s σ H _ I h) fun d s1 ⟨H1, I1, q1⟩ => ?_)
  cases d with
  | true => exact ha pins s1 σ H1 Q I1 q1
  | false => exact hb pins s1 σ H1 Q I1 q1
end
end L2

namespace L2
open PySem PySem.Spec PyProof.Rows

/-! ### a list, a tuple that is read: tracked, frozen, or an object of the module -/
def SqL (K : PySem.W.Frag) (H : Hp) (a : Addr) (xs : List V) : Prop :=
  Rd H a (.lst xs) ∨
    ∃ (o : Obj) (its : Array Value) (n : Nat), K.lookup a = some o ∧ o.cls = .type "list" ∧ o.dict = none ∧ o.data = .seq its n ∧ its.size ≤ sizeLine ∧ Vals xs its.toList
def SqT (K : PySem.W.Frag) (H : Hp) (a : Addr) (xs : List V) : Prop :=
  Rd H a (.tup xs) ∨
    ∃ (o : Obj) (its : Array Value) (n : Nat), K.lookup a = some o ∧ o.cls = .type "tuple" ∧ o.data = .seq its n ∧ its.size ≤ sizeLine ∧ Vals xs its.toList
def absV : Value → Option V
  | .none => some .non
  | .bool b => some (.bl b)
  | .int i _ => some (.int i)
  | .str x _ => some (.str x)
  | .bytes b _ => some (.byt b)
  | .float b _ => some (.flt b)
  | .ref a => some (.ref a)
  | .type n => some (.ty n)
  | _ => none
theorem RelV.abs {x : V} {u : Value} (r : RelV x u) : absV u = some x := by
  cases x with
  | non => cases r; rfl
  | bl _ => cases r; rfl
  | int _ => obtain ⟨t, rfl⟩ := r; rfl
  | str _ => obtain ⟨t, rfl⟩ := r; rfl
  | byt _ => obtain ⟨t, rfl⟩ := r; rfl
  | flt _ => obtain ⟨t, rfl⟩ := r; rfl
  | ref _ => cases r; rfl
  | ty _ => cases r; rfl
theorem RelV.inj {x y : V} {u : Value} (r : RelV x u) (q : RelV y u) : x = y := Option.some.inj (r.abs.symm.trans q.abs)
theorem Vals.inj : ∀ {xs ys : List V} {us : List Value}, Vals xs us → Vals ys us → xs = ys
  | _, _, _, .nil, .nil => rfl
  | _, _, _, .cons r t, .cons r' t' => by rw [r.inj r', Vals.inj t t']
section
variable {X : Cx} {pins : List (Addr × Obj)} {σ : St} {H : Hp} {s : Shared} {a : Addr} {xs ys : List V}
theorem SqL.of {K : PySem.W.Frag} (h : H a = some (.lst xs)) : SqL K H a xs := .inl (.inl h)
theorem SqT.of {K : PySem.W.Frag} (h : H a = some (.tup xs)) : SqT K H a xs := .inl (.inl h)
theorem Inv.list (I : Inv X pins σ H s) (h : SqL X.K H a xs) : ∃ its : List Value, Vals xs its ∧ PlainL s.heap a its.toArray ∧ xs.length ≤ sizeLine := by
  rcases h with h | ⟨o, its, n, hk, hc, hd, hs, hz, r⟩
  · obtain ⟨z, its, n, r, e⟩ := h.ok I.hok
    exact ⟨its, r, ⟨_, n, e, rfl, rfl, rfl⟩, z⟩
  · refine ⟨its.toList, r, ⟨o, n, I.kIn a o hk, hc, hd, by simpa using hs⟩, ?_⟩
    have e := r.length
    simp only [Array.length_toList] at e
    omega
theorem Inv.tuple (I : Inv X pins σ H s) (h : SqT X.K H a xs) : ∃ its : List Value, Vals xs its ∧ IsTup s.heap a its.toArray ∧ xs.length ≤ sizeLine := by
  rcases h with h | ⟨o, its, n, hk, hc, hs, hz, r⟩
  · obtain ⟨z, its, r, p⟩ := h.ok I.hok
    exact ⟨its, r, p, z⟩
  · refine ⟨its.toList, r, ⟨o, I.kIn a o hk, hc, n, by simpa using hs⟩, ?_⟩
    have e := r.length
    simp only [Array.length_toList] at e
    omega
theorem Inv.list_inj (I : Inv X pins σ H s) (h : SqL X.K H a xs) (h' : SqL X.K H a ys) : xs = ys := by
  obtain ⟨its, r, ⟨o, n, e, _, _, d⟩, _⟩ := I.list h
  obtain ⟨its', r', ⟨o', n', e', _, _, d'⟩, _⟩ := I.list h'
  rw [e] at e'; cases e'
  rw [d] at d'
  injection d' with d1 _
  have : its = its' := by simpa using congrArg Array.toList d1
  subst this
  exact r.inj r'
end

/-! ### another wish about exceptions -/
abbrev Cx.wish (X : Cx) (E : Value → Shared → Prop) : Cx := { X with xe := E }
/-- no exception leaves -/
abbrev Cx.nox (X : Cx) : Cx := X.wish fun _ _ => False
theorem Cx.Ok.wish {X : Cx} (ok : X.Ok) (E : Value → Shared → Prop) : (X.wish E).Ok :=
  ⟨ok.mod, ok.kind, ok.glob, ok.blt, ok.above, ok.inj, ok.has, ok.cab, ok.hd, ok.frames, ok.stk, ok.exf, ok.bs, ok.bsz, ok.noex, ok.exfs, ok.funs, ok.frf⟩
theorem Cx.Ok.unwish {X : Cx} {E : Value → Shared → Prop} (ok : (X.wish E).Ok) : X.Ok :=
  ⟨ok.mod, ok.kind, ok.glob, ok.blt, ok.above, ok.inj, ok.has, ok.cab, ok.hd, ok.frames, ok.stk, ok.exf, ok.bs, ok.bsz, ok.noex, ok.exfs, ok.funs, ok.frf⟩
section
variable {X : Cx} {pins : List (Addr × Obj)} {σ : St} {H : Hp} {s : Shared} {E : Value → Shared → Prop}
theorem Inv.wish (I : Inv X pins σ H s) (E : Value → Shared → Prop) : Inv (X.wish E) pins σ H s := ⟨I.ok.wish E, I.os, I.bare, I.base, I.loc, I.cell, I.free, I.freeC, I.pin, I.hok, I.len⟩
theorem Inv.unwish (I : Inv (X.wish E) pins σ H s) : Inv X pins σ H s := ⟨I.ok.unwish, I.os, I.bare, I.base, I.loc, I.cell, I.free, I.freeC, I.pin, I.hok, I.len⟩
theorem SP.unwish {D : Ends} {f : Flow} {s' : Shared} (h : SP (X.wish E) pins D f s') : SP X pins D f s' := by
  cases f with
  | next => obtain ⟨σ', H', I, q⟩ := h; exact ⟨σ', H', I.unwish, q⟩
  | brk => obtain ⟨σ', H', I, q⟩ := h; exact ⟨σ', H', I.unwish, q⟩
  | cont => obtain ⟨σ', H', I, q⟩ := h; exact ⟨σ', H', I.unwish, q⟩
  | ret u => obtain ⟨v, σ', H', I, r, q⟩ := h; exact ⟨v, σ', H', I.unwish, r, q⟩
theorem PSs.nox {st : List Stmt} {t : TS} (h : PSs X.nox st t) : PSs X st t := fun pins s σ H D I hw =>
  wpAny_mono (h pins s σ H D (I.wish _) hw) (fun _ _ q => q.unwish) fun _ _ z => False.elim z
end

/-! ### blocks and small statements -/
section
variable {X : Cx} {st : Stmt} {rest : List Stmt} {t u : TS} {e : Expr} {te : TE} {pos : Pos}
def tNext : TS := fun D σ H => D.nx σ H
def tSeq (t u : TS) : TS := fun D σ H => t { D with nx := u D } σ H
theorem pss_nil : PSs X [] tNext := fun _ _ σ H _ I h => wpAny_execs_nil ⟨σ, H, I, h⟩
theorem pss_cons (h1 : PS X st t) (h2 : PSs X rest u) : PSs X (st :: rest) (tSeq t u) := by
  intro pins s σ H D I h
  refine wpAny_execs_cons (thn (h1 pins s σ H { D with nx := u D } I h) fun f s1 q => ?_)
  cases f with
  | next =>
    obtain ⟨σ', H', I', q⟩ := q
    exact h2 pins s1 σ' H' D I' q
  | ret v => exact q
  | brk => exact q
  | cont => exact q
theorem pss_one (h1 : PS X st t) : PSs X [st] t := by
  intro pins s σ H D I h
  refine wpAny_execs_cons (thn (h1 pins s σ H D I h) fun f s1 q => ?_)
  cases f with
  | next => exact wpAny_execs_nil q
  | ret v => exact q
  | brk => exact q
  | cont => exact q
/-- in a def's body nothing is shown -/
theorem Inv.quiet {pins : List (Addr × Obj)} {σ : St} {H : Hp} {s : Shared} (I : Inv X pins σ H s) : interactive X.env = false := by simp [interactive, I.ok.kind]
/-- an expression whose value is dropped -/
def tDrop (te : TE) : TS := fun D σ H => te σ H fun _ H1 => D.nx σ H1
theorem ps_expr (he : PE X e te) (hs : swapsWith e none pos.line X.env = pure false := by rfl) : PS X (.Expr e pos) (tDrop te) := by
  intro pins s σ H D I h
  exact wpAny_Expr_any (thn (he pins s σ H _ I h) fun v s1 ⟨x, H1, I1, r1, q1⟩ => ⟨σ, H1, I1, q1⟩) I.quiet hs
def tRet (te : TE) : TS := fun D σ H => te σ H D.rt
theorem ps_ret (he : PE X e te) : PS X (.Return (some e) pos) (tRet te) := by
  intro pins s σ H D I h
  exact wpAny_Return_some (thn (he pins s σ H _ I h) fun v s1 ⟨x, H1, I1, r1, q1⟩ => ⟨x, σ, H1, I1, r1, q1⟩)
def tIfS (c : TT) (t u : TS) : TS := fun D σ H => c σ H fun b H1 => if b = true then t D σ H1 else u D σ H1
theorem ps_if {c : Expr} {a b : List Stmt} {tc : TT} (hc : PT X c tc) (ha : PSs X a t) (hb : PSs X b u) : PS X (.If c a b pos) (tIfS tc t u) := by
  intro pins s σ H D I h
  refine wpAny_If (thn (hc pins s σ H _ I h) fun d s1 ⟨H1, I1, q1⟩ => ?_)
  cases d with
  | true => exact ha pins s1 σ H1 D I1 q1
  | false => exact hb pins s1 σ H1 D I1 q1
end

/-! ### targets -/
abbrev TG := V → St → Hp → (St → Hp → Prop) → Prop
abbrev TGs := List V → St → Hp → (St → Hp → Prop) → Prop
def PG (X : Cx) (target : Expr) (t : TG) : Prop :=
  ∀ (pins : List (Addr × Obj)) (s : Shared) (σ : St) (H : Hp) (v : V) (u : Value) (Q : St → Hp → Prop), Inv X pins σ H s → RelV v u → t v σ H Q →
    wpAny (model X.prog X.w) X.A (assign target X.env u) (fun _ s' => ∃ σ' H', Inv X pins σ' H' s' ∧ Q σ' H') X.xe s
/-- several targets, one after another -/
def PGs (X : Cx) (ts : List Expr) (t : TGs) : Prop :=
  ∀ (pins : List (Addr × Obj)) (s : Shared) (σ : St) (H : Hp) (vs : List V) (us : List Value) (Q : St → Hp → Prop), Inv X pins σ H s → Vals vs us → t vs σ H Q →
    wpAny (model X.prog X.w) X.A (assignInOrder ((assignEach ts X.env).map (·.2)) us) (fun _ s' => ∃ σ' H', Inv X pins σ' H' s' ∧ Q σ' H') X.xe s
/-- o[i] = v, by values -/
abbrev TSet := V → V → V → Hp → (Hp → Prop) → Prop
def PSet (X : Cx) (t : TSet) : Prop :=
  ∀ (pins : List (Addr × Obj)) (s : Shared) (σ : St) (H : Hp) (o i v : V) (ov iv u : Value) (Q : Hp → Prop), Inv X pins σ H s → RelV o ov → RelV i iv → RelV v u → t o i v H Q →
    wpAny (model X.prog X.w) X.A (setItem ov iv u) (fun _ s' => ∃ H', Inv X pins σ H' s' ∧ Q H') X.xe s
section
variable {X : Cx} {pos : Pos}
def gName (i : Nat) : TG := fun v σ H Q => Q (σ.set i (some v)) H
theorem pg_name {i : Nat} {x : Str} (hN : X.N.Nodup) (hi : X.N[i]? = some x) (hx : Loc X.env.scope x) (hf : X.fn x = true ∨ X.env.scope.names.lookup x = some .local := by first | exact .inl rfl | exact .inr rfl | assumption) : PG X (.Name x pos) (gName i) := by
  intro pins s σ H v u Q I r h
  exact wpAny_assign_Name (store_ok I hN hi hx r (fun s' I' => ⟨_, H, I', h⟩) hf)
def gNil : TGs := fun vs σ H Q => vs = [] ∧ Q σ H
def gCons (t : TG) (u : TGs) : TGs := fun vs σ H Q => ∃ v r, vs = v :: r ∧ t v σ H fun σ' H' => u r σ' H' Q
theorem pgs_nil : PGs X [] gNil := by
  intro pins s σ H vs us Q I r h
  obtain ⟨e, h⟩ := h
  subst e
  cases r
  exact assignInOrder_nil ⟨σ, H, I, h⟩
theorem pgs_cons {e : Expr} {es : List Expr} {t : TG} {u : TGs} (h1 : PG X e t) (h2 : PGs X es u)
    (hs : (assignEach (e :: es) X.env).map (·.2) = assign e X.env :: (assignEach es X.env).map (·.2) := by rfl) : PGs X (e :: es) (gCons t u) := by
  intro pins s σ H vs us Q I r h
  obtain ⟨v, vr, e1, h⟩ := h
  subst e1
  cases r with
  | cons r rr =>
    rw [hs]
    refine assignInOrder_cons (thn (h1 pins s σ H _ _ _ I r h) fun _ s1 ⟨σ1, H1, I1, q1⟩ => ?_)
    exact h2 pins s1 σ1 H1 _ _ Q I1 rr q1
/-- (a, b, ..) = a tuple of that length -/
def gTup (K : PySem.W.Frag) (n : Nat) (t : TGs) : TG := fun v σ H Q => ∃ a xs, v = .ref a ∧ SqT K H a xs ∧ xs.length = n ∧ t xs σ H Q
theorem pg_tup {es : List Expr} {k : Nat} {t : TGs} {n : Nat} (hc : X.calm = true) (h : PGs X es t)
    (hn : (assignEach es X.env).length = n := by rfl) (hst : (assignEach es X.env).findIdx? (·.1) = none := by rfl) : PG X (.Tuple es k pos) (gTup X.K n t) := by
  intro pins s σ H v u Q I r hw
  obtain ⟨a, xs, e1, hq, hl, hw⟩ := hw
  subst e1
  cases r
  obtain ⟨its, rv, ht, hz⟩ := I.tuple hq
  refine assign_Tuple_tuple (I.ok.hd hc) ht (by simp [hn, ← hl, rv.length]) hst fun h' hx => ?_
  have I1 : Inv X pins σ H { s with heap := h' } := I.kept (t' := s.toks) fun b o e => hx b o (Nat.ne_of_lt (Heap.lt_size e)) e
  exact h pins _ σ H xs _ Q I1 (by simpa using rv) hw
/-- o[i] = .. -/
def gSub (to ti : TE) (t : TSet) : TG := fun v σ H Q => to σ H fun o H1 => ti σ H1 fun i H2 => t o i v H2 fun H3 => Q σ H3
theorem pg_sub {o i : Expr} {to ti : TE} {t : TSet} (ho : PE X o to) (hi : PE X i ti) (hs : PSet X t)
    (ha : ∀ v, assign (.Subscript o i pos) X.env v = (do
      let ov ← holding [v] (eval o X.env)
      let iv ← holding [v, ov] (eval i X.env)
      standAt pos
      holding [v, ov, iv] (setItem ov iv v)
      release [v, ov, iv] []) := by intro _; rfl) : PG X (.Subscript o i pos) (gSub to ti t) := by
  intro pins s σ H v u Q I r h
  rw [ha]
  refine wpAny_bind (wpAny_holding (thn (ho pins s σ H _ I h) fun ov s1 ⟨x, H1, I1, r1, q1⟩ => ?_))
  refine wpAny_bind (wpAny_holding (thn (hi pins s1 σ H1 _ I1 q1) fun iv s2 ⟨y, H2, I2, r2, q2⟩ => ?_))
  refine wpAny_bind (wpAny_standAt (wpAny_bind (wpAny_holding (thn (hs pins s2 σ H2 x y v ov iv u _ I2 r1 r2 r q2) fun _ s3 ⟨H3, I3, q3⟩ => ?_))))
  exact wpAny_release ⟨σ, H3, I3, q3⟩
/-- target = value -/
def tAsg (te : TE) (g : TG) : TS := fun D σ H => te σ H fun x H1 => g x σ H1 D.nx
theorem ps_asg {tg e : Expr} {te : TE} {g : TG} (he : PE X e te) (hg : PG X tg g) (hs : swapsWithSole [tg] e pos.line X.env = pure false := by rfl) (hw : swappedStores [tg] e X.env = pure none := by rfl)
    (h1 : (assignEach [tg] X.env).map (·.2) = [assign tg X.env] := by rfl) : PS X (.Assign [tg] e pos) (tAsg te g) := by
  intro pins s σ H D I h
  refine wpAny_Assign_stores (thn (he pins s σ H _ I h) fun v s1 ⟨x, H1, I1, r1, q1⟩ => ?_) hs hw
  rw [h1]
  exact thn (hg pins s1 σ H1 x v _ I1 r1 q1) fun _ s2 q => q
/-- name = value -/
theorem ps_set {i : Nat} {x : Str} {e : Expr} {te : TE} {pos' : Pos} (hN : X.N.Nodup) (hi : X.N[i]? = some x) (hx : Loc X.env.scope x) (he : PE X e te) (hs : swapsWith e (some (.Name x pos')) pos.line X.env = pure false := by rfl) (hf : X.fn x = true ∨ X.env.scope.names.lookup x = some .local := by first | exact .inl rfl | exact .inr rfl | assumption) :
    PS X (.Assign [.Name x pos'] e pos) (tAsg te (gName i)) := by
  intro pins s σ H D I h
  refine wpAny_Assign_Name (thn (he pins s σ H _ I h) fun v s1 ⟨y, H1, I1, r1, q1⟩ => ?_) hs
  exact store_ok I1 hN hi hx r1 (fun s2 I2 => ⟨_, H1, I2, q1⟩) hf
end

/-! ### while -/
section
variable {X : Cx} {pos : Pos}
/-- the invariant W with its measure -/
def tWhile (c : TT) (tb : TS) : TS := fun D σ H => ∃ W : Nat → St → Hp → Prop, (∃ m, W m σ H) ∧ ∀ m σ H, W m σ H →
  c σ H fun b H1 => if b = true then ∃ N : St → Hp → Prop, (∀ σ' H', N σ' H' → ∃ m', m' < m ∧ W m' σ' H') ∧ tb { D with nx := N, ct := N, bk := D.nx } σ H1 else D.nx σ H1
theorem ps_while {c : Expr} {body : List Stmt} {tc : TT} {tb : TS} (hp : PassesOwn (model X.prog X.w) X.A X.env X.xe) (hc : PT X c tc) (hb : PSs X body tb) : PS X (.While c body [] pos) (tWhile tc tb) := by
  intro pins s σ H D I h
  obtain ⟨W, ⟨m0, w0⟩, turn⟩ := h
  refine wpAny_While (codeAny_whileLoop (fun n s' => ∃ σ' H', Inv X pins σ' H' s' ∧ W n σ' H') ?_ m0 ⟨σ, H, I, w0⟩)
  rintro n s1 ⟨σ1, H1, I1, w1⟩
  refine wpAny_passesOwn hp (thn (hc pins s1 σ1 H1 _ I1 (turn n σ1 H1 w1)) fun b s2 ⟨H2, I2, q2⟩ => ?_)
  cases b with
  | true =>
    obtain ⟨N, hN, q2⟩ := q2
    rw [if_pos rfl]
    refine wpAny_passesOwn hp (thn (hb pins s2 σ1 H2 _ I2 q2) fun f s3 q3 => ?_)
    cases f with
    | next =>
      obtain ⟨σ3, H3, I3, n3⟩ := q3
      obtain ⟨m', hm, w3⟩ := hN σ3 H3 n3
      exact ⟨m', hm, σ3, H3, I3, w3⟩
    | cont =>
      obtain ⟨σ3, H3, I3, n3⟩ := q3
      obtain ⟨m', hm, w3⟩ := hN σ3 H3 n3
      exact ⟨m', hm, σ3, H3, I3, w3⟩
    | brk => exact q3
    | ret v => exact q3
  | false =>
    rw [if_neg Bool.false_ne_true]
    exact wpAny_execs_nil ⟨σ1, H2, I2, q2⟩
end

/-! ### what a loop or a comprehension walks -/
/-- at turn i: it yields x (the heap may grow), or it stops -/
structure It where
  go : Nat → Hp → Prop
  yld : Nat → Hp → V → Hp → Prop
  stop : Nat → Hp → Prop
/-- the iterator's own objects may turn: they are not the frame's, not pinned, younger than the entry (or a comprehension's own) -/
def FpOk (X : Cx) (pins : List (Addr × Obj)) (H : Hp) (b : Addr) : Prop :=
  H b = none ∧ b ≠ X.env.locals ∧ b ∉ X.fs ∧ (b ∈ X.ex ∨ X.s_0.heap.objs.size ≤ b) ∧ (∀ x c, X.env.cells.lookup x = some c → c ≠ b) ∧ ∀ p ∈ X.pn ++ pins, p.1 ≠ b
theorem Inv.fpOk {X : Cx} {pins : List (Addr × Obj)} {σ : St} {H H' : Hp} {s : Shared} {b : Addr} (I : Inv X pins σ H s) (hb : s.heap.objs.size ≤ b) (hn : H' b = none) : FpOk X pins H' b := by
  refine ⟨hn, Nat.ne_of_gt (Nat.lt_of_lt_of_le I.lt hb), I.nofs hb, .inr (Nat.le_trans I.sz hb), fun x c e z => ?_, fun p hp z => ?_⟩
  · obtain ⟨v, q⟩ := I.cell x c e
    exact absurd (Nat.lt_of_lt_of_le q.lt (by rw [z]; exact hb)) (Nat.lt_irrefl _)
  · exact absurd (Nat.lt_of_lt_of_le (Heap.lt_size (I.pin p hp).1) (by rw [z]; exact hb)) (Nat.lt_irrefl _)
structure Turn (P : Program) (w : World) (K : PySem.W.Frag) (tg : Expr) (J : It) (fp : List Addr) (it : Addr) (tn : Nat → Heap → Prop) : Prop where
  mem : it ∈ fp
  obj : ∀ i h, tn i h → ∀ b ∈ fp, ∃ o, h.get? b = some o ∧ ∀ v, o.data ≠ .cell v
  keep : ∀ i h h', tn i h → (∀ b ∈ fp, ∀ o, h.get? b = some o → h'.get? b = some o) → tn i h'
  item : ∀ (X : Cx), X.prog = P → X.w = w → X.K = K → X.calm = true → ∀ (i : Nat) (pins : List (Addr × Obj)) (s : Shared) (σ : St) (H : Hp) (E : Value → Shared → Prop), Inv X pins σ H s → (∀ b ∈ fp, FpOk X pins H b) → tn i s.heap → J.go i H →
    wpAny (model P w) X.A (pyNext (.ref it)) (fun r s1 => ∃ u, r = some u ∧
      wpAny (model P w) X.A (letOwnedTupleGo tg (.ref it) u) (fun _ s2 => ∃ x H', Inv X pins σ H' s2 ∧ RelV x u ∧ J.yld i H x H' ∧ tn (i + 1) s2.heap ∧ ∀ b ∈ fp, H' b = none) E s1) E s
  done : ∀ (X : Cx), X.prog = P → X.w = w → X.K = K → X.calm = true → ∀ (i : Nat) (pins : List (Addr × Obj)) (s : Shared) (σ : St) (H : Hp) (E : Value → Shared → Prop), Inv X pins σ H s → (∀ b ∈ fp, FpOk X pins H b) → tn i s.heap → J.stop i H →
    wpAny (model P w) X.A (pyNext (.ref it)) (fun r s1 => r = none ∧ Inv X pins σ H s1) E s
  self : ∀ (A : Around) (i : Nat) (s : Shared) (Q : Value → Shared → Prop) (E : Value → Shared → Prop), tn i s.heap → Q (.ref it) s → wpAny (model P w) A (pyIter (.ref it)) Q E s
abbrev TI := St → Hp → (It → Hp → Prop) → Prop
/-- an iterator has come -/
def PIE (X : Cx) (pins : List (Addr × Obj)) (σ : St) (tg : Expr) (R : It → Hp → Prop) (itv : Value) (s2 : Shared) : Prop :=
  ∃ (it : Addr) (fp : List Addr) (tn : Nat → Heap → Prop) (J : It) (H' : Hp), itv = .ref it ∧ Inv X pins σ H' s2 ∧ Turn X.prog X.w X.K tg J fp it tn ∧ tn 0 s2.heap ∧ (∀ b ∈ fp, FpOk X pins H' b) ∧ R J H'
def PI (X : Cx) (tg iter : Expr) (wi : TI) : Prop :=
  ∀ (pins : List (Addr × Obj)) (s : Shared) (σ : St) (H : Hp) (R : It → Hp → Prop), Inv X pins σ H s → wi σ H R →
    wpAny (model X.prog X.w) X.A (eval iter X.env) (fun v s1 => wpAny (model X.prog X.w) X.A (pyIter v) (PIE X pins σ tg R) X.xe s1) X.xe s

/-- the step ahead of the store is nothing for an iterator that keeps no tuple -/
theorem go_of {M : Model} {A : Around} {E : Value → Shared → Prop} {s : Shared} {tg : Expr} {it : Addr} {u : Value} {o : Obj} {n : String} {vs : Array Value} {Q : Unit → Shared → Prop} (ho : s.heap.get? it = some o) (hc : o.cls = .type n) (hd : o.data = .fields vs)
    (hn : ["enumerate", "zip", "dict_itemiterator", "dict_reverseitemiterator", "odict_iterator", "itertools.zip_longest", "itertools.pairwise"].contains n = false) (hQ : Q () s) : wpAny M A (letOwnedTupleGo tg (.ref it) u) Q E s := by
  unfold letOwnedTupleGo
  cases tg <;> first
    | exact wpAny_pure hQ
    | (cases u <;> first
        | exact wpAny_pure hQ
        | (refine wpAny_bind (wpAny_load ho ?_)
           rw [hc, hd]
           show wpAny M A (if (["enumerate", "zip", "dict_itemiterator", "dict_reverseitemiterator", "odict_iterator", "itertools.zip_longest", "itertools.pairwise"].contains n && vs[0]? == some (rawInt _)) = true then _ else _) Q E s
           rw [if_neg (by intro h; rw [hn, Bool.false_and] at h; cases h)]
           exact wpAny_pure hQ))

/-- the list at a, as it stands at each turn (a loop may append to it) -/
def Itl (K : PySem.W.Frag) (a : Addr) : It :=
  ⟨fun i H => ∃ xs x, SqL K H a xs ∧ xs[i]? = some x, fun i H x H' => H' = H ∧ ∀ xs, SqL K H a xs → xs[i]? = some x, fun i H => ∃ xs, SqL K H a xs ∧ xs.length ≤ i⟩
/-- lo, lo + 1, .. (n of them) -/
def Itr (lo : Int) (n : Nat) : It := ⟨fun i _ => i < n, fun i H x H' => H' = H ∧ x = .int (lo + i), fun i _ => n ≤ i⟩
theorem turn_list {P : Program} {w : World} {K : PySem.W.Frag} {tg : Expr} (a it : Addr) : Turn P w K tg (Itl K a) [it] it (fun i h => h.IsListIter it a i) where
  mem := by simp
  obj := fun i h st b hb => by
    have e : b = it := by simpa using hb
    subst e
    obtain ⟨o, e, c, d⟩ := st
    exact ⟨o, e, fun v z => by rw [d] at z; cases z⟩
  keep := fun i h h' st k => st.at fun o e => k it (by simp) o e
  item := by
    intro X hP hw hK hc i pins s σ H E I hf st hg
    subst hP hw hK
    obtain ⟨xs, x, hq, hx⟩ := hg
    obtain ⟨its, rv, p, hz⟩ := I.list hq
    obtain ⟨u, hu, ru⟩ := rv.get hx
    obtain ⟨f0, f1, f2, f3, f4, f5⟩ := hf it (by simp)
    refine wpAny_pyNext_list_item st p.isList (x := u) (by simpa using hu) fun h' st' sb => ?_
    have I1 : Inv X pins σ H { s with heap := h' } := I.turned (t' := s.toks) (fun b o hb e => (sb.2 b hb).trans e) f0 f1 f3 f4 f5
    obtain ⟨o, e, c, d⟩ := id st'
    exact ⟨u, rfl, go_of (s := { s with heap := h' }) e c d (by decide) ⟨x, H, I1, ru, ⟨rfl, fun ys hy => by rw [I.list_inj hy hq]; exact hx⟩, st', fun b hb => (hf b hb).1⟩⟩
  done := by
    intro X hP hw hK hc i pins s σ H E I hf st hg
    subst hP hw hK
    obtain ⟨xs, hq, hx⟩ := hg
    obtain ⟨its, rv, p, hz⟩ := I.list hq
    obtain ⟨f0, f1, f2, f3, f4, f5⟩ := hf it (by simp)
    have hl := rv.length
    exact wpAny_pyNext_list_end (I.ok.hd hc) st p.isList (by simp; omega) fun h' eb => ⟨rfl, I.turned (t' := s.toks) (fun b o hb e => eb b o hb e) f0 f1 f3 f4 f5⟩
  self := fun _ _ _ _ _ st h => wpAny_pyIter_listiter st h
theorem turn_range {P : Program} {w : World} {K : PySem.W.Frag} {tg : Expr} (it : Addr) (lo : Int) (n : Nat) : Turn P w K tg (Itr lo n) [it] it (fun i h => IsRangeIter h it (lo + (i : Nat) * 1) ((n : Int) - (i : Nat)) 1) where
  mem := by simp
  obj := fun i h st b hb => by
    have e : b = it := by simpa using hb
    subst e
    exact ⟨_, st, fun v z => by
      have z' : Data.fields _ = Data.cell v := z
      cases z'⟩
  keep := fun i h h' st k => k it (by simp) _ st
  item := by
    intro X hP hw hK hc i pins s σ H E I hf st hg
    subst hP hw hK
    obtain ⟨f0, f1, f2, f3, f4, f5⟩ := hf it (by simp)
    have W := Walks.range (prog := X.prog) (w := X.w) (I.ok.hd hc) it lo 1 n
    refine W.item i s _ _ hg st fun v h' tk hv st' kk => ?_
    obtain ⟨t, rfl⟩ := hv
    have I1 : Inv X pins σ H { s with heap := h', toks := tk } := I.turned (fun b o hb e => kk b o (by simpa using hb) e) f0 f1 f3 f4 f5
    refine ⟨_, rfl, go_of (s := { s with heap := h', toks := tk }) (n := "range_iterator") st' rfl rfl (by decide) ⟨.int (lo + i), H, I1, ⟨t, ?_⟩, ⟨rfl, rfl⟩, st', fun b hb => (hf b hb).1⟩⟩
    rw [Int.mul_one]
  done := by
    intro X hP hw hK hc i pins s σ H E I hf st hg
    subst hP hw hK
    obtain ⟨f0, f1, f2, f3, f4, f5⟩ := hf it (by simp)
    exact wpAny_pyNext_range_end (I.ok.hd hc) st (by have : n ≤ i := hg; omega) fun h' eb => ⟨rfl, I.turned (t' := s.toks) (fun b o hb e => eb b o hb e) f0 f1 f3 f4 f5⟩
  self := fun _ _ _ _ _ st h => wpAny_pyIter_rangeiter st h
end L2

namespace L2
open PySem PySem.Spec PyProof.Rows
section
variable {X : Cx} {tg : Expr}
def iList (K : PySem.W.Frag) (tl : TE) : TI := fun σ H R => tl σ H fun x H1 => ∃ a, x = .ref a ∧ (∃ xs, SqL K H1 a xs) ∧ R (Itl K a) H1
theorem pi_list {l : Expr} {tl : TE} (hl : PE X l tl) : PI X tg l (iList X.K tl) := by
  intro pins s σ H R I h
  refine thn (hl pins s σ H _ I h) fun v s1 ⟨x, H1, I1, r1, q1⟩ => ?_
  obtain ⟨a, e, ⟨xs, hq⟩, q⟩ := q1
  subst e
  cases r1
  obtain ⟨its, rv, p, hz⟩ := I1.list hq
  refine wpAny_pyIter_list p.isList ?_
  refine ⟨s1.heap.objs.size, [s1.heap.objs.size], _, _, H1, rfl, I1.kept (t' := s1.toks) fun b o e => Heap.get?_push_of_some _ e, turn_list a _, ⟨_, Heap.get?_push_size _ rfl, rfl, rfl⟩, fun b hb => ?_, q⟩
  have e : b = s1.heap.objs.size := by simpa using hb
  subst e
  exact I1.fpOk (Nat.le_refl _) (I1.hok.fresh (Nat.le_refl _))
/-- a range object just made, walked -/
theorem range_it {pins : List (Addr × Obj)} {σ : St} {H : Hp} {s : Shared} {R : It → Hp → Prop} {E : Value → Shared → Prop} {lo hi : Int} {t u v : Tok} {tk : Nat} (I : Inv X pins σ H s) (h1 : -(2 ^ 62) ≤ lo) (h2 : lo < 2 ^ 62) (h3 : -(2 ^ 62) ≤ hi) (h4 : hi < 2 ^ 62)
    (q : R (Itr lo (hi - lo).toNat) H) : wpAny (model X.prog X.w) X.A (pyIter (.ref s.heap.objs.size)) (PIE X pins σ tg R) E { s with heap := s.heap.push { cls := .type "range", data := .fields #[.int lo t, .int hi u, .int 1 v] }, toks := tk } := by
  refine wpAny_pyIter_range (IsRange.new ..) (small_one h1 h2 h3 h4) ?_
  have I1 : Inv X pins σ H { s with heap := s.heap.push { cls := .type "range", data := .fields #[.int lo t, .int hi u, .int 1 v] }, toks := tk } := I.kept fun b o e => Heap.get?_push_of_some _ e
  refine ⟨(s.heap.push { cls := .type "range", data := .fields #[.int lo t, .int hi u, .int 1 v] }).objs.size, [(s.heap.push { cls := .type "range", data := .fields #[.int lo t, .int hi u, .int 1 v] }).objs.size], _, _, H, rfl,
    I1.kept (t' := tk) fun b o e => Heap.get?_push_of_some _ e, turn_range _ lo (hi - lo).toNat, ?_, fun b hb => ?_, q⟩
  · have e1 : lo + ((0 : Nat) : Int) * 1 = lo := by simp
    have e2 : (((hi - lo).toNat : Nat) : Int) - ((0 : Nat) : Int) = Builtin.Range.rangeSize lo hi 1 := by rw [rangeSize_one]; split <;> omega
    show IsRangeIter _ _ (lo + ((0 : Nat) : Int) * 1) ((((hi - lo).toNat : Nat) : Int) - ((0 : Nat) : Int)) 1
    rw [e1, e2]
    exact Heap.get?_push_size _ rfl
  · have e : b = (s.heap.push { cls := .type "range", data := .fields #[.int lo t, .int hi u, .int 1 v] }).objs.size := by simpa using hb
    subst e
    exact I1.fpOk (Nat.le_refl _) (I1.hok.fresh (Nat.le_refl _))
def iRng1 (ta : TA) : TI := fun σ H R => ta σ H fun vs H1 => ∃ j : Int, vs = [.int j] ∧ -(2 ^ 62) ≤ j ∧ j < 2 ^ 62 ∧ R (Itr 0 j.toNat) H1
theorem pi_range1 {a : Expr} {ta : TA} {p pos : Pos} (hg : Gl X "range") (hm : X.mg "range" = none) (ha : PA X [a] ta) (hs : starEach [a] X.env = [(false, eval a X.env)] := by rfl) : PI X tg (.Call (.Name "range" p) [a] [] pos) (iRng1 ta) := by
  intro pins s σ H R I h
  refine Call_ (ld_blt I hg hm boot_range (PyProof.Rows.callWith_type1 (thn (ha pos pins s σ H _ I h) fun us s1 ⟨vs, H1, I1, r1, q1⟩ => ?_) hs rfl))
  obtain ⟨j, e, q1, q2, q⟩ := q1
  subst e
  cases r1 with
  | cons r rr =>
    cases rr
    obtain ⟨t, rfl⟩ := r
    exact call_range_1 (range_it I1 (by omega) (by omega) q1 q2 (by simpa using q))

/-! ### for -/
/-- W: the invariant by the turn and a measure; N: what the body is to reach -/
def tFor (wi : TI) (g : TG) (tb : TS) : TS := fun D σ H => wi σ H fun J H1 => ∃ W : Nat → Nat → St → Hp → Prop, (∃ m, W 0 m σ H1) ∧ ∀ i m σ H, W i m σ H →
  (J.stop i H ∧ D.nx σ H) ∨ (J.go i H ∧ ∃ N : St → Hp → Prop, (∀ σ' H', N σ' H' → ∃ m', m' < m ∧ W (i + 1) m' σ' H') ∧ ∀ x H', J.yld i H x H' → g x σ H' fun σ2 H2 => tb { D with nx := N, ct := N, bk := D.nx } σ2 H2)
/-- the records at fp as they stand -/
def pinsAt (fp : List Addr) (h : Heap) : List (Addr × Obj) := fp.filterMap fun b => (h.get? b).map fun o => (b, o)
theorem mem_pinsAt {fp : List Addr} {h : Heap} {b : Addr} {o : Obj} (hb : b ∈ fp) (e : h.get? b = some o) : (b, o) ∈ pinsAt fp h := List.mem_filterMap.mpr ⟨b, hb, by rw [e]; rfl⟩
theorem of_pinsAt {fp : List Addr} {h : Heap} {p : Addr × Obj} (hp : p ∈ pinsAt fp h) : p.1 ∈ fp ∧ h.get? p.1 = some p.2 := by
  obtain ⟨b, hb, e⟩ := List.mem_filterMap.mp hp
  cases q : h.get? b with
  | none => rw [q] at e; cases e
  | some o =>
    rw [q] at e
    have e' : (b, o) = p := Option.some.inj e
    subst e'
    exact ⟨hb, q⟩
theorem Inv.pinned {pins : List (Addr × Obj)} {σ : St} {H : Hp} {s : Shared} {fp : List Addr} (I : Inv X pins σ H s) (hf : ∀ b ∈ fp, FpOk X pins H b) (ho : ∀ b ∈ fp, ∃ o, s.heap.get? b = some o ∧ ∀ v, o.data ≠ .cell v) : Inv X (pins ++ pinsAt fp s.heap) σ H s :=
  I.pins_of fun p hp => (List.mem_append.mp hp).elim (fun z => I.pin p (List.mem_append_right _ z)) fun z => by
    obtain ⟨hb, e⟩ := of_pinsAt z
    obtain ⟨f0, f1, f2, _⟩ := hf p.1 hb
    obtain ⟨o, e', d⟩ := ho p.1 hb
    rw [e] at e'; cases e'
    exact ⟨e, f0, f1, f2, d⟩
theorem Inv.unpinned {pins pl : List (Addr × Obj)} {σ : St} {H : Hp} {s : Shared} (I : Inv X (pins ++ pl) σ H s) : Inv X pins σ H s := I.pins_of fun p hp => I.pin p (List.mem_append_right _ (List.mem_append_left _ hp))
theorem ps_for {iter : Expr} {body : List Stmt} {wi : TI} {g : TG} {tb : TS} {pos : Pos} (hp : PassesOwn (model X.prog X.w) X.A X.env X.xe) (hc : X.calm = true) (hi : PI X tg iter wi) (hg : PG X tg g) (hb : PSs X body tb)
    (hs : ∀ x, foldedSetIterable iter X.env x = pure x := by intro _; rfl) : PS X (.For tg iter body [] pos) (tFor wi g tb) := by
  intro pins s σ H D I h
  refine wpAny_For (thn (hi pins s σ H _ I h) fun v s1 h1 => thn h1 fun itv s2 h2 => ?_) hs
  obtain ⟨it, fp, tn, J, H2, e, I2, T, st2, f2, W, ⟨m0, w0⟩, turn⟩ := h2
  subst e
  -- what stays true of the iterator's objects through the loop
  have stat : ∀ {H' : Hp}, (∀ b ∈ fp, H' b = none) → ∀ b ∈ fp, FpOk X pins H' b := fun hn b hb => ⟨hn b hb, (f2 b hb).2⟩
  refine codeAny_forLoop_any (fun n s' => ∃ i σ' H', Inv X pins σ' H' s' ∧ tn i s'.heap ∧ (∀ b ∈ fp, H' b = none) ∧ W i n σ' H') ?_ m0 ⟨0, σ, H2, I2, st2, fun b hb => (f2 b hb).1, w0⟩
  rintro n s3 ⟨i, σ3, H3, I3, st3, fr3, w3⟩
  rcases turn i n σ3 H3 w3 with ⟨stop, qn⟩ | ⟨go, N, hN, step⟩
  · refine wpAny_passesOwn hp (thn (T.done X rfl rfl rfl hc i pins s3 σ3 H3 X.xe I3 (stat fr3) st3 stop) fun r s4 ⟨hr, I4⟩ => ?_)
    subst hr
    exact wpAny_execs_nil ⟨σ3, H3, I4, qn⟩
  · refine wpAny_passesOwn hp (thn (T.item X rfl rfl rfl hc i pins s3 σ3 H3 X.xe I3 (stat fr3) st3 go) fun r s4 ⟨u, hr, h4⟩ => ?_)
    subst hr
    refine wpAny_passesOwn hp (thn h4 fun _ s5 ⟨x, H5, I5, r5, y5, st5, fr5⟩ => ?_)
    have I5' := I5.pinned (stat fr5) (T.obj _ _ st5)
    refine wpAny_passesOwn hp (thn (hg _ s5 σ3 H5 x u _ I5' r5 (step x H5 y5)) fun _ s6 ⟨σ6, H6, I6, q6⟩ => ?_)
    refine wpAny_passesOwn hp (thn (hb _ s6 σ6 H6 _ I6 q6) fun f s7 q7 => ?_)
    have again : ∀ {σ7 : St} {H7 : Hp}, Inv X (pins ++ pinsAt fp s5.heap) σ7 H7 s7 → N σ7 H7 → ∃ m, m < n ∧ ∃ i σ' H', Inv X pins σ' H' s7 ∧ tn i s7.heap ∧ (∀ b ∈ fp, H' b = none) ∧ W i m σ' H' := fun {σ7 H7} I7 n7 => by
      obtain ⟨m', hm, w7⟩ := hN σ7 H7 n7
      refine ⟨m', hm, i + 1, σ7, H7, I7.unpinned, T.keep _ _ _ st5 fun b hb o e => (I7.pin (b, o) (List.mem_append_right _ (List.mem_append_right _ (mem_pinsAt hb e)))).1, fun b hb => ?_, w7⟩
      obtain ⟨o, e, d⟩ := T.obj _ _ st5 b hb
      exact (I7.pin (b, o) (List.mem_append_right _ (List.mem_append_right _ (mem_pinsAt hb e)))).2.1
    cases f with
    | next => obtain ⟨σ7, H7, I7, n7⟩ := q7; exact again I7 n7
    | cont => obtain ⟨σ7, H7, I7, n7⟩ := q7; exact again I7 n7
    | brk => obtain ⟨σ7, H7, I7, q7⟩ := q7; exact ⟨σ7, H7, I7.unpinned, q7⟩
    | ret v => obtain ⟨x7, σ7, H7, I7, r7, q7⟩ := q7; exact ⟨x7, σ7, H7, I7.unpinned, r7, q7⟩
end

/-! ### the forms one uses -/
/-- over a list that the body leaves as it is -/
theorem for_list {K : PySem.W.Frag} {a : Addr} {xs : List V} {g : TG} {tb : TS} {D : Ends} {σ : St} {H : Hp} (Pv : Nat → St → Hp → Prop) (h0 : Pv 0 σ H) (hl : ∀ i σ H, i ≤ xs.length → Pv i σ H → SqL K H a xs)
    (hs : ∀ i x σ H, xs[i]? = some x → Pv i σ H → g x σ H fun σ2 H2 => tb { D with nx := Pv (i + 1), ct := Pv (i + 1), bk := D.nx } σ2 H2) (hd : ∀ σ H, Pv xs.length σ H → D.nx σ H) :
    ∃ W : Nat → Nat → St → Hp → Prop, (∃ m, W 0 m σ H) ∧ ∀ i m σ H, W i m σ H →
      ((Itl K a).stop i H ∧ D.nx σ H) ∨ ((Itl K a).go i H ∧ ∃ N : St → Hp → Prop, (∀ σ' H', N σ' H' → ∃ m', m' < m ∧ W (i + 1) m' σ' H') ∧ ∀ x H', (Itl K a).yld i H x H' → g x σ H' fun σ2 H2 => tb { D with nx := N, ct := N, bk := D.nx } σ2 H2) := by
  refine ⟨fun i m σ H => m = xs.length - i ∧ i ≤ xs.length ∧ Pv i σ H, ⟨xs.length, by simp, Nat.zero_le _, h0⟩, ?_⟩
  rintro i m σ H ⟨rfl, hi, p⟩
  have q := hl i σ H hi p
  by_cases hlt : i < xs.length
  · refine .inr ⟨⟨xs, xs[i], q, by simp [hlt]⟩, Pv (i + 1), fun σ' H' p' => ⟨xs.length - (i + 1), by omega, rfl, hlt, p'⟩, fun x H' y => ?_⟩
    obtain ⟨e, y⟩ := y
    subst e
    exact hs i x σ _ (y xs q) p
  · have e : i = xs.length := by omega
    subst e
    exact .inl ⟨⟨xs, q, Nat.le_refl _⟩, hd σ H p⟩
/-- while, by a word and a measure of the state -/
theorem while_by {c : TT} {tb : TS} {D : Ends} {σ : St} {H : Hp} (Pv : St → Hp → Prop) (μ : St → Hp → Nat) (h0 : Pv σ H)
    (hs : ∀ σ H, Pv σ H → c σ H fun b H1 => if b = true then tb { D with nx := fun σ' H' => Pv σ' H' ∧ μ σ' H' < μ σ H, ct := fun σ' H' => Pv σ' H' ∧ μ σ' H' < μ σ H, bk := D.nx } σ H1 else D.nx σ H1)
    (mono : ∀ σ H Q Q', (∀ b H1, Q b H1 → Q' b H1) → c σ H Q → c σ H Q') : tWhile c tb D σ H := by
  refine ⟨fun m σ H => m = μ σ H ∧ Pv σ H, ⟨_, rfl, h0⟩, ?_⟩
  rintro m σ H ⟨rfl, p⟩
  refine mono σ H _ _ (fun b H1 q => ?_) (hs σ H p)
  cases b with
  | true => exact ⟨_, fun σ' H' ⟨p', l⟩ => ⟨_, l, rfl, p'⟩, q⟩
  | false => exact q
end L2

namespace L2
open PySem PySem.Spec PyProof.Rows

abbrev R2 := V → V → Hp → VK → Prop
/-- a two-place operation on values: f is binaryOp op, inplaceOp op or compareOp op -/
def OpR (X : Cx) (f : Value → Value → Sem Value) (r : R2) : Prop :=
  ∀ (pins : List (Addr × Obj)) (s : Shared) (σ : St) (H : Hp) (x y : V) (v u : Value) (Q : VK), Inv X pins σ H s → RelV x v → RelV y u → r x y H Q →
    wpAny (model X.prog X.w) X.A (f v u) (EP X pins σ Q) X.xe s
/-- a one-place operation -/
def UnR (X : Cx) (f : Value → Sem Value) (r : V → Hp → VK → Prop) : Prop :=
  ∀ (pins : List (Addr × Obj)) (s : Shared) (σ : St) (H : Hp) (x : V) (v : Value) (Q : VK), Inv X pins σ H s → RelV x v → r x H Q →
    wpAny (model X.prog X.w) X.A (f v) (EP X pins σ Q) X.xe s
/-- a call of a value that is known (a builtin, a type) with values -/
def CallR (X : Cx) (f : Value) (r : List V → Hp → VK → Prop) : Prop :=
  ∀ (pins : List (Addr × Obj)) (s : Shared) (σ : St) (H : Hp) (xs : List V) (us : List Value) (Q : VK), Inv X pins σ H s → Vals xs us → r xs H Q →
    wpAny (model X.prog X.w) X.A (call f us) (EP X pins σ Q) X.xe s

def tOp (r : R2) (ta tb : TE) : TE := fun σ H Q => ta σ H fun x H1 => tb σ H1 fun y H2 => r x y H2 Q
def tUn (r : V → Hp → VK → Prop) (ta : TE) : TE := fun σ H Q => ta σ H fun x H1 => r x H1 Q
/-- ints in, under C, and a value out -/
def rI (C : Int → Int → Prop) (g : Int → Int → V) : R2 := fun x y H Q => ∃ i j, x = .int i ∧ y = .int j ∧ C i j ∧ Q (g i j) H
def rU (g : Int → V) : V → Hp → VK → Prop := fun x H Q => ∃ i, x = .int i ∧ Q (g i) H

section
variable {X : Cx} {a b c : Expr} {ta tb tc : TE} {pos : Pos}

theorem binT (ha : PE X a ta) (hb : PE X b tb) {pins : List (Addr × Obj)} {s : Shared} {σ : St} {H : Hp} {R : V → V → Hp → Prop} (I : Inv X pins σ H s)
    (h : ta σ H fun x H1 => tb σ H1 fun y H2 => R x y H2) {Q : Value → Shared → Prop} {f : Value → Value → Sem Value}
    (hf : ∀ v u s2 x y H2, Inv X pins σ H2 s2 → RelV x v → RelV y u → R x y H2 → wpAny (model X.prog X.w) X.A (f v u) Q X.xe s2) :
    wpAny (model X.prog X.w) X.A (eval a X.env) (fun v s₁ => wpAny (model X.prog X.w) X.A (eval b X.env) (fun u s₂ => wpAny (model X.prog X.w) X.A (f v u) Q X.xe s₂) X.xe s₁) X.xe s := by
  refine thn (ha pins s σ H _ I h) fun v s1 ⟨x, H1, I1, r1, q1⟩ => ?_
  refine thn (hb pins s1 σ H1 _ I1 q1) fun u s2 ⟨y, H2, I2, r2, q2⟩ => ?_
  exact hf v u s2 x y H2 I2 r1 r2 q2

theorem pe_op {op : Operator} {r : R2} (ho : OpR X (binaryOp op) r) (ha : PE X a ta) (hb : PE X b tb) : PE X (.BinOp a op b pos) (tOp r ta tb) := by
  intro pins s σ H Q I h
  exact wpAny_BinOp (binT ha hb I h fun v u s2 x y H2 I2 rx ry q => ho pins s2 σ H2 x y v u Q I2 rx ry q)
theorem pe_un {op : UnaryOp} {r : V → Hp → VK → Prop} (ho : UnR X (unaryOp op) r) (ha : PE X a ta) : PE X (.UnaryOp op a pos) (tUn r ta) := by
  intro pins s σ H Q I h
  exact UnaryOp_ (thn (ha pins s σ H _ I h) fun v s1 ⟨x, H1, I1, r1, q1⟩ => ho pins s1 σ H1 x v Q I1 r1 q1)

/-! ### ints -/
theorem opI {f : Value → Value → Sem Value} {C : Int → Int → Prop} {g : Int → Int → Int}
    (rule : ∀ (i j : Int) (t u : Tok) (s : Shared) (Q : Value → Shared → Prop) (E : Value → Shared → Prop), C i j → Q (.int (g i j) s.toks) { s with toks := s.toks + 1 } → wpAny (model X.prog X.w) X.A (f (.int i t) (.int j u)) Q E s) :
    OpR X f (rI C fun i j => .int (g i j)) := by
  intro pins s σ H x y v u Q I rx ry h
  obtain ⟨i, j, rfl, rfl, hc, q⟩ := h
  obtain ⟨t, rfl⟩ := rx
  obtain ⟨t', rfl⟩ := ry
  exact rule i j t t' s _ _ hc ⟨.int (g i j), H, I.tok _, ⟨_, rfl⟩, q⟩

def CDiv (i j : Int) : Prop := 0 < j ∧ j < 1073741824

/-- // by a positive divisor -/
theorem op_fdiv : OpR X (binaryOp .FloorDiv) (rI CDiv fun i j => .int (i / j)) := opI fun i j _ _ _ _ _ hc q => by
  have h1 : (0 : Int) < j := hc.1
  have h2 : j < 1073741824 := hc.2
  exact floordiv_int (by omega) (by rw [Int.fdiv_eq_ediv_of_nonneg i (by omega)]; exact q) (.inl (PyProof.noPylong_small (by omega)))

theorem unI {f : Value → Sem Value} {g : Int → Int}
    (rule : ∀ (i : Int) (t : Tok) (s : Shared) (Q : Value → Shared → Prop) (E : Value → Shared → Prop), Q (.int (g i) s.toks) { s with toks := s.toks + 1 } → wpAny (model X.prog X.w) X.A (f (.int i t)) Q E s) :
    UnR X f (rU fun i => .int (g i)) := by
  intro pins s σ H x v Q I rx h
  obtain ⟨i, rfl, q⟩ := h
  obtain ⟨t, rfl⟩ := rx
  exact rule i t s _ _ ⟨.int (g i), H, I.tok _, ⟨_, rfl⟩, q⟩
theorem un_neg : UnR X (unaryOp .USub) (rU fun i => .int (-i)) := unI fun _ _ _ _ _ q => neg_int q

/-! ### bools among ints: n += (a < b) -/
end

/-! ### comparisons -/

section
variable {X : Cx} {a b c : Expr} {ta tb tc : TE} {pos : Pos}

/-! ### truth -/
theorem line63 : (sizeLine : Nat) < 2 ^ 63 := by rw [sizeLine_eq]; decide

/-! ### strs and bytes -/

/-! ### scalar builtins, by CallR -/
theorem vals1 {x : V} {us : List Value} (r : Vals [x] us) : ∃ u, us = [u] ∧ RelV x u := by
  cases r with
  | cons r1 r2 => cases r2; exact ⟨_, rfl, r1⟩
end
end L2

namespace L2
open PySem PySem.Spec PyProof.Rows

/-! ### an instance, its attributes a map -/
structure ObjM (h : Heap) (x dx C : Addr) (mA : Str → Option Value) : Prop where
  obj : h.get? x = some (PySem.W.instObj C dx)
  ns : h.Ns1 dx mA
  ne : dx ≠ x

theorem lookIn_ns {h : Heap} {dx : Addr} {mA : Str → Option Value} (n : h.Ns1 dx mA) : ∃ od, h.get? dx = some od ∧ ∀ name, PySem.W.lookIn name od = some (mA name) := by
  obtain ⟨o, es, ep, ho, hd, hk, _, hm⟩ := n
  refine ⟨o, ho, fun name => ?_⟩
  have e := hm name
  unfold nsFind findBy at e
  rw [← Array.find?_toList] at e
  unfold PySem.W.lookIn
  rw [hd]
  dsimp only
  split
  · rename_i y q
    rw [q] at e
    exact congrArg some e
  · rename_i q
    rw [q] at e
    have a : es.toList.any (·.refKey) = false := by
      rw [List.any_eq_false]
      intro y hy
      obtain ⟨z, t, hkey⟩ := hk y (Array.mem_toList_iff.mp hy)
      simp [DictEntry.refKey, hkey]
    have a' : ¬ es.toList.any (·.refKey) = true := by rw [a]; exact Bool.false_ne_true
    rw [if_neg a']
    exact congrArg some e

theorem ObjM.look {h : Heap} {x dx C : Addr} {mA : Str → Option Value} (I : ObjM h x dx C mA) : ∃ od, PySem.W.InstAt h x (PySem.W.instObj C dx) C (some od) ∧ ∀ name, PySem.W.lookIn name od = some (mA name) :=
  let ⟨od, ho, hl⟩ := lookIn_ns I.ns
  ⟨od, ⟨I.obj, rfl, rfl, ho⟩, hl⟩

section
variable {prog : Program} {w : World} {A : Around} {E : Value → Shared → Prop} {s : Shared} {K : PySem.W.Frag} {x dx C f : Addr} {mA : Str → Option Value} {name : Str} {v : Value}

theorem get_map {expr : Bool} {Q : Value → Shared → Prop} (X : K.In s.heap) (I : ObjM s.heap x dx C mA) (hg : PySem.W.plainGet K C name = true) (hh : PySem.W.hasDictIn K C = true)
    (ha : PySem.W.findIn K (.ref C) name = some none) (hv : mA name = some v) (hv' : PySem.W.handedIn v = true) (h : Q v { s with toks := s.toks + 1 }) :
    wpAny (model prog w) A (getAttr (.ref x) name expr) Q E s := by
  obtain ⟨od, J, hl⟩ := I.look
  exact PySem.W.get_value X J (PySem.W.plainGet_of hg).1 (PySem.W.findObj_own hh ha rfl (by rw [hl, hv])) hv' h

theorem get_meth {pl : Sem Bool} {Q : Value × List Value → Shared → Prop} (X : K.In s.heap) (I : ObjM s.heap x dx C mA) (hg : PySem.W.plainGet K C name = true)
    (hf : PySem.W.findIn K (.ref C) name = some (some (.ref f))) (ht : PySem.W.isFn K (.ref f) = true) (hv : mA name = none) (h : Q (.ref f, [.ref x]) s) :
    wpAny (model prog w) A (getMethod (.ref x) name pl) Q E s := by
  obtain ⟨od, J, hl⟩ := I.look
  exact PySem.W.method_fn X J (PySem.W.plainGet_of hg).1 (PySem.W.plainGet_of hg).2 hf (beq_iff_eq.mp ht) (by show (PySem.W.lookIn name od).map (·.isSome) = some false; rw [hl, hv]; rfl) h

theorem set_map {ns : List Str} {Q : Unit → Shared → Prop} (X : K.In s.heap) (I : ObjM s.heap x dx C mA)
    (hs : PySem.W.findIn K (.ref C) "__setattr__" = some (some (.builtin "object.__setattr__"))) (hp : PySem.W.plainOver K C = true) (ht : PySem.W.takerIn K C name = some none) (hh : PySem.W.hasDictIn K C = true)
    (hw : PySem.Within mA ns) (hsz : ns.length ≤ sizeLine)
    (h : ∀ h', ObjM h' x dx C (fun y => if y = name then some v else mA y) → Heap.SameBut dx s.heap h' → Q () { s with heap := h', toks := s.toks + 2 }) :
    wpAny (model prog w) A (setAttr (.ref x) name v) Q E s := by
  obtain ⟨od, J, hl⟩ := I.look
  refine PySem.W.set_plain X J hs (PySem.W.osa_open (s := { s with toks := s.toks + 1 }) (r := none) X J hp ht fun b => ?_)
  obtain ⟨cd, hc, hd'⟩ := PySem.W.any_some hh
  have hx : s.heap.get? x = some ⟨.ref C, some dx, .plain, #[]⟩ := I.obj
  refine wpAny_bind (wpAny_pure (wpAny_bind (wpAny_bind (wpAny_loadPart hx (wpAny_bind (PySem.W.Looks.here (s := { s with toks := s.toks + 1 }) (PySem.W.looks_clsIn X hc) ?_))))))
  rw [hd']
  refine wpAny_pure (a := some dx) (wpAny_bind (wpAny_pure (wpAny_bind ?_)))
  refine wpAny_nsSet1 (s := { s with toks := s.toks + 1 }) I.ns fun h' hn2 hs2 => ?_
  obtain ⟨oD, esD, epD, hoD, hdD, hcD⟩ := hn2.count (PySem.Within.cons name v hw)
  refine wpAny_bind (wpAny_lookBehind hoD (by rw [hdD]; exact pastItsLine_dict (Nat.le_trans hcD (by rw [List.length_cons]; omega))) ?_)
  exact wpAny_pure (h _ ⟨(hs2.2 _ (Ne.symm I.ne)).trans I.obj, hn2, I.ne⟩ hs2)

/-- C(..): the dict at the heap's end, the instance behind it; then its __init__ -/
theorem make_map {R : Result → Shared → Prop} {vs : List Value} {kw : List (Str × Value)} (X : K.In s.heap) (hm : PySem.W.makesIn K C = true)
    (hi : PySem.W.findIn K (.ref C) "__init__" = some (some (.ref f))) (hf : PySem.W.typeIn K (.ref f) = some (.type "function"))
    (h : codeAny (model prog w) (A.under (.builtin "type.__call__" ⟨.ref C :: vs, kw⟩)) (.call (.ref f) ⟨.ref (s.heap.objs.size + 1) :: vs, kw⟩) (PySem.W.InitBack (s.heap.objs.size + 1) R)
      { s with heap := (s.heap.push PySem.W.emptyDict).push (PySem.W.instObj C s.heap.objs.size) }) :
    codeAny (model prog w) A (.call (.ref C) ⟨vs, kw⟩) R s := by
  obtain ⟨hh, g, d, t, os⟩ := s
  exact PySem.W.make_core (PySem.W.makes_of X hm) (PySem.W.looks_findIn X hi) (fun self => PySem.W.bind_fn X self hf) (.inl rfl) h
end

/-! ### the attributes as a list of pairs -/
def putF (f : Str) (v : V) : List (Str × V) → List (Str × V)
  | [] => [(f, v)]
  | (g, x) :: r => if g = f then (g, v) :: r else (g, x) :: putF f v r
theorem lookup_putF (f g : Str) (v : V) : ∀ fs : List (Str × V), (putF f v fs).lookup g = if g = f then some v else fs.lookup g
  | [] => by
    show List.lookup g [(f, v)] = _
    by_cases h : g = f
    · have hb : (g == f) = true := beq_iff_eq.mpr h
      simp only [List.lookup, hb, if_pos h]
    · have hb : (g == f) = false := beq_eq_false_iff_ne.mpr h
      simp only [List.lookup, hb, if_neg h]
  | (k, x) :: r => by
    have ih := lookup_putF f g v r
    rw [show putF f v ((k, x) :: r) = (if k = f then (k, v) :: r else (k, x) :: putF f v r) from rfl]
    by_cases hk : k = f
    · rw [if_pos hk]
      by_cases h : g = k
      · have hb : (g == k) = true := beq_iff_eq.mpr h
        simp only [List.lookup, hb, if_pos (h.trans hk)]
      · have hb : (g == k) = false := beq_eq_false_iff_ne.mpr h
        simp only [List.lookup, hb, if_neg (fun e : g = f => h (e.trans hk.symm))]
    · rw [if_neg hk]
      by_cases h : g = k
      · have hb : (g == k) = true := beq_iff_eq.mpr h
        simp only [List.lookup, hb, if_neg (fun e : g = f => hk (h.symm.trans e))]
      · have hb : (g == k) = false := beq_eq_false_iff_ne.mpr h
        simp only [List.lookup, hb]
        exact ih
theorem keys_putF (f : Str) (v : V) : ∀ fs : List (Str × V), f ∈ (putF f v fs).map (·.1) ∧ ∀ g, g ∈ fs.map (·.1) → g ∈ (putF f v fs).map (·.1)
  | [] => ⟨by simp [putF], fun g h => by simp at h⟩
  | (k, x) :: r => by
    obtain ⟨i1, i2⟩ := keys_putF f v r
    rw [show putF f v ((k, x) :: r) = (if k = f then (k, v) :: r else (k, x) :: putF f v r) from rfl]
    by_cases hk : k = f
    · rw [if_pos hk]
      subst hk
      exact ⟨by simp, fun g h => by simpa using h⟩
    · rw [if_neg hk]
      refine ⟨?_, fun g h => ?_⟩
      · rw [List.map_cons]
        exact List.mem_cons_of_mem _ i1
      · rw [List.map_cons] at h ⊢
        rcases List.mem_cons.mp h with e | e
        · exact List.mem_cons.mpr (.inl e)
        · exact List.mem_cons_of_mem _ (i2 g e)
theorem length_putF (f : Str) (v : V) : ∀ fs : List (Str × V), (putF f v fs).length ≤ fs.length + 1
  | [] => by simp [putF]
  | (k, x) :: r => by
    have ih := length_putF f v r
    rw [show putF f v ((k, x) :: r) = (if k = f then (k, v) :: r else (k, x) :: putF f v r) from rfl]
    by_cases hk : k = f
    · rw [if_pos hk, List.length_cons, List.length_cons]; omega
    · rw [if_neg hk, List.length_cons, List.length_cons]; omega

theorem RelO.some_of {v : V} {o : Option Value} (r : RelO (some v) o) : ∃ u, o = some u ∧ RelV v u := by
  cases o with
  | none => exact (show False from r).elim
  | some u => exact ⟨u, rfl, r⟩
theorem RelO.none_of {o : Option Value} (r : RelO none o) : o = none := by
  cases o with
  | none => rfl
  | some u => exact (show False from r).elim
theorem handed_of {v : V} {u : Value} (r : RelV v u) : PySem.W.handedIn u = true := by
  cases v with
  | non => cases (show u = Value.none from r); rfl
  | bl b => cases (show u = Value.bool b from r); rfl
  | int i => obtain ⟨t, e⟩ := (show ∃ t, u = Value.int i t from r); cases e; rfl
  | str x => obtain ⟨t, e⟩ := (show ∃ t, u = Value.str x t from r); cases e; rfl
  | byt b => obtain ⟨t, e⟩ := (show ∃ t, u = Value.bytes b t from r); cases e; rfl
  | flt b => obtain ⟨t, e⟩ := (show ∃ t, u = Value.float b t from r); cases e; rfl
  | ref a => cases (show u = Value.ref a from r); rfl
  | ty n => cases (show u = Value.type n from r); rfl

section
variable {P : Program} {w : World} {H H' : Hp} {h h' : Heap} {a C dx : Addr} {fs fs' : List (Str × V)}
theorem ins_get (hok : HOk P w H h) (e : H a = some (.ins C dx fs)) : ∃ mA, ObjM h a dx C mA ∧ (∀ f, RelO (fs.lookup f) (mA f)) ∧ PySem.Within mA (fs.map (·.1)) ∧ fs.length ≤ 1000 ∧ H dx = some (.own a) := by
  obtain ⟨d, z, ne, ob, mA, n, r, q⟩ := (show ObjOk P w H h a (.ins C dx fs) from hok a _ e)
  exact ⟨mA, ⟨ob, n, ne⟩, r, q, z, d⟩
end

/-! ### what of the text a class must have -/
structure Cls (K : PySem.W.Frag) (C : Addr) : Prop where
  pg : PySem.W.plainGet K C Str.empty = true
  hd : PySem.W.hasDictIn K C = true
  po : PySem.W.plainOver K C = true
  sa : PySem.W.findIn K (.ref C) "__setattr__" = some (some (.builtin "object.__setattr__"))
theorem Cls.get {K : PySem.W.Frag} {C : Addr} (c : Cls K C) (f : Str) : PySem.W.plainGet K C f = true := c.pg
/-- no class of it has the name -/
def NoAttr (K : PySem.W.Frag) (C : Addr) (f : Str) : Prop := PySem.W.findIn K (.ref C) f = some none
theorem NoAttr.taker {K : PySem.W.Frag} {C : Addr} {f : Str} (n : NoAttr K C f) : PySem.W.takerIn K C f = some none := by
  unfold PySem.W.takerIn
  rw [show PySem.W.findIn K (.ref C) f = some none from n]
  rfl
/-- a method: a plain def of the class or of one above it -/
structure Meth (K : PySem.W.Frag) (C : Addr) (m : Str) (f : Addr) : Prop where
  at_ : PySem.W.findIn K (.ref C) m = some (some (.ref f))
  fn : PySem.W.isFn K (.ref f) = true
  kp : PySem.W.keepIn K (.ref f) = true

section
variable {X : Cx} {pins : List (Addr × Obj)} {σ : St} {H : Hp} {s : Shared} {a C dx : Addr} {fs : List (Str × V)} {f : Str} {v : V} {A : Around} {E : Value → Shared → Prop}

theorem getattr_ok {b : Bool} {Q : Value → Shared → Prop} (I : Inv X pins σ H s) (e : H a = some (.ins C dx fs)) (c : Cls X.K C) (n : NoAttr X.K C f) (l : fs.lookup f = some v)
    (h : ∀ u s', Inv X pins σ H s' → RelV v u → Q u s') : wpAny (model X.prog X.w) A (getAttr (.ref a) f b) Q E s := by
  obtain ⟨mA, O, r, _, _, _⟩ := ins_get I.hok e
  obtain ⟨u, hu, ru⟩ := RelO.some_of (v := v) (o := mA f) (by rw [← l]; exact r f)
  exact get_map I.kIn O (c.get f) c.hd n hu (handed_of ru) (h u _ (I.tok _) ru)

theorem getmeth_ok {m : Str} {g : Addr} {pl : Sem Bool} {Q : Value × List Value → Shared → Prop} (I : Inv X pins σ H s) (e : H a = some (.ins C dx fs)) (c : Cls X.K C) (k : Meth X.K C m g) (l : fs.lookup m = none)
    (h : Q (.ref g, [.ref a]) s) : wpAny (model X.prog X.w) A (getMethod (.ref a) m pl) Q E s := by
  obtain ⟨mA, O, r, _, _, _⟩ := ins_get I.hok e
  have hn : mA m = none := RelO.none_of (by rw [← l]; exact r m)
  exact get_meth I.kIn O (c.get m) k.at_ k.fn hn h

theorem setattr_ok {y : V} {u : Value} {Q : Unit → Shared → Prop} (I : Inv X pins σ H s) (e : H a = some (.ins C dx fs)) (c : Cls X.K C) (n : NoAttr X.K C f) (hl : fs.length < 1000) (ry : RelV y u)
    (h : ∀ s', Inv X pins σ (upd H a (.ins C dx (putF f y fs))) s' → Q () s') : wpAny (model X.prog X.w) A (setAttr (.ref a) f u) Q E s := by
  obtain ⟨mA, O, r, wi, _, ho⟩ := ins_get I.hok e
  have hz : (fs.map (·.1)).length ≤ sizeLine := by rw [List.length_map, sizeLine_eq]; omega
  refine set_map I.kIn O c.sa c.po n.taker c.hd wi hz fun h' O' sb => h _ ?_
  have hd : ∃ o, h'.get? dx = some o := let ⟨o, _, _, e', _⟩ := O'.ns; ⟨o, e'⟩
  refine I.write (x := a) (e := dx) (by rw [e]; exact True.intro) (.inr ho) (fun b q hb z => (sb.2 b hb).trans z) hd ?_
  refine ⟨by rw [upd_ne O.ne]; exact ho, ?_, O.ne, O'.obj, _, O'.ns, fun g => ?_, fun g hg => ?_⟩
  · have := length_putF f y fs; omega
  · show RelO ((putF f y fs).lookup g) (if g = f then some u else mA g)
    rw [lookup_putF]
    by_cases q : g = f
    · rw [if_pos q, if_pos q]; exact ry
    · rw [if_neg q, if_neg q]; exact r g
  · by_cases q : g = f
    · rw [q]; exact (keys_putF f y fs).1
    · refine (keys_putF f y fs).2 g (wi g fun z => hg ?_)
      show (if g = f then some u else mA g) = none
      rw [if_neg q]; exact z

/-- a new instance, tracked, without attributes -/
theorem Inv.made (I : Inv X pins σ H s) : Inv X pins σ (upd (upd H s.heap.objs.size (.own (s.heap.objs.size + 1))) (s.heap.objs.size + 1) (.ins C s.heap.objs.size []))
    { s with heap := (s.heap.push PySem.W.emptyDict).push (PySem.W.instObj C s.heap.objs.size) } := by
  have e1 : (s.heap.push PySem.W.emptyDict).get? s.heap.objs.size = some PySem.W.emptyDict := Heap.get?_push_size s.heap rfl
  have e2 : ((s.heap.push PySem.W.emptyDict).push (PySem.W.instObj C s.heap.objs.size)).get? (s.heap.objs.size + 1) = some (PySem.W.instObj C s.heap.objs.size) := by
    have := Heap.get?_push_size (s.heap.push PySem.W.emptyDict) (o := PySem.W.instObj C s.heap.objs.size) rfl
    rwa [Heap.size_push] at this
  have e3 : (s.heap.push PySem.W.emptyDict).Ns s.heap.objs.size (fun _ => none) := ⟨PySem.W.emptyDict, #[], _, e1, rfl, (fun e he => absurd he (by simp)), fun _ => rfl⟩
  have I1 := I.laid (a := s.heap.objs.size) (o := .own (s.heap.objs.size + 1)) (h' := s.heap.push PySem.W.emptyDict) (t' := s.toks) (fun b u q => Heap.get?_push_of_some _ q) (Nat.le_refl _) ⟨_, e1⟩
  refine I1.laid (a := s.heap.objs.size + 1) (o := .ins C s.heap.objs.size []) (t' := s.toks) (fun b u q => Heap.get?_push_of_some _ q) (Nat.le_of_eq (Heap.size_push _ _)) ?_
  have ne : s.heap.objs.size ≠ s.heap.objs.size + 1 := Nat.ne_of_lt (Nat.lt_succ_self _)
  refine ⟨by rw [upd_ne ne, upd_same], Nat.zero_le _, ne, e2, fun _ => none, (Heap.Ns1.of_empty e3).at fun o q => Heap.get?_push_of_some _ q, fun _ => True.intro, fun y hy => absurd rfl hy⟩

/-- e.f where nothing but the object is asked: through attributeBase (super) and the last hold -/
theorem attr_of {prog : Program} {w : World} {env : Env} {e : Expr} {f : Str} {pos : Pos} {s : Shared} {Q : Value → Shared → Prop} (hb : attributeBase e f env (eval e env) = eval e env)
    (h : wpAny (model prog w) A (eval e env) (fun o s₁ => wpAny (model prog w) A (getAttr o f true) Q E s₁) E s) : wpAny (model prog w) A (eval (.Attribute e f pos) env) Q E s :=
  Attribute_any_ h (by rw [arm_eval_Attribute, hb])
end

/-! ### readings and rules -/
/-- e.f, an attribute of the instance -/
def tFld (K : PySem.W.Frag) (ta : TE) (f : Str) : TE := fun σ H Q => ta σ H fun x H1 => ∃ a C dx fs v, x = .ref a ∧ H1 a = some (.ins C dx fs) ∧ Cls K C ∧ NoAttr K C f ∧ fs.lookup f = some v ∧ Q v H1
/-- e.f = value -/
def sFld (K : PySem.W.Frag) (ta tv : TE) (f : Str) : TS := fun D σ H => tv σ H fun y H1 => ta σ H1 fun x H2 => ∃ a C dx fs, x = .ref a ∧ H2 a = some (.ins C dx fs) ∧ Cls K C ∧ NoAttr K C f ∧ fs.length < 1000 ∧
  D.nx σ (upd H2 a (.ins C dx (putF f y fs)))

section
variable {X : Cx} {o e value : Expr} {f : Str} {pos pos' tpos : Pos} {ta tv : TE}
theorem pe_fld (he : PE X e ta) (hb : attributeBase e f X.env (eval e X.env) = eval e X.env) : PE X (.Attribute e f pos) (tFld X.K ta f) := by
  intro pins s σ H Q I h
  refine attr_of hb (thn (he pins s σ H _ I h) fun u s1 ⟨x, H1, I1, rx, a, C, dx, fs, v, ex, ea, c, n, l, q⟩ => ?_)
  subst ex
  obtain rfl : u = Value.ref a := rx
  exact getattr_ok I1 ea c n l fun u' s2 I2 ru => ⟨v, H1, I2, ru, q⟩
theorem ps_fld (ha : PE X o ta) (hv : PE X value tv) (hs : swapsWith value (some (.Attribute o f pos')) pos.line X.env = pure false) : PS X (.Assign [.Attribute o f pos'] value pos) (sFld X.K ta tv f) := by
  intro pins s σ H D I h
  refine plainObj_wpAny_Assign_Attribute (thn (hv pins s σ H _ I h) fun u s1 ⟨y, H1, I1, ry, q⟩ => thn (ha pins s1 σ H1 _ I1 q) fun ov s2 ⟨x, H2, I2, rx, a, C, dx, fs, ex, ea, c, n, l, q2⟩ => ?_) hs
  subst ex
  obtain rfl : ov = Value.ref a := rx
  exact setattr_ok I2 ea c n l ry fun s3 I3 => ⟨σ, _, I3, q2⟩

end

/-! ### isinstance -/
end L2

namespace L2
open PySem PySem.Spec PyProof.Rows

/-! ### room -/
structure Room (k : Nat) (A : Around) : Prop where
  hd : A.handled = none
  dp : A.depth + 3 * k + 5 < recursionLimit
  un : A.units + 16 * k + 200 < cLine
theorem Room.mono {j k : Nat} {A : Around} (r : Room k A) (h : j ≤ k) : Room j A := ⟨r.hd, by have := r.dp; omega, by have := r.un; omega⟩
theorem Room.deeper {k : Nat} {A : Around} (r : Room (k + 1) A) (env : Env) : Room k (A.deeper env) :=
  ⟨r.hd, by have := r.dp; show A.depth + 1 + 3 * k + 5 < _; omega, by have := r.un; show A.units + 3 + 16 * k + 200 < _; omega⟩
theorem make_depth {A : Around} {C : Addr} {us : List Value} {kw : List (Str × Value)} : (A.under (.builtin "type.__call__" ⟨.ref C :: us, kw⟩)).depth = A.depth + 1 := by
  first | rfl | simp [Around.under, Code.weight, Code.isCreation, Code.isGuard, Code.isCaller, Code.frames, Code.isFrame, guardIds]
theorem make_units {A : Around} {C : Addr} {us : List Value} {kw : List (Str × Value)} : (A.under (.builtin "type.__call__" ⟨.ref C :: us, kw⟩)).units = A.units + 1 := by
  first | rfl | simp [Around.under, Code.cUnits, Code.frames, Code.isFrame]
theorem Room.make {k : Nat} {A : Around} (r : Room (k + 1) A) (C : Addr) (us : List Value) (kw : List (Str × Value)) : Room k (A.under (.builtin "type.__call__" ⟨.ref C :: us, kw⟩)) :=
  ⟨r.hd, by have := r.dp; rw [make_depth]; omega, by have := r.un; rw [make_units]; omega⟩
theorem Room.depth {k : Nat} {A : Around} (r : Room k A) : A.depth < recursionLimit := by have := r.dp; omega

/-! ### argument lists and displays -/
def tNil : TA := fun _ H Q => Q [] H
def tCons (ta : TE) (tr : TA) : TA := fun σ H Q => ta σ H fun x H1 => tr σ H1 fun xs H2 => Q (x :: xs) H2
section
variable {X : Cx} {e : Expr} {es : List Expr} {te : TE} {t : TA} {pos : Pos}
theorem pa_nil : PA X [] tNil := fun _ _ _ _ H Q I h => Calls.spliced_nil ⟨[], H, I, .nil, h⟩
theorem pa_cons (ha : PE X e te) (hr : PA X es t) (hs : starEach (e :: es) X.env = (false, eval e X.env) :: starEach es X.env := by rfl) : PA X (e :: es) (tCons te t) := by
  intro pos pins s σ H Q I h
  rw [hs]
  show wpAny _ _ (spliced ((false, eval e X.env) :: backTo pos (starEach es X.env))) _ _ s
  refine Calls.spliced_cons (thn (ha pins s σ H _ I h) fun u s1 ⟨x, H1, I1, r1, q1⟩ => ?_)
  exact thn (hr pos pins s1 σ H1 _ I1 q1) fun us s2 ⟨xs, H2, I2, r2, q2⟩ => ⟨x :: xs, H2, I2, .cons r1 r2, q2⟩

/-- a tuple, a list of written items -/
def tTup (t : TA) : TE := fun σ H Q => t σ H fun xs H1 => xs.length ≤ sizeLine ∧ ∀ p, H1 p = none → Q (.ref p) (upd H1 p (.tup xs))
def tLst (t : TA) : TE := fun σ H Q => t σ H fun xs H1 => xs.length ≤ sizeLine ∧ ∀ p, H1 p = none → Q (.ref p) (upd H1 p (.lst xs))
theorem pe_tup {x1} (h : PA X es t) : PE X (.Tuple es x1 pos) (tTup t) := by
  intro pins s σ H Q I hq
  refine wpAny_Tuple_spliced (thn (h pos pins s σ H _ I hq) fun us s1 ⟨xs, H1, I1, r, z, q⟩ => ⟨by rw [← r.length]; exact z, ?_⟩)
  have hf : H1 s1.heap.objs.size = none := I1.hok.fresh (Nat.le_refl _)
  refine ⟨.ref s1.heap.objs.size, upd H1 s1.heap.objs.size (.tup xs), I1.laid (t' := s1.toks) (fun b u e => Heap.get?_push_of_some _ e) (Nat.le_refl _) ?_, rfl, q _ hf⟩
  exact ⟨z, us, r, ⟨_, Heap.get?_push_size _ rfl, rfl, _, rfl⟩⟩
theorem pe_lst (h : PA X es t) : PE X (.List es pos) (tLst t) := by
  intro pins s σ H Q I hq
  refine wpAny_List_spliced (thn (h pos pins s σ H _ I hq) fun us s1 ⟨xs, H1, I1, r, z, q⟩ => ⟨by rw [← r.length]; exact z, ?_⟩)
  have hf : H1 s1.heap.objs.size = none := I1.hok.fresh (Nat.le_refl _)
  refine ⟨.ref s1.heap.objs.size, upd H1 s1.heap.objs.size (.lst xs), I1.laid (t' := s1.toks) (fun b u e => Heap.get?_push_of_some _ e) (Nat.le_refl _) ?_, rfl, q _ hf⟩
  exact ⟨z, us, 0, r, Heap.get?_push_size _ rfl⟩
end

/-! ### what a def promises -/
/-- a def's promise: the bound arguments in the parameters' order, the heap, the wanted end, the wanted exception -/
abbrev Sp := List V → Hp → VK → XK → Prop
/-- how an exception lies behind a call (file 08 gives it): the callers' frames, abstract heap and state ahead of the call, the wish, the exception, the state -/
abbrev CXT := List Env → Hp → Shared → XK → Value → Shared → Prop

/-- the state at a call -/
structure Env0 (P : Program) (w : World) (K : PySem.W.Frag) (mg : Str → Option Value) (base : Heap) (A : Around) (outer : List Env) (s : Shared) (H : Hp) : Prop where
  frames : A.frames = some outer
  mod : Mod K mg base
  bs : ∀ b o, base.get? b = some o → s.heap.get? b = some o ∧ H b = none
  bsz : base.objs.size ≤ s.heap.objs.size
  funs : s.heap.FunFrames base outer
  frf : ∀ b ∈ frs outer, H b = none
  hok : HOk P w H s.heap
  bare : AllBare s.gens
/-- a call's end -/
def CE (outer : List Env) (P : Program) (w : World) (H : Hp) (s : Shared) (Q : VK) (u : Value) (s' : Shared) : Prop :=
  ∃ v H', s'.os = s.os ∧ AllBare s'.gens ∧ Un (frs outer) [] H H' s.heap s'.heap ∧ HOk P w H' s'.heap ∧ RelV v u ∧ Q v H'
def CR (CX : CXT) (outer : List Env) (P : Program) (w : World) (H : Hp) (s : Shared) (Q : VK) (E : XK) (r : Result) (s' : Shared) : Prop :=
  match r with
  | .ok (.ret u) => CE outer P w H s Q u s'
  | .ok _ => False
  | .error e => CX outer H s E e s'
structure FnOk (P : Program) (w : World) (K : PySem.W.Frag) (mg : Str → Option Value) (base : Heap) (CX : CXT) (k : Nat) (f : Addr) (fd : FuncData) (ps : List Str) (sp : Sp) : Prop where
  len : ∀ vs H Q E, sp vs H Q E → vs.length = ps.length
  run : ∀ (A : Around) (outer : List Env) (s : Shared) (H : Hp) (args : Args) (us : List Value) (vs : List V) (Q : VK) (E : XK), Room k A → Env0 P w K mg base A outer s H → BindsTo s fd args (ps.zip us) → Vals vs us → sp vs H Q E →
    codeAny (model P w) A (.call (.ref f) args) (CR CX outer P w H s Q E) s

theorem Env0.make {P : Program} {w : World} {K : PySem.W.Frag} {mg : Str → Option Value} {base : Heap} {A : Around} {outer : List Env} {s : Shared} {H : Hp} (e : Env0 P w K mg base A outer s H) (C : Addr) (us : List Value) (kw : List (Str × Value)) :
    Env0 P w K mg base (A.under (.builtin "type.__call__" ⟨.ref C :: us, kw⟩)) outer s H := ⟨by first | exact e.frames | (simpa [Around.under, Code.envs, Code.isFrame, pushEnvs] using e.frames), e.mod, e.bs, e.bsz, e.funs, e.frf, e.hok, e.bare⟩

section
variable {X : Cx} {pins : List (Addr × Obj)} {σ : St} {H : Hp} {s s' : Shared}
/-- from a body: what a callee wants -/
theorem Inv.env0 (I : Inv X pins σ H s) : Env0 X.prog X.w X.K X.mg X.base X.A X.stack s H :=
  ⟨I.ok.frames, I.ok.mod, I.bs, Nat.le_trans I.ok.bsz I.sz, I.stack, I.stkFree, I.hok, I.bare⟩
/-- behind a call -/
theorem Inv.after {Q : VK} {u : Value} (I : Inv X pins σ H s) (h : CE X.stack X.prog X.w H s Q u s') : EP X pins σ Q u s' := by
  obtain ⟨v, H', os, bare, un, hok, r, q⟩ := h
  obtain ⟨hh, g, d, t, os'⟩ := s'
  obtain rfl : os' = s.os := os
  exact ⟨v, H', I.call (h' := hh) (g' := g) (d' := d) (t' := t) (ch := []) un hok bare (fun b z => absurd z (by simp)), r, q⟩
end

/-! ### calls -/
/-- f(..): the written arguments, then the defaults dvs; E: what is wanted of an exception -/
def tCall (sp : Sp) (dvs : List V) (E : XK) (t : TA) : TE := fun σ H Q => t σ H fun vs H1 => sp (vs ++ dvs) H1 Q E
/-- o.m(..) of an instance of the class at C -/
def tMeth (C : Addr) (m : Str) (sp : Sp) (dvs : List V) (E : XK) (ta : TE) (t : TA) : TE := fun σ H Q => ta σ H fun x H1 => ∃ a dx fs, x = .ref a ∧ H1 a = some (.ins C dx fs) ∧ fs.lookup m = none ∧
  t σ H1 fun vs H2 => sp (x :: (vs ++ dvs)) H2 Q E
/-- C(..): a new instance and its dict, then __init__ -/
def tMake (C : Addr) (sp : Sp) (dvs : List V) (E : XK) (t : TA) : TE := fun σ H Q => t σ H fun vs H1 => ∀ x dx, H1 x = none → H1 dx = none → dx ≠ x →
  sp (.ref x :: (vs ++ dvs)) (upd (upd H1 dx (.own x)) x (.ins C dx [])) (fun v H2 => v = .non ∧ Q (.ref x) H2) E

/-- how the parameters are bound: us the positional arguments, kw the keywords' values by name, ds the defaults that fill up -/
def Binds (K : PySem.W.Frag) (fd : FuncData) (ps : List Str) (ds : List Value) : Prop :=
  ∀ (s : Shared) (us : List Value), K.In s.heap → (us ++ ds).length = ps.length → BindsTo s fd ⟨us, []⟩ (ps.zip (us ++ ds))
/-- every parameter is given -/
theorem Binds.all {K : PySem.W.Frag} {fd : FuncData} {ps : List Str} (h : ∀ us : List Value, us.length = ps.length → bindArgs fd ⟨us, []⟩ = pure (ps.zip us)) : Binds K fd ps [] := fun s us _ hl => by
  rw [List.append_nil] at hl ⊢
  exact .of_eq (h us hl)

/-- an exception of a callee reaches what this body wants of exceptions -/
def Passes (CX : CXT) (X : Cx) (E : XK) : Prop := ∀ (pins : List (Addr × Obj)) (σ : St) (H : Hp) (s : Shared) (e : Value) (s' : Shared), Inv X pins σ H s → CX X.stack H s E e s' → X.xe e s'

section
variable {X : Cx} {CX : CXT} {k : Nat} {f C : Addr} {fd : FuncData} {ps : List Str} {sp : Sp} {dvs : List V} {ds : List Value} {E : XK} {x m : Str} {p pos apos : Pos} {e o : Expr} {es : List Expr} {ta : TE} {t : TA}

/-- the callee runs -/
theorem run_fn {pins : List (Addr × Obj)} {σ : St} {H : Hp} {s : Shared} {Q : VK} {us : List Value} {vs : List V} (F : FnOk X.prog X.w X.K X.mg X.base CX k f fd ps sp) (hr : Room k X.A) (hb : Binds X.K fd ps ds) (hd : Vals dvs ds) (hx : Passes CX X E)
    (I : Inv X pins σ H s) (r : Vals vs us) (h : sp (vs ++ dvs) H Q E) : wpAny (model X.prog X.w) X.A (call (.ref f) us) (EP X pins σ Q) X.xe s := by
  have r2 : Vals (vs ++ dvs) (us ++ ds) := r.append hd
  have hl : (us ++ ds).length = ps.length := by rw [← r2.length]; exact F.len _ _ _ _ h
  refine wpAny_call (codeAny_mono (F.run X.A X.stack s H ⟨us, []⟩ (us ++ ds) (vs ++ dvs) Q E hr I.env0 (hb s us I.kIn hl) r2 h) fun r s' hq => ?_)
  cases r with
  | error e => exact hx pins σ H s e s' I hq
  | ok fl =>
    cases fl with
    | ret u => exact I.after hq
    | next => exact False.elim hq
    | brk => exact False.elim hq
    | cont => exact False.elim hq

theorem pe_call (F : FnOk X.prog X.w X.K X.mg X.base CX k f fd ps sp) (hr : Room k X.A) (hg : Gl X x) (hm : X.mg x = some (.ref f)) (hk : PySem.W.keepIn X.K (.ref f) = true) (hb : Binds X.K fd ps ds) (hd : Vals dvs ds) (hx : Passes CX X E)
    (ha : PA X (e :: es) t) (hdb : (x == ("__debug__" : Str)) = false := by decide) (he : starEach (e :: es) X.env = (false, eval e X.env) :: starEach es X.env := by rfl) (hpl : (backTo pos (starEach es X.env)).any (·.1) = false := by rfl) :
    PE X (.Call (.Name x p) (e :: es) [] pos) (tCall sp dvs E t) := by
  intro pins s σ H Q I h
  refine wpAny_Call_Name_kw (ld_glob I hg hm ?_ hdb)
  refine PySem.W.callWith_K (h₀ := X.base) I.ok.mod.kin hk (thn (ha pos pins s σ H _ I h) fun us s1 ⟨vs, H1, I1, r, q⟩ => ⟨I1.kIn, ?_⟩) he hpl
  exact run_fn F hr hb hd hx I1 r q

/-- o.m(e, ..) -/
theorem pe_meth {pl : Sem Bool} (he : PE X o ta) (c : Cls X.K C) (hm : Meth X.K C m f) (F : FnOk X.prog X.w X.K X.mg X.base CX k f fd ps sp) (hr : Room k X.A) (hb : Binds X.K fd ps ds) (hd : Vals dvs ds) (hx : Passes CX X E) (ha : PA X (e :: es) t)
    (hst : starEach (e :: es) X.env = (false, eval e X.env) :: starEach es X.env := by rfl) (hpl : (backTo pos (starEach es X.env)).any (·.1) = false := by rfl)
    (ht : eval (.Call (.Attribute o m apos) (e :: es) [] pos) X.env = (do
      let ov ← eval o X.env
      standAt apos.atName
      let (f, first) ← holding [ov] (getMethod ov m pl)
      callWith pos f first (backTo pos (starEach (e :: es) X.env)) (backToKw pos (keywordEach [] X.env))) := by rfl) :
    PE X (.Call (.Attribute o m apos) (e :: es) [] pos) (tMeth C m sp dvs E ta t) := by
  intro pins s σ H Q I h
  refine PySem.W.methodCall_KW (pl := pl) (thn (he pins s σ H _ I h) fun u s1 ⟨x, H1, I1, rx, a, dx, fs, ex, ea, l, q⟩ => ?_) ht
  subst ex
  obtain rfl : u = Value.ref a := rx
  refine getmeth_ok I1 ea c hm l ?_
  refine PySem.W.callWith_K (first := [.ref a]) (h₀ := X.base) I.ok.mod.kin hm.kp (thn (ha pos pins s1 σ H1 _ I1 q) fun us s2 ⟨vs, H2, I2, r, q2⟩ => ⟨I2.kIn, ?_⟩) hst hpl
  exact run_fn (us := .ref a :: us) (vs := .ref a :: vs) F hr hb hd hx I2 (.cons rfl r) q2
/-- o.m() -/
theorem pe_meth0 {pl : Sem Bool} (he : PE X o ta) (c : Cls X.K C) (hm : Meth X.K C m f) (F : FnOk X.prog X.w X.K X.mg X.base CX k f fd ps sp) (hr : Room k X.A) (hb : Binds X.K fd ps ds) (hd : Vals dvs ds) (hx : Passes CX X E)
    (ht : eval (.Call (.Attribute o m apos) [] [] pos) X.env = (do
      let ov ← eval o X.env
      standAt apos.atName
      let (f, first) ← holding [ov] (getMethod ov m pl)
      callWith pos f first (backTo pos (starEach [] X.env)) (backToKw pos (keywordEach [] X.env))) := by rfl) :
    PE X (.Call (.Attribute o m apos) [] [] pos) (tMeth C m sp dvs E ta tNil) := by
  intro pins s σ H Q I h
  refine PySem.W.methodCall_KW (pl := pl) (thn (he pins s σ H _ I h) fun u s1 ⟨x, H1, I1, rx, a, dx, fs, ex, ea, l, q⟩ => ?_) ht
  subst ex
  obtain rfl : u = Value.ref a := rx
  refine getmeth_ok I1 ea c hm l ?_
  exact PySem.W.callWith_K0 (first := [.ref a]) I1.kIn hm.kp (run_fn (us := [.ref a]) (vs := [.ref a]) F hr hb hd hx I1 (.cons rfl .nil) q)

/-- what a class must have to be made -/
structure Mk (K : PySem.W.Frag) (C f : Addr) : Prop where
  makes : PySem.W.makesIn K C = true
  init : PySem.W.findIn K (.ref C) "__init__" = some (some (.ref f))
  fn : PySem.W.isFn K (.ref f) = true
  kp : PySem.W.keepIn K (.ref C) = true

theorem run_make {pins : List (Addr × Obj)} {σ : St} {H : Hp} {s : Shared} {Q : VK} {us : List Value} {vs : List V} (M : Mk X.K C f) (F : FnOk X.prog X.w X.K X.mg X.base CX k f fd ps sp) (hr : Room (k + 1) X.A) (hb : Binds X.K fd ps ds) (hd : Vals dvs ds)
    (hx : Passes CX X E) (I : Inv X pins σ H s) (r : Vals vs us)
    (h : ∀ x dx, H x = none → H dx = none → dx ≠ x → sp (.ref x :: (vs ++ dvs)) (upd (upd H dx (.own x)) x (.ins C dx [])) (fun v H2 => v = .non ∧ Q (.ref x) H2) E) :
    wpAny (model X.prog X.w) X.A (call (.ref C) us) (EP X pins σ Q) X.xe s := by
  have hq := h (s.heap.objs.size + 1) s.heap.objs.size (I.hok.fresh (Nat.le_succ _)) (I.hok.fresh (Nat.le_refl _)) (Nat.ne_of_lt (Nat.lt_succ_self _))
  have I2 := Inv.made (C := C) I
  have r2 : Vals (V.ref (s.heap.objs.size + 1) :: (vs ++ dvs)) (Value.ref (s.heap.objs.size + 1) :: (us ++ ds)) := .cons rfl (r.append hd)
  have hl : (Value.ref (s.heap.objs.size + 1) :: us ++ ds).length = ps.length := by
    have e := r2.length
    rw [F.len _ _ _ _ hq] at e
    exact e.symm
  refine wpAny_call (make_map (f := f) I.kIn M.makes M.init (beq_iff_eq.mp M.fn) (codeAny_mono (F.run _ X.stack _ _ ⟨Value.ref (s.heap.objs.size + 1) :: us, []⟩ (Value.ref (s.heap.objs.size + 1) :: (us ++ ds)) _ _ E (hr.make C us [])
    (I2.env0.make C us []) (hb _ (Value.ref (s.heap.objs.size + 1) :: us) I2.kIn hl) r2 hq) fun r s' hq' => ?_))
  cases r with
  | error e => exact hx pins σ _ _ e s' I2 hq'
  | ok fl =>
    cases fl with
    | ret u =>
      obtain ⟨v, H', I3, rv, ev, q3⟩ := I2.after hq'
      subst ev
      exact ⟨rv, ⟨V.ref (s.heap.objs.size + 1), H', I3, rfl, q3⟩⟩
    | next => exact False.elim hq'
    | brk => exact False.elim hq'
    | cont => exact False.elim hq'
theorem pe_make (M : Mk X.K C f) (F : FnOk X.prog X.w X.K X.mg X.base CX k f fd ps sp) (hr : Room (k + 1) X.A) (hg : Gl X x) (hm : X.mg x = some (.ref C)) (hb : Binds X.K fd ps ds) (hd : Vals dvs ds) (hx : Passes CX X E)
    (ha : PA X (e :: es) t) (hdb : (x == ("__debug__" : Str)) = false := by decide) (he : starEach (e :: es) X.env = (false, eval e X.env) :: starEach es X.env := by rfl) (hpl : (backTo pos (starEach es X.env)).any (·.1) = false := by rfl) :
    PE X (.Call (.Name x p) (e :: es) [] pos) (tMake C sp dvs E t) := by
  intro pins s σ H Q I h
  refine wpAny_Call_Name_kw (ld_glob I hg hm ?_ hdb)
  refine PySem.W.callWith_K (h₀ := X.base) I.ok.mod.kin M.kp (thn (ha pos pins s σ H _ I h) fun us s1 ⟨vs, H1, I1, r, q⟩ => ⟨I1.kIn, ?_⟩) he hpl
  exact run_make M F hr hb hd hx I1 r q
theorem pe_make0 (M : Mk X.K C f) (F : FnOk X.prog X.w X.K X.mg X.base CX k f fd ps sp) (hr : Room (k + 1) X.A) (hg : Gl X x) (hm : X.mg x = some (.ref C)) (hb : Binds X.K fd ps ds) (hd : Vals dvs ds) (hx : Passes CX X E)
    (hdb : (x == ("__debug__" : Str)) = false := by decide) : PE X (.Call (.Name x p) [] [] pos) (tMake C sp dvs E tNil) := by
  intro pins s σ H Q I h
  refine wpAny_Call_Name_kw (ld_glob I hg hm ?_ hdb)
  exact PySem.W.callWith_K0 I.kIn M.kp (run_make (us := []) M F hr hb hd hx I .nil h)
end

/-! ### keywords -/
section
variable {X : Cx} {CX : CXT} {k : Nat} {f C : Addr} {fd : FuncData} {ps ks : List Str} {sp : Sp} {E : XK} {x m : Str} {p pos apos kpos : Pos} {e o : Expr} {es : List Expr} {kws : List Keyword} {te ta : TE} {t tk : TA} {nm : Option Str}

variable {g : List Value → List Value → List Value} {gV : List V → List V → List V}
end

/-! ### a def's body keeps its promise -/
/-- names: the parameters first -/
structure FnScope (N P : List Str) (sc : Scope) : Prop where
  kind : sc.kind = .function
  co : sc.isCoroutine = false
  gen : sc.isGenerator = false
  nd : N.Nodup
  pre : N.take P.length = P
  par : ∀ x ∈ P, sc.names.lookup x = some .local ∨ sc.names.lookup x = some .cell
  nofree : ∀ y ∈ sc.names, y.2 ≠ .free

theorem bindL_out {kindOf : Str → Option NameKind} {x : Str} : ∀ {binds : List (Str × Value)} {m : Str → Option Value}, (∀ v, (x, v) ∉ binds) → bindL kindOf binds m x = m x
  | [], _, _ => rfl
  | (n, v) :: r, m, h => by
    unfold bindL
    rw [bindL_out fun w hw => h w (List.mem_cons_of_mem _ hw)]
    split
    · have : x ≠ n := by rintro rfl; exact h v List.mem_cons_self
      simp [this]
    · rfl
theorem bindC_out {kindOf : Str → Option NameKind} {x : Str} : ∀ {binds : List (Str × Value)} {m : Str → Option Value}, (∀ v, (x, v) ∉ binds) → bindC kindOf binds m x = m x
  | [], _, _ => rfl
  | (n, v) :: r, m, h => by
    unfold bindC
    rw [bindC_out fun w hw => h w (List.mem_cons_of_mem _ hw)]
    split
    · rfl
    · have : x ≠ n := by rintro rfl; exact h v List.mem_cons_self
      simp [this]
theorem bindL_get {kindOf : Str → Option NameKind} {x : Str} {v : Value} : ∀ {P : List Str} {vs : List Value} {i : Nat} {m : Str → Option Value}, P.Nodup → P[i]? = some x → vs[i]? = some v → kindOf x = some .local →
    bindL kindOf (P.zip vs) m x = some v
  | [], _, _, _, _, h, _, _ => by simp at h
  | _ :: _, [], _, _, _, _, h, _ => by simp at h
  | p :: P, w :: vs, 0, m, nd, h1, h2, hk => by
    simp at h1 h2; subst h1; subst h2
    show bindL kindOf ((p, w) :: P.zip vs) m p = _
    unfold bindL
    rw [bindL_out fun v hv => (List.nodup_cons.mp nd).1 (List.of_mem_zip hv).1, if_pos hk]
    simp
  | p :: P, w :: vs, i + 1, m, nd, h1, h2, hk => by
    show bindL kindOf ((p, w) :: P.zip vs) m x = _
    unfold bindL
    exact bindL_get (i := i) (List.nodup_cons.mp nd).2 (by simpa using h1) (by simpa using h2) hk
theorem bindC_get {kindOf : Str → Option NameKind} {x : Str} {v : Value} : ∀ {P : List Str} {vs : List Value} {i : Nat} {m : Str → Option Value}, P.Nodup → P[i]? = some x → vs[i]? = some v → kindOf x ≠ some .local →
    bindC kindOf (P.zip vs) m x = some v
  | [], _, _, _, _, h, _, _ => by simp at h
  | _ :: _, [], _, _, _, _, h, _ => by simp at h
  | p :: P, w :: vs, 0, m, nd, h1, h2, hk => by
    simp at h1 h2; subst h1; subst h2
    show bindC kindOf ((p, w) :: P.zip vs) m p = _
    unfold bindC
    rw [bindC_out fun v hv => (List.nodup_cons.mp nd).1 (List.of_mem_zip hv).1, if_neg hk]
    simp
  | p :: P, w :: vs, i + 1, m, nd, h1, h2, hk => by
    show bindC kindOf ((p, w) :: P.zip vs) m x = _
    unfold bindC
    exact bindC_get (i := i) (List.nodup_cons.mp nd).2 (by simpa using h1) (by simpa using h2) hk

/-- the names' values at the entry -/
def start (N : List Str) (vs : List V) : St := vs.map some ++ List.replicate (N.length - vs.length) none

/-- the context of a def's body, at its entry; an exception leaves the frame, then lies as CX says -/
def cxOf (CX : CXT) (P : Program) (w : World) (K : PySem.W.Frag) (mg : Str → Option Value) (base : Heap) (N : List Str) (qual : Str) (scope : Scope) (f : Addr) (cd : Value) (A : Around) (outer : List Env) (s : Shared) (H : Hp) (E : XK) : Cx where
  prog := P
  w := w
  K := K
  mg := mg
  base := base
  A := A.deeper (envOfC qual scope s.heap.objs.size f cd)
  N := N
  s_0 := s
  H_0 := H
  env := envOfC qual scope s.heap.objs.size f cd
  outer := outer
  stack := envOfC qual scope s.heap.objs.size f cd :: outer
  ex := []
  calm := true
  fn := fun _ => true
  pn := []
  xe := fun e s' => wpAny (model P w) (A.deeper (envOfC qual scope s.heap.objs.size f cd)) (leaving (envOfC qual scope s.heap.objs.size f cd) e) (fun _ s'' => CX outer H s E e s'') (fun e' s'' => CX outer H s E e' s'') s'

theorem cell_has {sc : Scope} {n : Nat} {x : Str} (h : sc.names.lookup x = some .cell) : ∃ c, (cellsFrom n sc.names []).lookup x = some c := by
  have q := PySem.W.cellsFrom_some sc.names n [] (.inl h)
  exact Option.isSome_iff_exists.mp q

theorem inv_start {CX : CXT} {P : Program} {w : World} {K : PySem.W.Frag} {mg : Str → Option Value} {base : Heap} {N ps : List Str} {qual : Str} {scope : Scope} {f : Addr} {cd : Value} {A : Around} {outer : List Env} {s s1 : Shared} {H : Hp} {E : XK} {us : List Value} {vs : List V}
    (S : FnScope N ps scope) (hd : A.handled = none) (e0 : Env0 P w K mg base A outer s H) (hl : vs.length = ps.length) (r : Vals vs us)
    (x : InCallC s s.heap.objs.size (bindL (envOfC qual scope s.heap.objs.size f cd).kindOf (ps.zip us) fun _ => none) (cellsFrom (s.heap.objs.size + 1) scope.names []) (bindC (envOfC qual scope s.heap.objs.size f cd).kindOf (ps.zip us) fun _ => none) s1) :
    Inv (cxOf CX P w K mg base N qual scope f cd A outer s H E) [] (start N vs) H s1 := by
  have hpl : ps.length ≤ N.length := by have := congrArg List.length S.pre; rw [List.length_take] at this; omega
  obtain ⟨h1, tk, rfl, hk⟩ := x.done
  have noA : ∀ b : Addr, b ∉ (cxOf CX P w K mg base N qual scope f cd A outer s H E).ex := fun b z => absurd (show b ∈ ([] : List Addr) from z) (by simp)
  refine ⟨⟨e0.mod, S.kind, rfl, rfl, Nat.le_refl _, fun y z c h1 h2 => ?_, fun y hy => ?_, fun y c _ h => ?_, fun _ => hd, Around.frames_deeper e0.frames, .inr ⟨rfl, rfl⟩, fun b z => absurd z (noA b), e0.bs, e0.bsz, fun b _ _ => noA b, fun b z => absurd z (noA b), e0.funs, e0.frf⟩,
    rfl, e0.bare, Un.kept hk, ⟨_, x.toInCall.ns, fun i y v h1 h2 h3 => ?_⟩, fun y c h => ⟨_, x.cell y c h⟩, e0.hok.fresh (Nat.le_refl _), fun y c h => ?_, fun p hp => absurd (show p ∈ ([] : List (Addr × Obj)) from hp) (by simp), e0.hok.kept hk, ?_⟩
  · exact name_of_addr x.apart (PySem.mem_of_lookup h1) (PySem.mem_of_lookup h2)
  · have hy : scope.names.lookup y = some .cell ∨ scope.names.lookup y = some .free := hy
    rcases hy with hy | hy
    · exact cell_has hy
    · exact absurd rfl (S.nofree _ (PySem.mem_of_lookup hy))
  · exact Nat.le_of_lt (x.above y c (PySem.mem_of_lookup h))
  · have hi : i < vs.length := by
      unfold start at h2
      by_cases hi : i < vs.length
      · exact hi
      · rw [List.getElem?_append_right (by simpa using hi)] at h2
        rw [List.getElem?_replicate] at h2
        split at h2 <;> cases h2
    have ha : vs[i]? = some v := by
      unfold start at h2
      rw [List.getElem?_append_left (by simpa using hi), List.getElem?_map] at h2
      cases e : vs[i]? with
      | none => rw [e] at h2; cases h2
      | some a => rw [e] at h2; cases h2; rfl
    obtain ⟨u, hu, rv⟩ := r.get ha
    have hp : ps[i]? = some y := by
      rw [← S.pre, List.getElem?_take_of_lt (by omega)]; exact h1
    have ndP : ps.Nodup := by rw [← S.pre]; exact S.nd.sublist (List.take_sublist _ _)
    refine ⟨u, rv, ?_⟩
    rcases S.par y (List.mem_of_getElem? hp) with k | k
    · exact .inl ⟨k, bindL_get ndP hp hu k⟩
    · obtain ⟨c, e⟩ := cell_has (n := s.heap.objs.size + 1) k
      refine .inr ⟨.inl k, c, e, ?_⟩
      have q := x.cell y c e
      rw [bindC_get ndP hp hu (by show scope.names.lookup y ≠ _; rw [k]; decide)] at q
      exact q
  · exact e0.hok.fresh (Nat.le_of_lt (x.above y c (PySem.mem_of_lookup h)))
  · unfold start
    show _ = N.length
    rw [List.length_append, List.length_map, List.length_replicate]
    omega

/-- THE RULE: a def (or a method) of the text, by its body. The body's reading t is chosen for each entry; it is run at the parameters' values -/
theorem fn_of {CX : CXT} {P : Program} {w : World} {K : PySem.W.Frag} {mg : Str → Option Value} {base : Heap} {k : Nat} {f : Addr} {name qual : Str} {params : Arguments} {body : List Stmt} {scope : Scope} {dV kV doc pm cdv ct oc : Value} {an od : Option Addr}
    {osl : Array (Option Value)} {N ps : List Str} {sp : Sp} (lk : K.lookup f = some ⟨oc, od, .func (PySem.W.fnOf name qual params body scope dV kV doc pm an cdv ct), osl⟩) (hcd : PySem.W.codeIn K cdv qual = true) (S : FnScope N ps scope)
    (len : ∀ vs H Q E, sp vs H Q E → vs.length = ps.length)
    (hbody : ∀ (A : Around) (outer : List Env) (s : Shared) (H : Hp) (vs : List V) (Q : VK) (E : XK), Room k (A.deeper (envOfC qual scope s.heap.objs.size f cdv)) → sp vs H Q E →
      ∃ t, PSs (cxOf CX P w K mg base N qual scope f cdv A outer s H E) body t ∧ t { nx := fun _ H' => Q .non H', rt := Q } (start N vs) H) :
    FnOk P w K mg base CX (k + 1) f (PySem.W.fnOf name qual params body scope dV kV doc pm an cdv ct) ps sp := by
  refine ⟨len, fun A outer s H args us vs Q E hr e0 hb r hsp => ?_⟩
  have hl := len _ _ _ _ hsp
  have KX : K.In s.heap := e0.mod.kin.keeps fun b o e => (e0.bs b o e).1
  have lim : s.heap.NoLimit := e0.mod.nolimit.keeps fun b o e => (e0.bs b o e).1
  have hkind : ∀ y ∈ ps.zip us, scope.names.lookup y.1 = some .local ∨ (scope.names.lookup y.1 = some .cell ∧ ((cellsFrom (s.heap.objs.size + 1) scope.names []).lookup y.1).isSome = true) := fun ⟨n, v⟩ hy => by
    rcases S.par n (List.of_mem_zip hy).1 with q | q
    · exact .inl q
    · exact .inr ⟨q, PySem.W.cellsFrom_some _ _ _ (.inl q)⟩
  refine codeAny_call_function hr.depth (KX _ _ lk) rfl S.co S.gen rfl (PySem.W.codeRec_of KX hcd) (hb _ _ _ _ ?_)
  refine wpAny_newFunctionEnv_cells S.kind hkind fun env he s1 x => ?_
  subst he
  refine ⟨lim.keeps x.toInCall.keep, codeAny_func ?_⟩
  obtain ⟨t, ht, hq⟩ := hbody A outer s H vs Q E (hr.deeper _) hsp
  have I : Inv (cxOf CX P w K mg base N qual scope f cdv A outer s H E) [] (start N vs) H s1 := inv_start S hr.hd e0 hl r x
  refine wpAny_mono (ht [] s1 (start N vs) H _ I hq) (fun fl s' hs => ?_) fun e s' hs => hs
  have fin : ∀ {σ' : St} {H' : Hp} {v : V} {u : Value}, Inv (cxOf CX P w K mg base N qual scope f cdv A outer s H E) [] σ' H' s' → RelV v u → Q v H' → CE outer P w H s Q u s' :=
    fun {σ' H' v u} J rv q => ⟨v, H', J.os, J.bare, J.base, J.hok, rv, q⟩
  cases fl with
  | ret u =>
    obtain ⟨v, σ', H', J, rv, q⟩ := hs
    exact fin J rv q
  | next =>
    obtain ⟨σ', H', J, q⟩ := hs
    exact fin (v := V.non) (u := Value.none) J rfl q
  | brk =>
    obtain ⟨_, _, _, q⟩ := hs
    exact False.elim q
  | cont =>
    obtain ⟨_, _, _, q⟩ := hs
    exact False.elim q
end L2

namespace L2
open PySem PySem.Spec PyProof.Rows
section
variable {X : Cx} {x : Str} {p pos : Pos} {e : Expr} {es : List Expr} {t : TA} {id T : String} {r : List V → Hp → VK → Prop}

def tCB (r : List V → Hp → VK → Prop) (t : TA) : TE := fun σ H Q => t σ H fun vs H1 => r vs H1 Q
/-- f(e, ..), f a built-in function -/
theorem pe_callB (hc : CallR X (.builtin id) r) (hg : Gl X x) (hm : X.mg x = none) (hv : bootBuiltins x = some (.builtin id)) (ha : PA X (e :: es) t) (hn : x ≠ "__name__" := by decide) (hdb : (x == ("__debug__" : Str)) = false := by decide)
    (he : starEach (e :: es) X.env = (false, eval e X.env) :: starEach es X.env := by rfl) (hpl : (backTo pos (starEach es X.env)).any (·.1) = false := by rfl) : PE X (.Call (.Name x p) (e :: es) [] pos) (tCB r t) := by
  intro pins s σ H Q I h
  refine wpAny_Call_Name_kw (ld_blt I hg hm hv ?_ hn hdb)
  exact PyProof.Rows.callWith_builtin1 (thn (ha pos pins s σ H _ I h) fun us s1 ⟨vs, H1, I1, r1, q1⟩ => hc pins s1 σ H1 vs us Q I1 r1 q1) he hpl
/-- T(e, ..), T a built-in type -/
theorem pe_callTy (hc : CallR X (.type T) r) (hg : Gl X x) (hm : X.mg x = none) (hv : bootBuiltins x = some (.type T)) (ha : PA X (e :: es) t) (hn : x ≠ "__name__" := by decide) (hdb : (x == ("__debug__" : Str)) = false := by decide)
    (he : starEach (e :: es) X.env = (false, eval e X.env) :: starEach es X.env := by rfl) (hpl : (backTo pos (starEach es X.env)).any (·.1) = false := by rfl) : PE X (.Call (.Name x p) (e :: es) [] pos) (tCB r t) := by
  intro pins s σ H Q I h
  refine wpAny_Call_Name_kw (ld_blt I hg hm hv ?_ hn hdb)
  exact PyProof.Rows.callWith_type1 (thn (ha pos pins s σ H _ I h) fun us s1 ⟨vs, H1, I1, r1, q1⟩ => hc pins s1 σ H1 vs us Q I1 r1 q1) he hpl
end
end L2

namespace HT
open PySem PyProof.Rows

section
open PySem.SeqAt
open PySem.AutoSeq1 (wpAny_loadPart')
open PySem.MeetsSeq PySem.MeetsSeq2 PySem.MeetsSeq3

end

section
variable {prog : Program} {w : World} {A : Around} {E : Value → Shared → Prop} {s : Shared}

/-! ### t[a:b], not the whole -/
/-- a slice's bound as a place among n (d where it is left out) -/
def sIx (n d : Nat) : Option Int → Nat
  | none => d
  | some v => if v < 0 then (v + (n : Int)).toNat else min v.toNat n
theorem sIx_none (n d : Nat) : sIx n d none = d := rfl
theorem sIx_nat (n d k : Nat) : sIx n d (some (k : Int)) = min k n := by
  show (if (k : Int) < 0 then ((k : Int) + (n : Int)).toNat else min (k : Int).toNat n) = min k n
  rw [if_neg (by omega), Int.toNat_natCast]

end
end HT

namespace L2
open PySem PySem.Spec PyProof.Rows

/-! ### the parts of a slice -/
abbrev TO := St → Hp → (Option Int → Hp → Prop) → Prop
/-- a slice's part (left out, or an int) -/
def PO (X : Cx) (e : Option Expr) (t : TO) : Prop :=
  ∀ (pins : List (Addr × Obj)) (s : Shared) (σ : St) (H : Hp) (Q : Option Int → Hp → Prop), Inv X pins σ H s → t σ H Q →
    wpAny (model X.prog X.w) X.A (evalPart e X.env) (fun u s' => ∃ o H', Inv X pins σ H' s' ∧ IsPart u o ∧ Q o H') X.xe s
def tNoPart : TO := fun _ H Q => Q none H
def tPart (t : TE) : TO := fun σ H Q => t σ H fun x H1 => ∃ i, x = .int i ∧ Q (some i) H1

section
variable {X : Cx} {e : Expr} {te : TE} {lo hi : Option Expr} {tl th : TO} {pos p2 : Pos}

theorem po_none : PO X none tNoPart := by
  intro pins s σ H Q I h
  rw [evalPart_none]
  exact wpAny_pure ⟨none, H, I, .none, h⟩
theorem po_some (h : PE X e te) : PO X (some e) (tPart te) := by
  intro pins s σ H Q I hw
  rw [evalPart_some]
  refine thn (h pins s σ H _ I hw) fun u s1 ⟨x, H1, I1, r1, q1⟩ => ?_
  obtain ⟨i, rfl, q⟩ := q1
  obtain ⟨t, rfl⟩ := r1
  exact ⟨some i, H1, I1, .int i t, q⟩

/-- what a slice of a value is, by values: the slice object stands at sl -/
def SlR (X : Cx) (r : V → Option Int → Option Int → Hp → VK → Prop) : Prop :=
  ∀ (pins : List (Addr × Obj)) (s : Shared) (σ : St) (H : Hp) (x : V) (v vl vu : Value) (lo hi : Option Int) (sl : Addr) (Q : VK), Inv X pins σ H s → RelV x v → s.heap.IsSliceOf sl vl vu .none → IsPart vl lo → IsPart vu hi → r x lo hi H Q →
    ∃ T id, typeLookup (.type T) "__getitem__" = pure (some (.builtin id)) ∧ s.TypeIs v T ∧ wpAny (model X.prog X.w) X.A (getItem v (.ref sl)) (EP X pins σ Q) X.xe s
def tSl (r : V → Option Int → Option Int → Hp → VK → Prop) (te : TE) (tl th : TO) : TE := fun σ H Q => te σ H fun x H1 => tl σ H1 fun l H2 => th σ H2 fun u H3 => r x l u H3 Q
/-- a[lo:hi], any a -/
theorem pe_slice {r : V → Option Int → Option Int → Hp → VK → Prop} (hr : SlR X r) (he : PE X e te) (hl : PO X lo tl) (hu : PO X hi th) : PE X (.Subscript e (.Slice lo hi none p2) pos) (tSl r te tl th) := by
  intro pins s σ H Q I h
  refine Subscript_ (thn (he pins s σ H _ I h) fun v s1 ⟨x, H1, I1, r1, q1⟩ => ?_)
  refine wpAny_Slice (thn (hl pins s1 σ H1 _ I1 q1) fun vl s2 ⟨l, H2, I2, pl, q2⟩ => thn (hu pins s2 σ H2 _ I2 q2) fun vu s3 ⟨u, H3, I3, pu, q3⟩ => ?_)
  rw [evalPart_none]
  refine wpAny_pure ?_
  have I4 : Inv X pins σ H3 { s3 with heap := s3.heap.push { cls := .type "slice", data := .fields #[vl, vu, .none] } } := I3.kept (t' := s3.toks) fun b ob q => Heap.get?_push_of_some _ q
  obtain ⟨T, id, hT, ht, hg⟩ := hr pins { s3 with heap := s3.heap.push { cls := .type "slice", data := .fields #[vl, vu, .none] } } σ H3 x v vl vu l u s3.heap.objs.size Q I4 r1 (Heap.IsSliceOf.new ..) pl pu q3
  show wpAny (model X.prog X.w) X.A (subscriptTail e (.Slice lo hi none p2) v (.ref s3.heap.objs.size)) (EP X pins σ Q) X.xe { s3 with heap := s3.heap.push { cls := .type "slice", data := .fields #[vl, vu, .none] } }
  exact tail_any (ops := [.ref s3.heap.objs.size, v]) ht hT hg (by with_unfolding_all rfl)

/-- the items of xs[lo:hi] -/
def cutV (xs : List V) (lo hi : Option Int) : List V := (xs.drop (HT.sIx xs.length 0 lo)).take (HT.sIx xs.length xs.length hi - HT.sIx xs.length 0 lo)
theorem cutV_length (xs : List V) (lo hi : Option Int) : (cutV xs lo hi).length ≤ xs.length := by
  unfold cutV
  rw [List.length_take, List.length_drop]
  omega

/-! ### t < u, t + u -/
end
end L2

namespace L2
open PySem PySem.Spec PyProof.Rows

/-! ### places -/
/-- the place that an index of any sign means -/
def ixN (n : Nat) (i : Int) : Option Nat := if 0 ≤ i then (if i < n then some i.toNat else none) else if -(n : Int) ≤ i then some (i + n).toNat else none
def atI {α : Type} (xs : List α) (i : Int) : Option α := (ixN xs.length i).bind fun j => xs[j]?
theorem ixN_seq {n : Nat} {i : Int} {j : Nat} (h : ixN n i = some j) : seqIndex? i n = some j ∧ j < n ∧ -(n : Int) ≤ i ∧ i < n := by
  unfold ixN at h
  by_cases h0 : 0 ≤ i
  · rw [if_pos h0] at h
    by_cases h1 : i < n
    · rw [if_pos h1] at h
      have e : i.toNat = j := Option.some.inj h
      exact ⟨by rw [seqIndex_of h0 h1, e], by omega, by omega, h1⟩
    · rw [if_neg h1] at h; cases h
  · rw [if_neg h0] at h
    by_cases h1 : -(n : Int) ≤ i
    · rw [if_pos h1] at h
      have e : (i + n).toNat = j := Option.some.inj h
      exact ⟨by rw [seqIndex_neg (by omega) h1, e], by omega, h1, by omega⟩
    · rw [if_neg h1] at h; cases h
theorem atI_get {α : Type} {xs : List α} {i : Int} {v : α} (h : atI xs i = some v) : ∃ j, seqIndex? i xs.length = some j ∧ xs[j]? = some v ∧ j < xs.length ∧ -(xs.length : Int) ≤ i ∧ i < xs.length := by
  unfold atI at h
  cases e : ixN xs.length i with
  | none => rw [e] at h; cases h
  | some j =>
    rw [e] at h
    obtain ⟨h1, h2, h3, h4⟩ := ixN_seq e
    exact ⟨j, h1, h, h2, h3, h4⟩
theorem atI_nat {α : Type} {xs : List α} {j : Nat} {v : α} (h : xs[j]? = some v) : atI xs (j : Int) = some v := by
  have hj : j < xs.length := (List.getElem?_eq_some_iff.mp h).1
  have e : ixN xs.length (j : Int) = some j := by
    unfold ixN
    rw [if_pos (by omega), if_pos (by omega)]; simp
  unfold atI; rw [e]; exact h
theorem atI_last {α : Type} (xs : List α) (v : α) : atI (xs ++ [v]) (-1) = some v := by
  have hl : (xs ++ [v]).length = xs.length + 1 := by simp
  have e : ixN (xs ++ [v]).length (-1) = some xs.length := by
    unfold ixN
    rw [hl, if_neg (by decide), if_pos (by omega)]
    congr 1
    omega
  unfold atI
  rw [e]
  show (xs ++ [v])[xs.length]? = some v
  simp

/-! ### what may be subscripted -/
/-- what stands as an index of a plain subscript -/
def PlainIx (b : Expr) : Prop := ∀ o i, subscripted b false o i = operate [o, i] (getItem o i)
/-- a subscript by values -/
def IxR (X : Cx) (r : R2) : Prop :=
  ∀ (value slice : Expr) (pins : List (Addr × Obj)) (s : Shared) (σ : St) (H : Hp) (x y : V) (v u : Value) (Q : VK), Inv X pins σ H s → RelV x v → RelV y u → r x y H Q →
    subscripted slice false v u = operate [v, u] (getItem v u) → wpAny (model X.prog X.w) X.A (subscriptTail value slice v u) (EP X pins σ Q) X.xe s
/-- a call of a builtin's method by values: the receiver, the arguments -/
def MtR (X : Cx) (id : String) (r : V → List V → Hp → VK → Prop) : Prop :=
  ∀ (pins : List (Addr × Obj)) (s : Shared) (σ : St) (H : Hp) (x : V) (xs : List V) (v : Value) (us : List Value) (Q : VK), Inv X pins σ H s → RelV x v → Vals xs us → r x xs H Q →
    wpAny (model X.prog X.w) X.A (call (.builtin id) (v :: us)) (EP X pins σ Q) X.xe s
section
variable {X : Cx} {a b : Expr} {ta tb : TE} {pos : Pos}
/-- a[b] -/
theorem pe_ix {r : R2} (hr : IxR X r) (ha : PE X a ta) (hb : PE X b tb) (hs : PlainIx b) : PE X (.Subscript a b pos) (tOp r ta tb) := by
  intro pins s σ H Q I h
  exact Subscript_ (binT ha hb I h fun v u s2 x y H2 I2 rx ry q => hr a b pins s2 σ H2 x y v u Q I2 rx ry q (hs _ _))

def rIxL (K : PySem.W.Frag) : R2 := fun x y H Q => ∃ p xs i v, x = .ref p ∧ y = .int i ∧ SqL K H p xs ∧ atI xs i = some v ∧ Q v H
def rIxT (K : PySem.W.Frag) : R2 := fun x y H Q => ∃ p xs i v, x = .ref p ∧ y = .int i ∧ SqT K H p xs ∧ atI xs i = some v ∧ Q v H
theorem ix_list : IxR X (rIxL X.K) := by
  intro value slice pins s σ H x y v u Q I rx ry h hs
  obtain ⟨p, xs, i, z, rfl, rfl, hq, he, q⟩ := h
  cases rx
  obtain ⟨t, rfl⟩ := ry
  obtain ⟨its, r, pl, hz⟩ := I.list hq
  obtain ⟨j, h1, h2, h3, h4, h5⟩ := atI_get he
  obtain ⟨w, ew, rw'⟩ := r.get h2
  have hl := r.length
  have hn := line63
  have fin : EP X pins σ Q w s := ⟨z, H, I, rw', q⟩
  by_cases h0 : 0 ≤ i
  · have hj : i.toNat = j := by
      rw [seqIndex_of h0 h5] at h1
      exact Option.some.inj h1
    exact item_listR pl.isList h0 (by omega) (by rw [hj]; simpa using ew) fin hs
  · have hj : (i + (its.toArray.size : Int)).toNat = j := by
      rw [seqIndex_neg (by omega) h4] at h1
      rw [List.size_toArray, ← hl]
      exact Option.some.inj h1
    exact subscriptTail_builtinR (x := w) pl.isList.typeIs slot_list_getitem.lookup
      (wpAny_getItem_list_neg (Q := fun r s' => r = w ∧ EP X pins σ Q r s') pl.isList (by omega) (by rw [List.size_toArray] <;> omega) (by omega) (by rw [hj]; simpa using ew) ⟨rfl, fin⟩) hs
theorem ix_tup : IxR X (rIxT X.K) := by
  intro value slice pins s σ H x y v u Q I rx ry h hs
  obtain ⟨p, xs, i, z, rfl, rfl, hq, he, q⟩ := h
  cases rx
  obtain ⟨t, rfl⟩ := ry
  obtain ⟨its, r, pl, hz⟩ := I.tuple hq
  obtain ⟨j, h1, h2, h3, h4, h5⟩ := atI_get he
  obtain ⟨w, ew, rw'⟩ := r.get h2
  have hl := r.length
  have hn := line63
  have fin : EP X pins σ Q w s := ⟨z, H, I, rw', q⟩
  exact subscriptTail_builtinR (x := w) pl.typeIs slot_tuple_getitem.lookup
    (getItem_tuple (j := j) (Q := fun r s' => r = w ∧ EP X pins σ Q r s') pl (by omega) (by omega) (by rw [List.size_toArray, ← hl]; exact h1) (by simpa using ew) ⟨rfl, fin⟩) hs

/-! ### xs[i] = v, any sign -/
/-- the list's object behind a store -/
theorem mapSeq_set (its : List Value) (n j : Nat) (u : Value) : Obj.mapSeq (·.setIfInBounds j u) { cls := .type "list", data := .seq its.toArray n } = { cls := .type "list", data := .seq (its.set j u).toArray n } := by
  simp [Obj.mapSeq]
theorem Inv.lst {pins : List (Addr × Obj)} {σ : St} {H : Hp} {s : Shared} {p : Addr} {xs : List V} (I : Inv X pins σ H s) (h : H p = some (.lst xs)) :
    ∃ (its : List Value) (n : Nat), Vals xs its ∧ s.heap.get? p = some { cls := .type "list", data := .seq its.toArray n } ∧ xs.length ≤ sizeLine := by
  obtain ⟨z, its, n, r, e⟩ := I.hok p _ h
  exact ⟨its, n, r, e, z⟩
/-- the list at p is written by an update of its object -/
theorem Inv.lstUpd {pins : List (Addr × Obj)} {σ : St} {H : Hp} {s : Shared} {p : Addr} {xs ys : List V} {its its' : List Value} {n n' : Nat} {f : Obj → Obj} (I : Inv X pins σ H s) (h : H p = some (.lst xs))
    (ho : s.heap.get? p = some { cls := .type "list", data := .seq its.toArray n }) (hf : f { cls := .type "list", data := .seq its.toArray n } = { cls := .type "list", data := .seq its'.toArray n' }) (r : Vals ys its') (hz : ys.length ≤ sizeLine) (t : Nat) :
    Inv X pins σ (upd H p (.lst ys)) { s with heap := s.heap.update p f, toks := t } := by
  have e : (s.heap.update p f).get? p = some { cls := .type "list", data := .seq its'.toArray n' } := by
    rw [Heap.get?_update_self f ho (by rw [hf] <;> rfl), hf]
  refine I.write (x := p) (e := p) (by rw [h]; trivial) (.inl rfl) (fun b u hb q => (Heap.get?_update_other _ _ (Ne.symm hb)).trans q) ⟨_, e⟩ ?_
  exact ⟨hz, its', n', r, e⟩
def rSetL : V → V → V → Hp → (Hp → Prop) → Prop := fun o i v H Q => ∃ p xs k j, o = .ref p ∧ i = .int k ∧ H p = some (.lst xs) ∧ ixN xs.length k = some j ∧ Q (upd H p (.lst (xs.set j v)))
theorem set_list : PSet X rSetL := by
  intro pins s σ H o i v ov iv u Q I ro ri rv h
  obtain ⟨p, xs, k, j, rfl, rfl, hp, hj, q⟩ := h
  cases ro
  obtain ⟨t, rfl⟩ := ri
  obtain ⟨its, n, r, ho, hz⟩ := I.lst hp
  obtain ⟨h1, h2, h3, h4⟩ := ixN_seq hj
  have hl := r.length
  have hn := line63
  have I' : Inv X pins σ (upd H p (.lst (xs.set j v))) { s with heap := s.heap.update p (Obj.mapSeq (·.setIfInBounds j u)) } :=
    I.lstUpd hp ho (mapSeq_set its n j u) (r.set rv j) (by rw [List.length_set]; exact hz) s.toks
  by_cases h0 : 0 ≤ k
  · have hk : k.toNat = j := by
      rw [seqIndex_of h0 h4] at h1
      exact Option.some.inj h1
    exact PySem.W.ki_setAt ho h0 (by omega) (by rw [List.size_toArray, ← hl]; exact h4) (by rw [hk]; exact ⟨_, I', q⟩)
  · have hk : (k + (its.toArray.size : Int)).toNat = j := by
      rw [seqIndex_neg (by omega) h3] at h1
      rw [List.size_toArray, ← hl]
      exact Option.some.inj h1
    exact PySem.W.ki_setBack ho (by omega) (by rw [List.size_toArray, ← hl]; exact h3) (by omega) (by rw [hk]; exact ⟨_, I', q⟩)

/-! ### slices -/
theorem slice_bounds (lo hi : Option Int) (n : Nat) : (sliceBounds lo hi none n).1 = ((HT.sIx n 0 lo : Nat) : Int) ∧ (sliceBounds lo hi none n).2.1 = ((HT.sIx n n hi : Nat) : Int) ∧ (sliceBounds lo hi none n).2.2 = 1 := by
  refine ⟨?_, ?_, rfl⟩
  · cases lo with
    | none => simp [sliceBounds, HT.sIx]
    | some i =>
      simp only [sliceBounds, HT.sIx, Option.getD_none, show (1 : Int) > 0 by decide, if_true]
      by_cases h : i < 0
      · simp only [h, if_true] <;> omega
      · simp only [h, if_false] <;> omega
  · cases hi with
    | none => simp [sliceBounds, HT.sIx]
    | some i =>
      simp only [sliceBounds, HT.sIx, Option.getD_none, show (1 : Int) > 0 by decide, if_true]
      by_cases h : i < 0
      · simp only [h, if_true] <;> omega
      · simp only [h, if_false] <;> omega
theorem slicePick_cut (its : List Value) (lo hi : Option Int) : slicePick its.toArray lo hi none = ((its.drop (HT.sIx its.length 0 lo)).take (HT.sIx its.length its.length hi - HT.sIx its.length 0 lo)).toArray := by
  obtain ⟨h1, h2, h3⟩ := slice_bounds lo hi its.toArray.size
  unfold slicePick
  rw [h1, h2, h3]
  simp only [sliceRange_one, pick_run, List.size_toArray] <;> rfl
/-- xs[lo:hi] of a list: a new list -/
def rSlL (K : PySem.W.Frag) : V → Option Int → Option Int → Hp → VK → Prop := fun x lo hi H Q => ∃ a xs, x = .ref a ∧ SqL K H a xs ∧ ∀ p, H p = none → Q (.ref p) (upd H p (.lst (cutV xs lo hi)))
theorem sl_list : SlR X (rSlL X.K) := by
  intro pins s σ H x v vl vu lo hi sl Q I rx hs pl pu h
  obtain ⟨a, xs, rfl, hx, q⟩ := h
  cases rx
  obtain ⟨its, r, ht, hz⟩ := I.list hx
  have hlen := r.length
  refine ⟨"list", _, slot_list_getitem.lookup, ht.isList.typeIs, ?_⟩
  refine wpAny_getItem_list_slice ht.isList hs pl pu .none (by simp) ?_ (by rw [List.size_toArray] <;> omega)
  rw [slicePick_cut, ← hlen]
  refine ⟨.ref s.heap.objs.size, _, I.laid (t' := s.toks) (o := .lst (cutV xs lo hi)) (fun b ob q => Heap.get?_push_of_some _ q) (Nat.le_refl _) ?_, rfl, q _ (I.hok.fresh (Nat.le_refl _))⟩
  exact ⟨Nat.le_trans (cutV_length xs lo hi) hz, _, 0, (r.drop (HT.sIx xs.length 0 lo)).take (HT.sIx xs.length xs.length hi - HT.sIx xs.length 0 lo), Heap.get?_push_size _ rfl⟩

/-! ### in, not in: flat items -/
def flatV : V → Bool
  | .non => true
  | .bl _ => true
  | .int _ => true
  | .str _ => true
  | _ => false
/-- == of flat values -/
def eqV : V → V → Bool
  | .non, .non => true
  | .bl a, .bl b => a == b
  | .bl a, .int b => (if a then 1 else 0) == b
  | .int a, .bl b => a == (if b then 1 else 0)
  | .int a, .int b => a == b
  | .str a, .str b => a == b
  | _, _ => false
theorem eqAt_V {A : Around} {s : Shared} {y x : V} {u v : Value} (ry : RelV y u) (rx : RelV x v) (fy : flatV y = true) (fx : flatV x = true) : SeqAt.EqAt A s u v (eqV y x) := by
  cases y with
  | non =>
    cases ry
    cases x with
    | non => cases rx; exact SeqAt.EqAt.same _
    | bl b => cases rx; exact SeqAt.EqAt.none_bool b
    | int b => obtain ⟨t, rfl⟩ := rx; exact SeqAt.EqAt.none_int b t
    | str b => obtain ⟨t, rfl⟩ := rx; exact SeqAt.EqAt.none_str b t
    | _ => exact absurd (show false = true from fx) Bool.false_ne_true
  | bl a =>
    cases ry
    cases x with
    | non => cases rx; exact SeqAt.EqAt.bool_none a
    | bl b => cases rx; exact SeqAt.EqAt.bool_bool a b
    | int b => obtain ⟨t, rfl⟩ := rx; exact SeqAt.EqAt.bool_int a b t
    | str b => obtain ⟨t, rfl⟩ := rx; exact SeqAt.EqAt.bool_str a b t
    | _ => exact absurd (show false = true from fx) Bool.false_ne_true
  | int a =>
    obtain ⟨t', rfl⟩ := ry
    cases x with
    | non => cases rx; exact SeqAt.EqAt.int_none a t'
    | bl b => cases rx; exact SeqAt.EqAt.int_bool a t' b
    | int b => obtain ⟨t, rfl⟩ := rx; exact SeqAt.EqAt.int_int a t' b t
    | str b => obtain ⟨t, rfl⟩ := rx; exact SeqAt.EqAt.int_str a t' b t
    | _ => exact absurd (show false = true from fx) Bool.false_ne_true
  | str a =>
    obtain ⟨t', rfl⟩ := ry
    cases x with
    | non => cases rx; exact SeqAt.EqAt.str_none a t'
    | bl b => cases rx; exact SeqAt.EqAt.str_bool a t' b
    | int b => obtain ⟨t, rfl⟩ := rx; exact SeqAt.EqAt.str_int a t' b t
    | str b => obtain ⟨t, rfl⟩ := rx; exact SeqAt.EqAt.str_str a t' b t
    | _ => exact absurd (show false = true from fx) Bool.false_ne_true
  | _ => exact absurd (show false = true from fy) Bool.false_ne_true
/-- the items' answers, read off the values (a value's own answer does not lean on its token) -/
def eqU (x : V) (u : Value) : Bool := match u with
  | .none => eqV .non x
  | .bool b => eqV (.bl b) x
  | .int i _ => eqV (.int i) x
  | .str z _ => eqV (.str z) x
  | _ => false
theorem eqU_of {x y : V} {u : Value} (r : RelV y u) (f : flatV y = true) : eqU x u = eqV y x := by
  cases y with
  | non => cases r; rfl
  | bl b => cases r; rfl
  | int i => obtain ⟨t, rfl⟩ := r; rfl
  | str z => obtain ⟨t, rfl⟩ := r; rfl
  | _ => exact absurd (show false = true from f) Bool.false_ne_true
theorem mem_eqAt {A : Around} {s : Shared} {x : V} {v : Value} (rx : RelV x v) (fx : flatV x = true) : ∀ {xs : List V} {us : List Value}, Vals xs us → xs.all flatV = true → ∀ u ∈ us, SeqAt.EqAt A s u v (eqU x u)
  | _, _, .nil, _ => fun u hu => by cases hu
  | y :: xs, u :: us, .cons r t, f => fun u' hu => by
    rw [List.all_cons, Bool.and_eq_true] at f
    rcases List.mem_cons.mp hu with rfl | hu
    · rw [eqU_of r f.1]; exact eqAt_V r rx f.1 fx
    · exact mem_eqAt rx fx t f.2 u' hu

/-! ### len, list(x), tuple(x) of any list or tuple that is read -/
theorem call_len_seq : CallR X (.builtin "len") (fun xs H Q => ∃ p ys, xs = [.ref p] ∧ (SqL X.K H p ys ∨ SqT X.K H p ys) ∧ Q (.int ys.length) H) := by
  intro pins s σ H xs us Q I r h
  obtain ⟨p, ys, rfl, hq, q⟩ := h
  obtain ⟨u, rfl, rx⟩ := vals1 r
  cases rx
  have hn := line63
  rcases hq with hq | hq
  · obtain ⟨its, r', pl, hz⟩ := I.list hq
    have hlen := r'.length
    exact Calls.call_len_list pl.isList (by simp only [List.size_toArray] <;> omega) ⟨.int ys.length, H, I.tok _, ⟨s.toks + 1, by rw [List.size_toArray, hlen]⟩, q⟩
  · obtain ⟨its, r', pl, hz⟩ := I.tuple hq
    have hlen := r'.length
    exact len_tuple pl (by simp only [List.size_toArray] <;> omega) ⟨.int ys.length, H, I.tok _, ⟨s.toks + 1, by rw [List.size_toArray, hlen]⟩, q⟩
theorem call_list_of : CallR X (.type "list") (fun xs H Q => ∃ p ys, xs = [.ref p] ∧ (SqL X.K H p ys ∨ SqT X.K H p ys) ∧ ∀ l, H l = none → Q (.ref l) (upd H l (.lst ys))) := by
  intro pins s σ H xs us Q I r h
  obtain ⟨p, ys, rfl, hq, q⟩ := h
  obtain ⟨u, rfl, rx⟩ := vals1 r
  cases rx
  have fin : ∀ (its : List Value), Vals ys its → ys.length ≤ sizeLine → ∀ (h' : Heap) (c' : Nat), (∀ b o', s.heap.get? b = some o' → h'.get? b = some o') →
      h'.get? s.heap.objs.size = some { cls := .type "list", dict := none, data := .seq its.toArray c', slots := #[] } → EP X pins σ Q (.ref s.heap.objs.size) { s with heap := h' } := fun its r' hz h' c' kp e =>
    ⟨.ref s.heap.objs.size, _, I.laid (t' := s.toks) kp (Nat.le_refl _) (show ObjOk X.prog X.w _ h' _ (.lst ys) from ⟨hz, its, c', r', e⟩), rfl, q _ (I.hok.fresh (Nat.le_refl _))⟩
  rcases hq with hq | hq
  · obtain ⟨its, r', pl, hz⟩ := I.list hq
    have hlen := r'.length
    obtain ⟨o, ho, hc, n, hd⟩ := pl.isList
    exact call_list_seq p (.inl rfl) ho hc hd (fun h' c' kp e => fin its r' hz h' c' kp e) (by simp only [List.size_toArray] <;> omega)
  · obtain ⟨its, r', pl, hz⟩ := I.tuple hq
    have hlen := r'.length
    obtain ⟨o, ho, hc, n, hd⟩ := pl
    exact call_list_seq p (.inr rfl) ho hc hd (fun h' c' kp e => fin its r' hz h' c' kp e) (by simp only [List.size_toArray] <;> omega)

/-! ### the call of a builtin's method: o.m(..) -/
/-- the value is of that builtin type -/
def tyV (K : PySem.W.Frag) (T : String) (x : V) (H : Hp) : Prop := match x with
  | .str _ => T = "str"
  | .int _ => T = "int"
  | .ref p => (T = "list" ∧ ∃ xs, SqL K H p xs) ∨ (T = "tuple" ∧ ∃ o, K.lookup p = some o ∧ o.cls = .type "tuple" ∧ o.dict = none) ∨
      (T = "dict" ∧ ((∃ kvs, H p = some (.dK kvs)) ∨ ∃ kvs, H p = some (.dT kvs))) ∨ (T = "set" ∧ ∃ S n, H p = some (.set S n))
  | _ => False
theorem tyV_is {pins : List (Addr × Obj)} {σ : St} {H : Hp} {s : Shared} {T : String} {x : V} {v : Value} (I : Inv X pins σ H s) (r : RelV x v) (ty : tyV X.K T x H) :
    s.TypeIs v T ∧ ∀ a, v = .ref a → ∃ ob, s.heap.get? a = some ob ∧ ob.dict = none := by
  cases x with
  | str z =>
    obtain ⟨t, rfl⟩ := r
    cases (show T = "str" from ty)
    exact ⟨typeIs_str s z t, fun _ e => nomatch e⟩
  | int i =>
    obtain ⟨t, rfl⟩ := r
    cases (show T = "int" from ty)
    exact ⟨typeIs_int s i t, fun _ e => nomatch e⟩
  | ref p =>
    cases r
    rcases ty with ⟨rfl, xs, hq⟩ | ⟨rfl, o, hk, hc, hd⟩ | ⟨rfl, hk⟩ | ⟨rfl, S, n, hk⟩
    · obtain ⟨its, _, pl, _⟩ := I.list hq
      refine ⟨pl.isList.typeIs, fun a e => ?_⟩
      cases e
      obtain ⟨o, n, e, c, hd, _⟩ := pl
      exact ⟨o, e, hd⟩
    · refine ⟨⟨o, I.kIn p o hk, hc⟩, fun a e => ?_⟩
      cases e
      exact ⟨o, I.kIn _ o hk, hd⟩
    · have z : ∃ o, s.heap.get? p = some o ∧ o.ExactDict := by
        rcases hk with ⟨kvs, hk⟩ | ⟨kvs, hk⟩
        · obtain ⟨_, _, _, _, o, _, _, e, ex, _⟩ := I.hok p _ hk
          exact ⟨o, e, ex⟩
        · obtain ⟨_, _, _, _, o, _, _, e, ex, _⟩ := I.hok p _ hk
          exact ⟨o, e, ex⟩
      obtain ⟨o, e, ex⟩ := z
      refine ⟨⟨o, e, ex.1⟩, fun a e2 => ?_⟩
      cases e2
      exact ⟨o, e, ex.2.1⟩
    · obtain ⟨o, _, _, _, e, ex, _⟩ := I.hok p _ hk
      refine ⟨⟨o, e, ex.1⟩, fun a e2 => ?_⟩
      cases e2
      exact ⟨o, e, ex.2.1⟩
  | _ => exact False.elim ty
def tBM0 (K : PySem.W.Frag) (T : String) (r : V → List V → Hp → VK → Prop) (to : TE) : TE := fun σ H Q => to σ H fun x H1 => tyV K T x H1 ∧ r x [] H1 Q
def tBM (K : PySem.W.Frag) (T : String) (r : V → List V → Hp → VK → Prop) (to : TE) (t : TA) : TE := fun σ H Q => to σ H fun x H1 => tyV K T x H1 ∧ t σ H1 fun xs H2 => r x xs H2 Q
variable {o e : Expr} {es : List Expr} {to : TE} {t : TA} {name : Str} {apos cpos : Pos} {T id : String} {r : V → List V → Hp → VK → Prop}
theorem pe_bm0 (pa : PlainAttrs T) (slot : Slot T name id) (hty : typeOf (.builtin id) = pure (.type "method_descriptor")) (hm : MtR X id r) (ho : PE X o to)
    (hbase : attributeBase o name X.env (eval o X.env) = eval o X.env := by rfl) (hline : (apos.endLine == cpos.line) = true := by rfl) : PE X (.Call (.Attribute o name apos) [] [] cpos) (tBM0 X.K T r to) := by
  intro pins s σ H Q I h
  refine wpAny_Call_method0_late hbase hline (thn (ho pins s σ H _ I h) fun v s1 ⟨x, H1, I1, r1, ty, q1⟩ => ?_)
  obtain ⟨h1, h2⟩ := tyV_is I1 r1 ty
  exact ⟨T, id, pa, slot, hty, h1, h2, Calls.callWith_builtin rfl (PySem.evalArgs_none (hm pins s1 σ H1 x [] v [] Q I1 r1 .nil q1))⟩
theorem pe_bm (pa : PlainAttrs T) (slot : Slot T name id) (hty : typeOf (.builtin id) = pure (.type "method_descriptor")) (hm : MtR X id r) (ho : PE X o to) (ha : PA X (e :: es) t)
    (hbase : attributeBase o name X.env (eval o X.env) = eval o X.env := by rfl)
    (hfew : ((backTo cpos (starEach (e :: es) X.env)).all (fun x => !x.1) && (backToKw cpos (keywordEach [] X.env)).all (fun x => x.1.isSome)
      && decide ((e :: es).length + ([] : List Keyword).length + (if ([] : List Keyword).isEmpty then 0 else 1) < 30)) = true := by rfl)
    (hline : (apos.endLine == cpos.line) = true := by rfl) (hs : starEach (e :: es) X.env = (false, eval e X.env) :: starEach es X.env := by rfl) (hplain : (backTo cpos (starEach es X.env)).any (·.1) = false := by rfl) :
    PE X (.Call (.Attribute o name apos) (e :: es) [] cpos) (tBM X.K T r to t) := by
  intro pins s σ H Q I h
  refine wpAny_Call_method_late hbase hfew hline rfl (thn (ho pins s σ H _ I h) fun v s1 ⟨x, H1, I1, r1, ty, q1⟩ => ?_)
  obtain ⟨h1, h2⟩ := tyV_is I1 r1 ty
  refine ⟨T, id, pa, slot, hty, h1, h2, ?_⟩
  have hA := ha cpos pins s1 σ H1 _ I1 q1
  rw [hs] at hA ⊢
  refine Calls.callWith_builtin (by show (false || (backTo cpos (starEach es X.env)).any (·.1)) = false; rw [hplain] <;> rfl) (Calls.evalArgs_plain ?_)
  exact thn hA fun us s2 ⟨vs, H2, I2, r2, q2⟩ => hm pins s2 σ H2 x vs v us Q I2 r1 r2 q2
/- xs.append(e), list.index on a module's tuple .. are MtR facts of 06m -/
end
end L2

namespace L2
open PySem PySem.Spec PyProof.Rows

def MtM (X : Cx) (id : String) (r : V → List V → Hp → VK → Prop) : Prop :=
  ∀ (pins : List (Addr × Obj)) (s : Shared) (σ : St) (H : Hp) (x : V) (xs : List V) (v : Value) (us : List Value) (Q : VK), Inv X pins σ H s → RelV x v → Vals xs us → r x xs H Q →
    wpAny (model X.prog X.w) X.A (call (.builtin id) (v :: us)) (EP X pins σ Q) X.xe s

/-! ### lists of values -/
theorem Vals.one : ∀ {x : V} {us : List Value}, Vals [x] us → ∃ u, us = [u] ∧ RelV x u
  | _, _, .cons r .nil => ⟨_, rfl, r⟩
theorem Vals.two : ∀ {x y : V} {us : List Value}, Vals [x, y] us → ∃ u v, us = [u, v] ∧ RelV x u ∧ RelV y v
  | _, _, _, .cons r (.cons q .nil) => ⟨_, _, rfl, r, q⟩
theorem Vals.zero : ∀ {us : List Value}, Vals [] us → us = []
  | _, .nil => rfl
theorem Vals.dropLast {xs : List V} {us : List Value} (h : Vals xs us) : Vals xs.dropLast us.dropLast := by
  induction h with
  | nil => exact .nil
  | cons r t ih =>
    cases t with
    | nil => exact .nil
    | cons q t' => exact .cons r ih
theorem Vals.rep {xs : List V} {us : List Value} (h : Vals xs us) : ∀ k : Nat, Vals (List.replicate k xs).flatten (List.replicate k us).flatten
  | 0 => .nil
  | k + 1 => by
    rw [List.replicate_succ, List.replicate_succ, List.flatten_cons, List.flatten_cons]
    exact Vals.append h (Vals.rep h k)
theorem erase_last {α : Type} (l : List α) : l.eraseIdx (l.length - 1) = l.dropLast := by
  induction l with
  | nil => rfl
  | cons a r ih =>
    cases r with
    | nil => rfl
    | cons b r =>
      have e : (a :: b :: r).length - 1 = ((b :: r).length - 1) + 1 := by
        have h1 : (a :: b :: r).length = r.length + 2 := rfl
        have h2 : (b :: r).length = r.length + 1 := rfl
        omega
      rw [e, List.eraseIdx_cons_succ, ih]
      all_goals rfl
theorem foldl_rep (its : List Value) : ∀ (k : Nat) (acc : List Value),
    List.foldl (fun x1 x2 => x1 ++ x2) acc.toArray (List.replicate k its.toArray) = (acc ++ (List.replicate k its).flatten).toArray
  | 0, acc => by simp
  | k + 1, acc => by
    have e : acc.toArray ++ its.toArray = (acc ++ its).toArray := by simp
    have e2 : (acc ++ its) ++ (List.replicate k its).flatten = acc ++ (List.replicate (k + 1) its).flatten := by
      rw [List.replicate_succ, List.flatten_cons, List.append_assoc]
    rw [← e2, ← foldl_rep its k (acc ++ its), ← e, List.replicate_succ, List.foldl_cons]

section
variable {X : Cx} {pins : List (Addr × Obj)} {σ : St} {H : Hp} {s : Shared} {l b : Addr} {xs ys zs : List V}

/-! ### the two steps: a tracked list is rewritten, a new list is laid -/
theorem Inv.lset {its its' : List Value} {n : Nat} {f : Array Value → Array Value} {t' : Nat} (I : Inv X pins σ H s) (hH : H l = some (.lst xs))
    (e : s.heap.get? l = some { cls := .type "list", data := .seq its.toArray n }) (hf : f its.toArray = its'.toArray) (hv : Vals ys its') (hz : ys.length ≤ sizeLine) :
    Inv X pins σ (upd H l (.lst ys)) { s with heap := s.heap.update l (Obj.mapSeq f), toks := t' } := by
  have q := PySem.IsL.update e f
  rw [hf] at q
  refine I.write (x := l) (e := l) (by rw [hH]; exact trivial) (.inl rfl) (fun b' u hb hu => (Heap.get?_update_other s.heap (Obj.mapSeq f) (Ne.symm hb)).trans hu) ⟨_, q⟩ ?_
  exact ⟨hz, its', _, hv, q⟩
theorem Inv.lnew {its : List Value} {t' : Nat} (I : Inv X pins σ H s) (hv : Vals ys its) (hz : ys.length ≤ sizeLine) :
    Inv X pins σ (upd H s.heap.objs.size (.lst ys)) { s with heap := s.heap.push { cls := .type "list", data := .seq its.toArray }, toks := t' } :=
  I.laid (fun _ _ q => Heap.get?_push_of_some _ q) (Nat.le_refl _) ⟨hz, its, 0, hv, Heap.get?_push_size _ rfl⟩
theorem Inv.fresh (I : Inv X pins σ H s) : H s.heap.objs.size = none := I.hok.fresh (Nat.le_refl _)
theorem Inv.lstM (I : Inv X pins σ H s) (hH : H l = some (.lst xs)) : xs.length ≤ sizeLine ∧ ∃ (its : List Value) (n : Nat), Vals xs its ∧ xs.length = its.length ∧ s.heap.get? l = some { cls := .type "list", data := .seq its.toArray n } := by
  obtain ⟨z, its, n, r, e⟩ := I.hok l _ hH
  exact ⟨z, its, n, r, r.length, e⟩

theorem notLongL {n : Nat} (h : n ≤ sizeLine) : Builtin.List.listTooLong n = false := by
  unfold Builtin.List.listTooLong
  exact decide_eq_false (by omega)
end

section
variable {X : Cx}

/-! ### methods -/
def rAppend : V → List V → Hp → VK → Prop := fun x vs H Q => ∃ l xs y, x = .ref l ∧ vs = [y] ∧ H l = some (.lst xs) ∧ xs.length < sizeLine ∧ Q .non (upd H l (.lst (xs ++ [y])))
theorem mt_append : MtM X "list.append" rAppend := by
  intro pins s σ H x vs v us Q I rx rv h
  obtain ⟨l, xs, y, rfl, rfl, hH, hz, q⟩ := h
  cases rx
  obtain ⟨u, rfl, ru⟩ := rv.one
  obtain ⟨z, its, n, r, hl, e⟩ := I.lstM hH
  refine call_meets F.slot_list_append ⟨_, e, rfl⟩ F.entry_list_append (F.args_list_append_2 _ _) (PySem.list_append l its.toArray n u (by rw [List.size_toArray]; omega)) ⟨e, ?_⟩
  refine ⟨.non, _, I.lset (its' := its ++ [u]) hH e (by simp) (r.append (.cons ru .nil)) ?_, rfl, q⟩
  rw [List.length_append, List.length_singleton]
  omega

def rExtend : V → List V → Hp → VK → Prop := fun x vs H Q => ∃ l b xs zs, x = .ref l ∧ vs = [.ref b] ∧ H l = some (.lst xs) ∧ H b = some (.lst zs) ∧ xs.length + zs.length ≤ sizeLine ∧ Q .non (upd H l (.lst (xs ++ zs)))
theorem mt_extend : MtM X "list.extend" rExtend := by
  intro pins s σ H x vs v us Q I rx rv h
  obtain ⟨l, b, xs, zs, rfl, rfl, hH, hB, hz, q⟩ := h
  cases rx
  obtain ⟨u, rfl, ru⟩ := rv.one
  cases ru
  obtain ⟨z, its, n, r, hl, e⟩ := I.lstM hH
  obtain ⟨z2, its2, n2, r2, hl2, e2⟩ := I.lstM hB
  have hsz : its.toArray.size + its2.toArray.size ≤ sizeLine := by rw [List.size_toArray, List.size_toArray]; omega
  have hlong : ¬ (!its.toArray.isEmpty && Builtin.List.listTooLong (its.toArray.size + its2.toArray.size)) = true := by
    rw [notLongL hsz, Bool.and_false]
    exact Bool.false_ne_true
  refine call_meets F.slot_list_extend ⟨_, e, rfl⟩ F.entry_list_extend (F.args_list_extend_2 _ _)
    (AutoSeq1.list_extend_list_list_0 l its.toArray n b its2.toArray n2 hlong (by rw [List.size_toArray]; omega) (by omega)) ⟨e, e2, ?_⟩
  refine ⟨.non, _, I.lset (its' := its ++ its2) hH e (by simp) (r.append r2) ?_, rfl, q⟩
  rw [List.length_append]
  omega

def rPop : V → List V → Hp → VK → Prop := fun x vs H Q => ∃ l xs y, x = .ref l ∧ vs = [] ∧ H l = some (.lst xs) ∧ xs[xs.length - 1]? = some y ∧ Q y (upd H l (.lst xs.dropLast))
theorem mt_pop : MtM X "list.pop" rPop := by
  intro pins s σ H x vs v us Q I rx rv h
  obtain ⟨l, xs, y, rfl, rfl, hH, hy, q⟩ := h
  cases rx
  have hus := rv.zero
  subst hus
  obtain ⟨z, its, n, r, hl, e⟩ := I.lstM hH
  obtain ⟨u, hu, ru⟩ := r.get hy
  have hy' : its.toArray[its.toArray.size - 1]? = some u := by
    show its.toArray[its.length - 1]? = some u
    rw [← Array.getElem?_toList, ← hl]
    exact hu
  refine call_meets F.slot_list_pop ⟨_, e, rfl⟩ F.entry_list_pop (F.args_list_pop_1 _) (MeetsSeq.list_pop_last l its.toArray n u hy' (by rw [List.size_toArray]; omega)) ⟨e, ?_⟩
  refine ⟨y, _, I.lset (its' := its.dropLast) hH e ?_ r.dropLast ?_, ru, q⟩
  · show its.toArray.eraseIdxIfInBounds (its.toArray.size - 1) = its.dropLast.toArray
    rw [List.size_toArray, List.eraseIdxIfInBounds_toArray, erase_last]
  · rw [List.length_dropLast]
    omega

/-! ### list + list, list += list, list * int -/
def rCat : R2 := fun x y H Q => ∃ l b xs zs, x = .ref l ∧ y = .ref b ∧ H l = some (.lst xs) ∧ H b = some (.lst zs) ∧ xs.length + zs.length ≤ sizeLine ∧ ∀ p, H p = none → Q (.ref p) (upd H p (.lst (xs ++ zs)))
theorem op_cat : OpR X (binaryOp .Add) rCat := by
  intro pins s σ H x y v u Q I rx ry h
  obtain ⟨l, b, xs, zs, rfl, rfl, hH, hB, hz, q⟩ := h
  cases rx
  cases ry
  obtain ⟨z, its, n, r, hl, e⟩ := I.lstM hH
  obtain ⟨z2, its2, n2, r2, hl2, e2⟩ := I.lstM hB
  refine PySem.P.add_list e e2 ?_ (by rw [List.size_toArray, List.size_toArray]; omega)
  have ea : its.toArray ++ its2.toArray = (its ++ its2).toArray := by simp
  rw [ea]
  exact ⟨.ref _, _, I.lnew (t' := s.toks) (r.append r2) (by rw [List.length_append]; omega), rfl, q _ I.fresh⟩
/-- a list times an int (a negative one is nothing) -/
def rRep : R2 := fun x y H Q => ∃ l k xs, x = .ref l ∧ y = .int k ∧ H l = some (.lst xs) ∧ -(2 ^ 63) ≤ k ∧ k < 2 ^ 63 ∧ xs.length * k.toNat ≤ sizeLine ∧
  ∀ p, H p = none → Q (.ref p) (upd H p (.lst (List.replicate k.toNat xs).flatten))
theorem len_rep {α : Type} (xs : List α) (k : Nat) : (List.replicate k xs).flatten.length = k * xs.length := by
  induction k with
  | zero => simp
  | succ k ih => rw [List.replicate_succ, List.flatten_cons, List.length_append, ih, Nat.succ_mul, Nat.add_comm]
theorem op_rep : OpR X (binaryOp .Mult) rRep := by
  intro pins s σ H x y v u Q I rx ry h
  obtain ⟨l, k, xs, rfl, rfl, hH, h1, h2, hz, q⟩ := h
  cases rx
  obtain ⟨t, rfl⟩ := ry
  obtain ⟨z, its, n, r, hl, e⟩ := I.lstM hH
  have hlen : its.toArray.size * k.toNat ≤ sizeLine := by rw [List.size_toArray, ← hl]; exact hz
  have hcap : ¬ its.toArray.size * k.toNat > (2 ^ 63 - 1) / 8 := by
    have : (sizeLine : Nat) ≤ (2 ^ 63 - 1) / 8 := by decide
    omega
  have hfit : ¬ (!Builtin.List.listFitsIndex k) = true := by
    rw [fitsIndex_both h1 h2]
    exact Bool.false_ne_true
  have hlong : ¬ Builtin.List.listTooLong (its.toArray.size * k.toNat) = true := by
    rw [notLongL hlen]
    exact Bool.false_ne_true
  have hnew : List.foldl (fun x1 x2 => x1 ++ x2) #[] (List.replicate (if its.toArray.isEmpty = true then 0 else k.toNat) its.toArray) = (List.replicate k.toNat its).flatten.toArray := by
    have f0 : ∀ m : Nat, List.foldl (fun x1 x2 => x1 ++ x2) #[] (List.replicate m its.toArray) = (List.replicate m its).flatten.toArray := fun m => by
      have := foldl_rep its m []
      rw [List.nil_append] at this
      exact this
    rw [f0]
    cases its with
    | nil => simp
    | cons a r' => rw [if_neg (by simp)]
  refine wpAny_binaryOp_repeat_ref (T := "list") (U := "int") (by decide) ⟨_, e, rfl⟩ (fun s' => typeIs_int s' k t) noFill_list_mul F.fills_int_mul F.slot_int_rmul repeat_list F.slot_int_index.lookup
    (call_meets F.slot_int_rmul (typeIs_int s k t) F.entry_int_rmul (F.args_int_rmul_2 _ _) (int___rmul___int_list k t l its.toArray n)
      ⟨e, rfl, ⟨_, e, rfl⟩, call_meets F.slot_list_mul ⟨_, e, rfl⟩ F.entry_list_mul (F.args_list_mul_2 _ _) (AutoListH.list___mul___list_int_3 l its.toArray n k t hfit hcap hlong) ⟨e, ?_⟩⟩)
  rw [hnew]
  exact ⟨.ref _, _, I.lnew (t' := s.toks) (r.rep k.toNat) (by rw [len_rep, Nat.mul_comm]; exact hz), rfl, q _ I.fresh⟩

/-! ### del xs[i] -/
end

/-! ### xs[a:b] = ys -/
section
variable {prog : Program} {w : World} {A : Around} {E : Value → Shared → Prop} {s : Shared}
set_option maxRecDepth 100000 in
end

end L2

namespace L2
open PySem PySem.Spec PyProof.Rows

theorem Vals.ints : ∀ {ns : List Int} {us : List Value}, Vals (ns.map V.int) us → IntsAre us ns
  | [], us, h => by
    rw [List.map_nil] at h
    cases h
    exact IntsAre.nil
  | n :: ns, us, h => by
    rw [List.map_cons] at h
    cases h with
    | cons r t =>
      obtain ⟨k, rfl⟩ := r
      exact IntsAre.cons n k (Vals.ints t)
theorem Vals.ref1 {a : Addr} {us : List Value} (r : Vals [V.ref a] us) : us = [Value.ref a] := by
  cases r with
  | cons r t =>
    cases t
    cases r
    rfl
theorem Vals.int2 {i j : Int} {us : List Value} (r : Vals [V.int i, V.int j] us) : ∃ t u, us = [Value.int i t, Value.int j u] := by
  cases r with
  | cons r t =>
    cases t with
    | cons r2 t2 =>
      cases t2
      obtain ⟨t, rfl⟩ := r
      obtain ⟨u, rfl⟩ := r2
      exact ⟨t, u, rfl⟩

/-! ### the library's walks over a list of ints, kept objects alone -/
section
variable {prog : Program} {w : World} {A : Around} {E : Value → Shared → Prop} {s : Shared} {l : Addr} {its : List Value} {ns : List Int} {Q : Value → Shared → Prop}
theorem max_raw (hh : A.handled = none) (hl : s.heap.IsList l its.toArray) (hi : IntsAre its ns) (hne : 0 < ns.length)
    (h : ∀ h' tk M t', (∀ b o, s.heap.get? b = some o → h'.get? b = some o) → M ∈ ns → (∀ a, a ∈ ns → a ≤ M) → Q (.int M t') { s with heap := h', toks := tk }) : wpAny (model prog w) A (call (.builtin "max") [.ref l]) Q E s := by
  obtain ⟨xs, e⟩ := hi.allInts.items
  have hn : numsOf (intItems xs).toList = ns := by rw [← e]; exact hi.numsOf
  rw [nums_intItems] at hn
  subst hn
  rw [e] at hl
  have hsz : 0 < xs.size := by simpa using hne
  refine PySem.max_intList hh hl hsz fun v h' tk hv hk => ?_
  obtain ⟨t, rfl⟩ := intItems_at hv
  obtain ⟨h1, h2⟩ := argBest_gt (numAt xs) (xs.size - 1)
  refine h h' tk _ t hk ?_ fun a ha => ?_
  · rw [numAt_eq]; exact PySem.getD_mem (by rw [List.length_map, Array.length_toList]; omega)
  · obtain ⟨j, hj, rfl⟩ := mem_getD ha
    rw [List.length_map, Array.length_toList] at hj
    rw [← numAt_eq]; exact h2 j (by omega)
theorem min_raw (hh : A.handled = none) (hl : s.heap.IsList l its.toArray) (hi : IntsAre its ns) (hne : 0 < ns.length)
    (h : ∀ h' tk M t', (∀ b o, s.heap.get? b = some o → h'.get? b = some o) → M ∈ ns → (∀ a, a ∈ ns → M ≤ a) → Q (.int M t') { s with heap := h', toks := tk }) : wpAny (model prog w) A (call (.builtin "min") [.ref l]) Q E s := by
  obtain ⟨xs, e⟩ := hi.allInts.items
  have hn : numsOf (intItems xs).toList = ns := by rw [← e]; exact hi.numsOf
  rw [nums_intItems] at hn
  subst hn
  rw [e] at hl
  have hsz : 0 < xs.size := by simpa using hne
  refine PySem.min_intList hh hl hsz fun v h' tk hv hk => ?_
  obtain ⟨t, rfl⟩ := intItems_at hv
  obtain ⟨h1, h2⟩ := argBest_lt (numAt xs) (xs.size - 1)
  refine h h' tk _ t hk ?_ fun a ha => ?_
  · rw [numAt_eq]; exact PySem.getD_mem (by rw [List.length_map, Array.length_toList]; omega)
  · obtain ⟨j, hj, rfl⟩ := mem_getD ha
    rw [List.length_map, Array.length_toList] at hj
    rw [← numAt_eq]; exact h2 j (by omega)
end

/-! ### the calls, by values (CallR of 03t; MtR of 06l) -/
section
variable {X : Cx}
/-- max(xs), min(xs) of a list of ints -/
def rMax (K : PySem.W.Frag) : List V → Hp → VK → Prop := fun vs H Q => ∃ (a : Addr) (ns : List Int), vs = [V.ref a] ∧ SqL K H a (ns.map V.int) ∧ 0 < ns.length ∧ ∀ m, m ∈ ns → (∀ y, y ∈ ns → y ≤ m) → Q (.int m) H
def rMin (K : PySem.W.Frag) : List V → Hp → VK → Prop := fun vs H Q => ∃ (a : Addr) (ns : List Int), vs = [V.ref a] ∧ SqL K H a (ns.map V.int) ∧ 0 < ns.length ∧ ∀ m, m ∈ ns → (∀ y, y ∈ ns → m ≤ y) → Q (.int m) H
theorem cr_max (hc : X.calm = true) : CallR X (.builtin "max") (rMax X.K) := by
  intro pins s σ H vs us Q I r h
  obtain ⟨a, ns, rfl, hs, hne, q⟩ := h
  obtain ⟨its, rv, hl, _⟩ := I.list hs
  rw [Vals.ref1 r]
  exact max_raw (I.ok.hd hc) hl.isList rv.ints hne fun h' tk m t' hk h1 h2 => ⟨.int _, H, I.kept hk, ⟨_, rfl⟩, q m h1 h2⟩
theorem cr_min (hc : X.calm = true) : CallR X (.builtin "min") (rMin X.K) := by
  intro pins s σ H vs us Q I r h
  obtain ⟨a, ns, rfl, hs, hne, q⟩ := h
  obtain ⟨its, rv, hl, _⟩ := I.list hs
  rw [Vals.ref1 r]
  exact min_raw (I.ok.hd hc) hl.isList rv.ints hne fun h' tk m t' hk h1 h2 => ⟨.int _, H, I.kept hk, ⟨_, rfl⟩, q m h1 h2⟩

/-! sorted, sort (fewer than 64 items: the library's own bound) -/
end

/-! ### list.index, flat items -/

/-! ### any(xs), all(xs) of a list of bools -/

/-! ### == and != of data at any depth: none, bools, ints, texts, lists, tuples -/
end L2

namespace L2
open PySem PySem.Spec PyProof.Rows
abbrev CellAt (h : Heap) (c : Addr) (v : Option Value) : Prop := h.IsCell c v
def relS (scope sc : Scope) : Scope :=
  { scope with names := scope.names.map fun (n, k) => if (k == .free && sc.kind == .function && sc.names.lookup n == some .cell) then (n, .cell) else (n, k) }

def cloFrom (cells : List (Str × Addr)) : List (Str × NameKind) → List (Str × Addr) → List (Str × Addr)
  | [], acc => acc
  | (n, k) :: r, acc => if k == .free then cloFrom cells r ((n, (cells.lookup n).getD 0) :: acc) else cloFrom cells r acc

theorem closure_loop (env : Env) (f : Str × NameKind → List (Str × Addr) → Sem (ForInStep (List (Str × Addr))))
    (hf : ∀ n k c, f (n, k) c = if k == .free then (do let a ← cellOf env n; pure (.yield ((n, a) :: c))) else pure (.yield c)) :
    ∀ (names : List (Str × NameKind)) (acc : List (Str × Addr)), (∀ y ∈ names, y.2 = .free → ∃ c, env.cells.lookup y.1 = some c) → forIn names acc f = pure (cloFrom env.cells names acc)
  | [], acc, _ => by rw [List.forIn_nil]; rfl
  | (n, k) :: r, acc, h => by
    rw [List.forIn_cons, hf]
    have ih := fun acc => closure_loop env f hf r acc fun y hy => h y (List.mem_cons_of_mem _ hy)
    unfold cloFrom
    by_cases hk : (k == NameKind.free) = true
    · rw [if_pos hk, if_pos hk]
      obtain ⟨c, hc⟩ := h (n, k) List.mem_cons_self (by simpa using hk)
      have e : cellOf env n = pure c := by unfold cellOf; rw [hc]
      rw [e]
      have e2 : (env.cells.lookup n).getD 0 = c := by rw [hc]; rfl
      rw [e2]
      exact ih _
    · rw [if_neg hk, if_neg hk]
      exact ih _
theorem closure_ok {scope : Scope} {env : Env} (h : ∀ y ∈ scope.names, y.2 = .free → ∃ c, env.cells.lookup y.1 = some c) : closureFor scope env = pure (cloFrom env.cells scope.names []) := by
  simp only [closureFor]
  rw [closure_loop env _ (fun n k c => rfl) scope.names [] h]
  rfl

theorem mem_lookup {α : Type} : ∀ {l : List (Str × α)} {n : Str} {c : α}, (n, c) ∈ l → ∃ c', l.lookup n = some c'
  | (k, v) :: r, n, c, h => by
    rw [List.lookup_cons]
    cases hb : n == k with
    | true => exact ⟨_, rfl⟩
    | false =>
      rcases List.mem_cons.mp h with e | h
      · cases e; simp at hb
      · exact mem_lookup h

theorem cloFrom_mem {cells : List (Str × Addr)} : ∀ {names : List (Str × NameKind)} {acc : List (Str × Addr)} {n : Str} {c : Addr}, (n, c) ∈ cloFrom cells names acc → (n, c) ∈ acc ∨ ((n, .free) ∈ names ∧ c = (cells.lookup n).getD 0)
  | [], _, _, _, h => .inl h
  | (m, k) :: r, acc, n, c, h => by
    unfold cloFrom at h
    split at h
    · rename_i hk
      have hk : k = .free := by simpa using hk
      rcases cloFrom_mem h with h | ⟨h1, h2⟩
      · rcases List.mem_cons.mp h with e | h
        · cases e; exact .inr ⟨hk ▸ List.mem_cons_self, rfl⟩
        · exact .inl h
      · exact .inr ⟨List.mem_cons_of_mem _ h1, h2⟩
    · rcases cloFrom_mem h with h | ⟨h1, h2⟩
      · exact .inl h
      · exact .inr ⟨List.mem_cons_of_mem _ h1, h2⟩
theorem cloFrom_acc {cells : List (Str × Addr)} : ∀ {names : List (Str × NameKind)} {acc : List (Str × Addr)} {p : Str × Addr}, p ∈ acc → p ∈ cloFrom cells names acc
  | [], _, _, h => h
  | (m, k) :: r, acc, p, h => by
    unfold cloFrom
    split
    · exact cloFrom_acc (List.mem_cons_of_mem _ h)
    · exact cloFrom_acc h
theorem cloFrom_has {cells : List (Str × Addr)} : ∀ {names : List (Str × NameKind)} {acc : List (Str × Addr)} {n : Str}, (n, .free) ∈ names → (n, (cells.lookup n).getD 0) ∈ cloFrom cells names acc
  | (m, k) :: r, acc, n, h => by
    unfold cloFrom
    rcases List.mem_cons.mp h with e | h
    · cases e
      exact cloFrom_acc List.mem_cons_self
    · split
      · exact cloFrom_has h
      · exact cloFrom_has h

theorem cells_mem : ∀ {names : List (Str × NameKind)} {h : Heap} {acc : List (Str × Addr)} {x : Str} {c : Addr}, (x, c) ∈ cellsFrom h.objs.size names acc →
    (x, c) ∈ acc ∨ ((x, .cell) ∈ names ∧ h.objs.size ≤ c ∧ CellAt (pushCells h names) c none)
  | [], _, _, _, _, h => .inl h
  | (n, k) :: r, h, acc, x, c, hm => by
    unfold cellsFrom at hm
    unfold pushCells
    split at hm
    · rename_i hk
      rw [if_pos hk]
      have hk : k = .cell := by simpa using hk
      rw [← Heap.size_push h { cls := .type "cell", data := .cell none }] at hm
      rcases cells_mem hm with hm | ⟨h1, h2, h3⟩
      · rcases List.mem_cons.mp hm with e | hm
        · cases e
          exact .inr ⟨hk ▸ List.mem_cons_self, Nat.le_refl _, _, pushCells_keeps r _ _ _ (Heap.get?_push_size _ rfl), rfl⟩
        · exact .inl hm
      · rw [Heap.size_push] at h2
        exact .inr ⟨List.mem_cons_of_mem _ h1, Nat.le_of_succ_le h2, h3⟩
    · rename_i hk
      rw [if_neg hk]
      rcases cells_mem hm with hm | ⟨h1, h2, h3⟩
      · exact .inl hm
      · exact .inr ⟨List.mem_cons_of_mem _ h1, h2, h3⟩
theorem cells_acc : ∀ {names : List (Str × NameKind)} {n : Nat} {acc : List (Str × Addr)} {p : Str × Addr}, p ∈ acc → p ∈ cellsFrom n names acc
  | [], _, _, _, h => h
  | (m, k) :: r, n, acc, p, h => by
    unfold cellsFrom
    split
    · exact cells_acc (List.mem_cons_of_mem _ h)
    · exact cells_acc h
theorem cells_has : ∀ {names : List (Str × NameKind)} {n : Nat} {acc : List (Str × Addr)} {x : Str}, (x, .cell) ∈ names → ∃ c, (x, c) ∈ cellsFrom n names acc
  | (m, k) :: r, n, acc, x, h => by
    unfold cellsFrom
    rcases List.mem_cons.mp h with e | h
    · cases e
      exact ⟨n, cells_acc List.mem_cons_self⟩
    · split
      · exact cells_has h
      · exact cells_has h
theorem cells_inj : ∀ {names : List (Str × NameKind)} {h : Heap} {acc : List (Str × Addr)} {x y : Str} {c : Addr}, (∀ p ∈ acc, p.2 < h.objs.size) → (∀ x y c, (x, c) ∈ acc → (y, c) ∈ acc → x = y) →
    (x, c) ∈ cellsFrom h.objs.size names acc → (y, c) ∈ cellsFrom h.objs.size names acc → x = y
  | [], _, _, _, _, _, _, hi, h1, h2 => hi _ _ _ h1 h2
  | (n, k) :: r, h, acc, x, y, c, hl, hi, h1, h2 => by
    unfold cellsFrom at h1 h2
    split at h1
    · rename_i hk
      rw [if_pos hk] at h2
      rw [← Heap.size_push h { cls := .type "cell", data := .cell none }] at h1 h2
      refine cells_inj (h := h.push _) (fun p hp => ?_) (fun x y c a b => ?_) h1 h2
      · rw [Heap.size_push]
        rcases List.mem_cons.mp hp with rfl | hp
        · exact Nat.lt_succ_self _
        · exact Nat.lt_succ_of_lt (hl p hp)
      · rcases List.mem_cons.mp a with e | a <;> rcases List.mem_cons.mp b with e' | b
        · cases e; cases e'; rfl
        · cases e; exact absurd (hl _ b) (Nat.lt_irrefl _)
        · cases e'; exact absurd (hl _ a) (Nat.lt_irrefl _)
        · exact hi _ _ _ a b
    · rename_i hk
      rw [if_neg hk] at h2
      exact cells_inj hl hi h1 h2

theorem newEnv_comp {M : Model} {A : Around} {E : Value → Shared → Prop} {s : Shared} {scope : Scope} {globals : Addr} {closure : List (Str × Addr)} {qual : Str} {func : Option Addr} {code : Value} {around : Env} {builtins : Addr} {Q : Env → Shared → Prop}
    (h : Q (newEnv scope s.heap.objs.size globals (cellsFrom (s.heap.objs.size + 1) scope.names closure) qual func code (some around) builtins)
      { s with heap := pushCells (s.heap.push { cls := .type "dict", data := .dict #[] }) scope.names }) :
    wpAny M A (newFunctionEnv scope globals closure [] qual func code (some around) builtins) Q E s := by
  simp only [newFunctionEnv, Option.isSome_some, if_true]
  refine wpAny_bind (wpAny_alloc ?_)
  refine wpAny_bind (wpAny_layCells _ (fun n k c => rfl) scope.names closure _ _ ?_)
  rw [show ({ s with heap := s.heap.push { cls := .type "dict", data := .dict #[] } } : Shared).heap.objs.size = s.heap.objs.size + 1 from Heap.size_push ..]
  rw [List.forIn_nil]
  exact wpAny_bind (wpAny_pure (wpAny_pure h))

/-- every name of the written scope, in the scope that runs -/
theorem lookup_relS {sc : Scope} : ∀ {names : List (Str × NameKind)} {x : Str} {k : NameKind},
    (names.map fun (n, k) => if (k == NameKind.free && sc.kind == .function && sc.names.lookup n == some .cell) then (n, NameKind.cell) else (n, k)).lookup x = some k →
    ∃ k', names.lookup x = some k' ∧ (k = k' ∨ (k' = .free ∧ k = .cell))
  | [], _, _, h => by simp at h
  | (n, k₀) :: r, x, k, h => by
    have ih := @lookup_relS sc r x k
    have h' : List.lookup x ((if (k₀ == NameKind.free && sc.kind == .function && sc.names.lookup n == some .cell) = true then (n, NameKind.cell) else (n, k₀)) :: (r.map _)) = some k := h
    cases hx : x == n with
    | true =>
      simp only [List.lookup_cons, hx]
      by_cases hc : (k₀ == NameKind.free && sc.kind == .function && sc.names.lookup n == some .cell) = true
      · rw [if_pos hc] at h'
        simp only [List.lookup_cons, hx] at h'
        cases h'
        simp only [Bool.and_eq_true, beq_iff_eq] at hc
        exact ⟨k₀, rfl, .inr ⟨hc.1.1, rfl⟩⟩
      · rw [if_neg hc] at h'
        simp only [List.lookup_cons, hx] at h'
        cases h'
        exact ⟨_, rfl, .inl rfl⟩
    | false =>
      simp only [List.lookup_cons, hx]
      by_cases hc : (k₀ == NameKind.free && sc.kind == .function && sc.names.lookup n == some .cell) = true
      · rw [if_pos hc] at h'
        simp only [List.lookup_cons, hx] at h'
        exact ih h'
      · rw [if_neg hc] at h'
        simp only [List.lookup_cons, hx] at h'
        exact ih h'

/-- the names of a comprehension's block: its own (with their places in N), or captured -/
structure BlkOk (N : List Str) (sc scope : Scope) (own : List (Str × Nat)) : Prop where
  kind : scope.kind = .function
  uniq : ∀ y ∈ scope.names, scope.names.lookup y.1 = some y.2
  ix : ∀ p ∈ own, N[p.2]? = some p.1
  free : ∀ y ∈ scope.names, y.2 = .free → sc.names.lookup y.1 = some .cell ∨ sc.names.lookup y.1 = some .free
  own : ∀ y ∈ scope.names, y.2 = .local ∨ y.2 = .cell → y.1 ∈ own.map (·.1) ∨ y.1 ∉ N
/-- the slots of the block's own names forgotten -/
def wipe (σ : St) : List Nat → St
  | [] => σ
  | v :: vs => (wipe σ vs).set v none
theorem wipe_length (σ : St) : ∀ vs : List Nat, (wipe σ vs).length = σ.length
  | [] => rfl
  | v :: vs => by unfold wipe; rw [List.length_set, wipe_length σ vs]
theorem wipe_some {σ : St} {i : Nat} {x : V} : ∀ {vs : List Nat}, (wipe σ vs)[i]? = some (some x) → σ[i]? = some (some x) ∧ i ∉ vs
  | [], h => ⟨h, by simp⟩
  | v :: vs, h => by
    unfold wipe at h
    by_cases hi : v = i
    · subst hi
      by_cases hv : v < (wipe σ vs).length
      · rw [List.getElem?_set_self hv] at h; cases h
      · rw [List.getElem?_eq_none (by simpa using hv)] at h; cases h
    · rw [List.getElem?_set_ne hi] at h
      obtain ⟨h1, h2⟩ := wipe_some h
      exact ⟨h1, by simp only [List.mem_cons, not_or]; exact ⟨fun e => hi e.symm, h2⟩⟩

/-- the context of a block that starts at s, its iterator's objects at fp -/
abbrev Cx.blk (X : Cx) (s : Shared) (H : Hp) (scope : Scope) (cenv : Env) (fp : List Addr) : Cx := { X with s_0 := s, H_0 := H, env := cenv, outer := X.stack, ex := fp, fn := fun x => scope.names.lookup x == some .cell, pn := [], xe := fun _ _ => False }
section
variable {X : Cx} {pins : List (Addr × Obj)} {σ : St} {H : Hp} {s : Shared}
theorem block_start {scope : Scope} {own : List (Str × Nat)} {fp : List Addr} (I : Inv X pins σ H s) (ok : BlkOk X.N X.env.scope scope own) (hN : X.N.Nodup) (hfp : ∀ b ∈ fp, FpOk X pins H b ∧ b < s.heap.objs.size) :
    Inv (X.blk s H scope (compEnvC scope (cellsFrom (s.heap.objs.size + 1) scope.names (cloFrom X.env.cells scope.names [])) s.heap.objs.size X.env) fp) [] (wipe σ (own.map (·.2))) H { s with heap := pushCells (s.heap.push { cls := .type "dict", data := .dict #[] }) scope.names } := by
  have hfree : ∀ y ∈ scope.names, y.2 = .free → ∃ c, X.env.cells.lookup y.1 = some c := fun y hy e => by
    rcases ok.free y hy e with k | k
    · exact I.ok.has _ (.inl k)
    · exact I.ok.has _ (.inr k)
  generalize hcenv : compEnvC scope (cellsFrom (s.heap.objs.size + 1) scope.names (cloFrom X.env.cells scope.names [])) s.heap.objs.size X.env = cenv
  have kp : ∀ b o, s.heap.get? b = some o → (pushCells (s.heap.push { cls := .type "dict", data := .dict #[] }) scope.names).get? b = some o := fun b o e => pushCells_keeps _ _ _ _ (Heap.get?_push_of_some _ e)
  have hL : cenv.locals = s.heap.objs.size := by rw [← hcenv]; rfl
  have hcl : cenv.cells = cellsFrom (s.heap.objs.size + 1) scope.names (cloFrom X.env.cells scope.names []) := by rw [← hcenv]; rfl
  have hsc : cenv.scope = relS scope X.env.scope := by rw [← hcenv]; rfl
  rw [← Heap.size_push s.heap { cls := .type "dict", data := .dict #[] }] at hcl
  have cm : ∀ {y c}, (y, c) ∈ cloFrom X.env.cells scope.names [] → X.env.cells.lookup y = some c ∧ c < s.heap.objs.size := fun {y c} hm => by
    rcases cloFrom_mem hm with hm | ⟨h1, rfl⟩
    · cases hm
    · obtain ⟨c, hc⟩ := hfree _ h1 rfl
      rw [hc]
      obtain ⟨w, z⟩ := I.cell _ _ hc
      exact ⟨rfl, z.lt⟩
  have mem : ∀ {y c}, cenv.cells.lookup y = some c → (X.env.cells.lookup y = some c ∧ c < s.heap.objs.size) ∨ (s.heap.objs.size + 1 ≤ c ∧ CellAt (pushCells (s.heap.push { cls := .type "dict", data := .dict #[] }) scope.names) c none) := fun {y c} e => by
    rw [hcl] at e
    rcases cells_mem (PySem.mem_of_lookup e) with hm | ⟨_, h2, h3⟩
    · exact .inl (cm hm)
    · rw [Heap.size_push] at h2; exact .inr ⟨h2, h3⟩
  have look : ∀ {y}, scope.names.lookup y = some .free → ∃ c, cenv.cells.lookup y = some c ∧ X.env.cells.lookup y = some c := fun {y} hl => by
    have hy : (y, NameKind.free) ∈ scope.names := PySem.mem_of_lookup hl
    obtain ⟨c', e'⟩ := mem_lookup (cells_acc (names := scope.names) (n := (s.heap.push { cls := .type "dict", data := .dict #[] }).objs.size) (cloFrom_has (cells := X.env.cells) (acc := []) hy))
    rw [← hcl] at e'
    refine ⟨c', e', ?_⟩
    rw [hcl] at e'
    rcases cells_mem (PySem.mem_of_lookup e') with hm | ⟨h1, _, _⟩
    · exact (cm hm).1
    · have := ok.uniq _ h1
      rw [hl] at this; cases this
  have okB : (X.blk s H scope cenv fp).Ok := by
    refine ⟨I.ok.mod, by show cenv.scope.kind = _; rw [hsc]; exact ok.kind, by show cenv.globals = _; rw [← hcenv]; exact I.ok.glob, by show cenv.builtins = _; rw [← hcenv]; exact I.ok.blt, by show s.heap.objs.size ≤ cenv.locals; rw [hL]; exact Nat.le_refl _,
      fun y z c e1 e2 => ?_, fun y hy => ?_, fun y c z e => ?_, I.ok.hd, I.ok.frames, .inl rfl, fun b hb => ⟨?_, fun y c e z => ?_⟩, I.bs, Nat.le_trans I.ok.bsz I.sz, fun b o e hb => ?_, fun b hb z => ?_, I.stack, I.stkFree⟩
    · have e1 : cenv.cells.lookup y = some c := e1
      have e2 : cenv.cells.lookup z = some c := e2
      rw [hcl] at e1 e2
      refine cells_inj (fun p hp => ?_) (fun y z c a b => I.ok.inj y z c (cm a).1 (cm b).1) (PySem.mem_of_lookup e1) (PySem.mem_of_lookup e2)
      rw [Heap.size_push]
      exact Nat.lt_succ_of_lt (cm (y := p.1) (c := p.2) hp).2
    · show ∃ c, cenv.cells.lookup y = some c
      have key : ∀ k, cenv.kindOf y = some k → (k = .cell ∨ k = .free) → ∃ c, cenv.cells.lookup y = some c := fun k hk hk' => by
        unfold Env.kindOf at hk
        rw [hsc] at hk
        obtain ⟨k', e, r⟩ := lookup_relS hk
        have : k' = .cell ∨ k' = .free := by
          rcases r with rfl | ⟨rfl, _⟩
          · exact hk'
          · exact .inr rfl
        rcases this with rfl | rfl
        · obtain ⟨c, hm⟩ := cells_has (n := (s.heap.push { cls := .type "dict", data := .dict #[] }).objs.size) (acc := cloFrom X.env.cells scope.names []) (PySem.mem_of_lookup e)
          obtain ⟨c', e'⟩ := mem_lookup hm
          exact ⟨c', by rw [hcl]; exact e'⟩
        · obtain ⟨c, h1, _⟩ := look e
          exact ⟨c, h1⟩
      rcases hy with hy | hy
      · exact key _ hy (.inl rfl)
      · exact key _ hy (.inr rfl)
    · have z : (scope.names.lookup y == some NameKind.cell) = true := z
      have z : scope.names.lookup y = some .cell := by simpa using z
      have e : cenv.cells.lookup y = some c := e
      rw [hcl] at e
      rcases cells_mem (PySem.mem_of_lookup e) with hm | ⟨_, h2, _⟩
      · rcases cloFrom_mem hm with hm | ⟨h1, _⟩
        · cases hm
        · have q := ok.uniq _ h1
          rw [z] at q; cases q
      · rw [Heap.size_push] at h2
        exact Nat.le_of_succ_le h2
    · show b ≠ cenv.locals
      rw [hL]; exact Nat.ne_of_lt (hfp b hb).2
    · have e : cenv.cells.lookup y = some c := e
      rcases mem e with ⟨h1, _⟩ | ⟨h1, _⟩
      · exact (hfp b hb).1.2.2.2.2.1 y c h1 z
      · have h2 : s.heap.objs.size + 1 ≤ b := by rw [← z]; exact h1
        exact absurd (Nat.lt_of_lt_of_le (hfp b hb).2 (Nat.le_of_succ_le h2)) (Nat.lt_irrefl _)
    · rcases (hfp b hb).1.2.2.2.1 with z | z
      · exact I.ok.noex b o e z
      · exact absurd (Nat.lt_of_lt_of_le (Heap.lt_size e) (Nat.le_trans I.ok.bsz z)) (Nat.lt_irrefl _)
    · rcases List.mem_cons.mp (I.stkSub b z) with z | z
      · exact (hfp b hb).1.2.1 z
      · exact (hfp b hb).1.2.2.1 z
  refine ⟨okB, rfl, I.bare, Un.kept kp, ⟨fun _ => none, ?_, fun i y av e1 e2 e3 => ?_⟩, fun y c e => ?_, ?_, fun y c e => ?_, fun p hp => ?_, I.hok.kept kp, by rw [wipe_length]; exact I.len⟩
  · show Heap.Ns _ cenv.locals _
    rw [hL]
    exact Heap.Ns.keeps (Heap.Ns.new ..) fun b o e => pushCells_keeps _ _ _ _ e
  · obtain ⟨e2, hne⟩ := wipe_some e2
    have hfr : scope.names.lookup y = some .free ∧ (cenv.kindOf y = some .cell ∨ cenv.kindOf y = some .free) := by
      have key : ∀ k, cenv.scope.names.lookup y = some k → k = .local ∨ k = .cell ∨ k = .free → scope.names.lookup y = some .free ∧ (cenv.kindOf y = some .cell ∨ cenv.kindOf y = some .free) := fun k hk hk' => by
        have hk0 := hk
        rw [hsc] at hk
        obtain ⟨k', e, r⟩ := lookup_relS hk
        have no : ¬ (k' = .local ∨ k' = .cell) := fun hh => by
          rcases ok.own _ (PySem.mem_of_lookup e) hh with e' | e'
          · obtain ⟨p, hp, hpy⟩ := List.mem_map.mp e'
            have e3 := ok.ix p hp
            have : p.1 = y := hpy
            rw [this] at e3
            exact hne (List.mem_map.mpr ⟨p, hp, nodup_ix hN e3 e1⟩)
          · exact e' (List.mem_of_getElem? e1)
        rcases r with rfl | ⟨rfl, rfl⟩
        · rcases hk' with rfl | rfl | rfl
          · exact absurd (.inl rfl) no
          · exact absurd (.inr rfl) no
          · exact ⟨e, .inr hk0⟩
        · exact ⟨e, .inl hk0⟩
      have e3 : Vis cenv.scope y := e3
      rcases e3 with e3 | e3 | e3
      · exact key _ e3 (.inl rfl)
      · exact key _ e3 (.inr (.inl rfl))
      · exact key _ e3 (.inr (.inr rfl))
    obtain ⟨m, hn, hl⟩ := I.loc
    have hvis : Vis X.env.scope y := (ok.free _ (PySem.mem_of_lookup hfr.1) rfl).elim (fun k => .inr (.inl k)) (fun k => .inr (.inr k))
    obtain ⟨w, r, q⟩ := hl i y av e1 e2 hvis
    refine ⟨w, r, .inr ⟨hfr.2, ?_⟩⟩
    obtain ⟨c, h1, h2⟩ := look hfr.1
    rcases q with ⟨k, _⟩ | ⟨_, c', e', z⟩
    · have k : X.env.scope.names.lookup y = some .local := k
      rcases ok.free _ (PySem.mem_of_lookup hfr.1) rfl with k' | k' <;> rw [show X.env.scope.names.lookup y = _ from k'] at k <;> cases k
    · rw [h2] at e'; cases e'
      exact ⟨c, h1, z.keeps kp⟩
  · have e : cenv.cells.lookup y = some c := e
    rcases mem e with ⟨h1, _⟩ | ⟨_, z⟩
    · obtain ⟨w, z⟩ := I.cell y c h1
      exact ⟨w, z.keeps kp⟩
    · exact ⟨_, z⟩
  · show H cenv.locals = none
    rw [hL]; exact I.hok.fresh (Nat.le_refl _)
  · have e : cenv.cells.lookup y = some c := e
    rcases mem e with ⟨h1, _⟩ | ⟨h1, _⟩
    · exact I.freeC y c h1
    · exact I.hok.fresh (Nat.le_of_succ_le h1)
  · exact absurd (show p ∈ ([] : List (Addr × Obj)) ++ [] from hp) (by simp)

/-- an item appended to a tracked list -/
theorem app_ok {E : Value → Shared → Prop} {D : Addr} {xs : List V} {y : V} {v : Value} {Q : Value → Shared → Prop} (I : Inv X pins σ H s) (hD : H D = some (.lst xs)) (hz : xs.length < sizeLine) (r : RelV y v)
    (h : ∀ s', Inv X pins σ (upd H D (.lst (xs ++ [y]))) s' → Q .none s') : wpAny (model X.prog X.w) X.A (call (.builtin "list.append") [.ref D, v]) Q E s := by
  obtain ⟨hz', its, n, ri, e⟩ := I.hok D _ hD
  have hl := ri.length
  refine append_at (hsz := by rw [List.size_toArray]; omega) e fun h' sb ho' => ?_
  refine h { s with heap := h' } (I.write (t' := s.toks) (by rw [hD]; trivial) (.inl rfl) (fun b u hb q => (sb.2 b hb).trans q) ⟨_, ho'⟩ ⟨by rw [List.length_append]; exact hz, its ++ [v], n + 1, ri.append (.cons r .nil), ?_⟩)
  rw [ho']
  simp

/-- a clause's tests -/
def PTs (X : Cx) (ifs : List Expr) (t : TT) : Prop :=
  ∀ (pins : List (Addr × Obj)) (s : Shared) (σ : St) (H : Hp) (Q : Bool → Hp → Prop), Inv X pins σ H s → t σ H Q →
    wpAny (model X.prog X.w) X.A (forIn ifs true fun c r => if r = true then do let ok ← isTrue c X.env (eval c X.env); pure (ForInStep.yield ok) else pure (ForInStep.yield r)) (TP X pins σ Q) X.xe s
def tYes : TT := fun _ H Q => Q true H
theorem pts_nil : PTs X [] tYes := fun _ _ _ H _ I h => wpAny_tests_nil ⟨H, I, h⟩
theorem pts_one {c : Expr} {t : TT} (h : PT X c t) : PTs X [c] t := fun pins s σ H Q I hw => wpAny_tests_one (h pins s σ H Q I hw)
end

theorem thnF {α : Type} {t : Sem α} {Q Q' : α → Shared → Prop} {M : Model} {A : Around} {E : Value → Shared → Prop} {s : Shared} (h : wpAny M A t Q (fun _ _ => False) s) (hQ : ∀ a s, Q a s → Q' a s) : wpAny M A t Q' E s := wpAny_mono h hQ fun _ _ z => False.elim z

/-- the loop of a list comprehension's block, the target of any form (codeAny_compLoop_tests asks a target that no tuple goes to; statement and proof follow it, PyProof/CompMap.lean:41-61, with the step letOwnedTupleGo kept) -/
theorem compLoop_any {prog : Program} {w : World} {A : Around} {R : Result → Shared → Prop} {s : Shared} {elt target iter : Expr} {ifs : List Expr} {scope : Scope} {pos : Pos} {it acc : Value} {env : Env} (I : Nat → Shared → Prop)
    (turn : ∀ n s, I n s → wpAny (model prog w) A (pyNext it) (fun r s₁ => match r with
      | none => R (.ok .next) s₁
      | some v => wpAny (model prog w) A (letOwnedTupleGo target it v) (fun _ s₁' => wpAny (model prog w) A (assign target env v) (fun _ s₂ =>
          wpAny (model prog w) A (forIn ifs true fun c r => if r = true then do let ok ← isTrue c env (eval c env); pure (ForInStep.yield ok) else pure (ForInStep.yield r)) (fun ok s₃ =>
            if ok = true then wpAny (model prog w) A (eval elt env) (fun x s₄ =>
              wpAny (model prog w) A (call (.builtin "list.append") [acc, x]) (fun _ s₅ => ∃ m, m < n ∧ I m s₅) (notedBy (model prog w) A env fun e s' => R (.error e) s') s₄) (notedBy (model prog w) A env fun e s' => R (.error e) s') s₃
            else ∃ m, m < n ∧ I m s₃) (notedBy (model prog w) A env fun e s' => R (.error e) s') s₂) (notedBy (model prog w) A env fun e s' => R (.error e) s') s₁') (notedBy (model prog w) A env fun e s' => R (.error e) s') s₁) (notedBy (model prog w) A env fun e s' => R (.error e) s') s)
    (n : Nat) (h : I n s) :
    codeAny (model prog w) A (.compLoop (.ListComp elt [⟨target, iter, ifs, 0⟩] scope pos) 0 it acc env) R s := by
  refine codeAny_loop rfl I (fun n s hI => ?_) n h
  show wpAny _ A ((compTurn (.ListComp elt [⟨target, iter, ifs, 0⟩] scope pos) 0 it acc env).onRaise (fun x => do noteFrame x env; theTreesLotGoes x)) _ _ s
  refine wpAny_noted ?_
  rw [compTurn_list]
  refine wpAny_bind (wpAny_standAt (wpAny_bind (wpAny_mono (turn n s hI) (fun r s₁ h₁ => ?_) fun _ _ h' => h')))
  cases r with
  | none => exact wpAny_pure h₁
  | some v =>
    refine wpAny_bind (wpAny_mono h₁ (fun _ s₁' h₁' => ?_) fun _ _ h' => h')
    refine wpAny_bind (wpAny_mono h₁' (fun _ s₂ h₂ => wpAny_bind (wpAny_mono h₂ (fun ok s₃ h₃ => ?_) fun _ _ h' => h')) fun _ _ h' => h')
    cases ok with
    | false => exact wpAny_pure ⟨rfl, h₃⟩
    | true =>
      exact wpAny_bind (wpAny_bind (wpAny_mono h₃ (fun x s₄ h₄ => wpAny_bind (wpAny_mono h₄ (fun _ s₅ h₅ => wpAny_pure (wpAny_pure ⟨rfl, h₅⟩)) fun _ _ h' => h')) fun _ _ h' => h'))

section
variable {X : Cx}
/-- [elt for target in iter if ..]: D the new list; W by the turn and a measure, Nx what a turn is to reach -/
def tLc (wi : TI) (g : TG) (tt : TT) (te : TE) (vs : List Nat) : TE := fun σ H Q => wi σ H fun J H1 => ∀ D, H1 D = none → ∃ W : Nat → Nat → Hp → Prop, (∃ m, W 0 m (upd H1 D (.lst []))) ∧ ∀ i m H, W i m H →
  (J.stop i H ∧ Q (.ref D) H) ∨ (J.go i H ∧ ∃ Nx : Hp → Prop, (∀ H', Nx H' → ∃ m', m' < m ∧ W (i + 1) m' H') ∧ ∀ x H', J.yld i H x H' → g x (wipe σ vs) H' fun σ2 H2 => wipe σ2 vs = wipe σ vs ∧ tt σ2 H2 fun b H3 =>
    if b = true then te σ2 H3 fun y H4 => ∃ acc, H4 D = some (.lst acc) ∧ acc.length < sizeLine ∧ Nx (upd H4 D (.lst (acc ++ [y]))) else Nx H3)
theorem lc_core {pins : List (Addr × Obj)} {s : Shared} {σ : St} {H : Hp} {Q : VK} {elt tg iter : Expr} {ifs : List Expr} {scope : Scope} {own : List (Str × Nat)} {pos pos' : Pos} {wi : TI} {g : TG} {tt : TT} {te : TE} {use : Option (Value → Sem Unit)} {Qf : Value → Shared → Prop}
    (hc : X.calm = true) (hN : X.N.Nodup) (I : Inv X pins σ H s) (hi : PI X tg iter wi) (ok : BlkOk X.N X.env.scope scope own)
    (hg : ∀ (s : Shared) (H : Hp) (C : Addr) (cl : List (Str × Addr)) (fp : List Addr), PG (X.blk s H scope (compEnvC scope cl C X.env) fp) tg g) (ht : ∀ (s : Shared) (H : Hp) (C : Addr) (cl : List (Str × Addr)) (fp : List Addr), PTs (X.blk s H scope (compEnvC scope cl C X.env) fp) ifs tt)
    (he : ∀ (s : Shared) (H : Hp) (C : Addr) (cl : List (Str × Addr)) (fp : List Addr), PE (X.blk s H scope (compEnvC scope cl C X.env) fp) elt te) (hs : ∀ x, foldedSetIterable iter X.env x = pure x)
    (h : tLc wi g tt te (own.map (·.2)) σ H Q)
    (hRR : ∀ D C s' m H', Inv X pins σ H' s' → Q (.ref D) H' → s'.heap.Ns C m → FpOk X pins H' C → compPost (model X.prog X.w) X.A X.xe use Qf (.ref D) C (.ok .next) s') :
    wpAny (model X.prog X.w) X.A (comprehension (.ListComp elt [⟨tg, iter, ifs, 0⟩] scope pos) scope X.env pos' (newList []) false (eval iter X.env) use) Qf X.xe s := by
  have hfree : ∀ y ∈ scope.names, y.2 = .free → ∃ c, X.env.cells.lookup y.1 = some c := fun y hy e => by
    rcases ok.free y hy e with k | k
    · exact I.ok.has _ (.inl k)
    · exact I.ok.has _ (.inr k)
  refine wpAny_comprehension_free (use := use) rfl hs (closure_ok hfree) ok.kind (fun y hy e => by rw [ok.uniq y hy, e])
    (thn (hi pins s σ H _ I h) fun xv s1 hx => thn hx fun itv s2 h2 => ?_)
  obtain ⟨it, fp, tn, J, H2, e, I2, T, st2, f2, q⟩ := h2
  subst e
  refine wpAny_newObj_type (newEnv_comp ?_) (by show 0 ≤ sizeLine; decide)
  generalize hD : s2.heap.objs.size = D
  have hDn : H2 D = none := I2.hok.fresh (Nat.le_of_eq hD)
  obtain ⟨W, ⟨m0, w0⟩, turn⟩ := q D hDn
  -- the new list
  generalize hs3 : ({ s2 with heap := s2.heap.push { cls := .type "list", data := .seq ([] : List Value).toArray } } : Shared) = s3
  have I3 : Inv X pins σ (upd H2 D (.lst [])) s3 := by
    rw [← hs3]
    refine I2.laid (t' := s2.toks) (fun b o e => Heap.get?_push_of_some _ e) (Nat.le_of_eq hD) ⟨Nat.zero_le _, [], 0, .nil, ?_⟩
    rw [← hD]
    exact Heap.get?_push_size _ rfl
  have h3 : s3.heap = s2.heap.push { cls := .type "list", data := .seq ([] : List Value).toArray } := by rw [← hs3]
  have sz : ∀ b ∈ fp, b < s2.heap.objs.size := fun b hb => by
    obtain ⟨o, e, _⟩ := T.obj _ _ st2 b hb
    exact Heap.lt_size e
  have f3 : ∀ b ∈ fp, FpOk X pins (upd H2 D (.lst [])) b ∧ b < s3.heap.objs.size := fun b hb => by
    have hlt := sz b hb
    refine ⟨⟨?_, (f2 b hb).2⟩, by rw [h3, Heap.size_push]; exact Nat.lt_succ_of_lt hlt⟩
    rw [upd_ne (by rw [← hD]; exact Nat.ne_of_lt hlt)]
    exact (f2 b hb).1
  have st3 : tn 0 s3.heap := T.keep _ _ _ st2 fun b _ o e => by rw [h3]; exact Heap.get?_push_of_some _ e
  have I4 := block_start I3 ok hN f3
  have pg := hg s3 (upd H2 D (.lst [])) s3.heap.objs.size (cellsFrom (s3.heap.objs.size + 1) scope.names (cloFrom X.env.cells scope.names [])) fp
  have pt := ht s3 (upd H2 D (.lst [])) s3.heap.objs.size (cellsFrom (s3.heap.objs.size + 1) scope.names (cloFrom X.env.cells scope.names [])) fp
  have pe := he s3 (upd H2 D (.lst [])) s3.heap.objs.size (cellsFrom (s3.heap.objs.size + 1) scope.names (cloFrom X.env.cells scope.names [])) fp
  show codeAny _ _ (.compStart (.ListComp elt [⟨tg, iter, ifs, 0⟩] scope pos) 0 (.ref it) (.ref D) (compEnvC scope (cellsFrom (s3.heap.objs.size + 1) scope.names (cloFrom X.env.cells scope.names [])) s3.heap.objs.size X.env)) (compPost (model X.prog X.w) X.A X.xe use Qf (.ref D) s3.heap.objs.size) { s3 with heap := pushCells (s3.heap.push { cls := .type "dict", data := .dict #[] }) scope.names }
  have nfp : ∀ b ∈ fp, (upd H2 D (.lst [])) b = none := fun b hb => (f3 b hb).1.1
  generalize hce : compEnvC scope (cellsFrom (s3.heap.objs.size + 1) scope.names (cloFrom X.env.cells scope.names [])) s3.heap.objs.size X.env = ce at I4 pg pt pe ⊢
  have cL : ce.locals = s3.heap.objs.size := by subst hce; rfl
  generalize hH3 : upd H2 D (.lst []) = H3 at I3 I4 pg pt pe w0 nfp f3
  generalize hs4 : ({ s3 with heap := pushCells (s3.heap.push { cls := .type "dict", data := .dict #[] }) scope.names } : Shared) = s4 at I4 ⊢
  have st4 : tn 0 s4.heap := T.keep _ _ _ st3 fun b _ o e => by rw [← hs4]; exact pushCells_keeps _ _ _ _ (Heap.get?_push_of_some _ e)
  have stat : ∀ {σ' : St} {H' : Hp} {s' : Shared}, Inv (X.blk s3 H3 scope ce fp) [] σ' H' s' → (∀ b ∈ fp, H' b = none) → ∀ b ∈ fp, FpOk (X.blk s3 H3 scope ce fp) [] H' b := fun {σ' H' s'} I' hn b hb =>
    ⟨hn b hb, (I'.ok.exf b hb).1, I'.ok.exfs b hb, .inl hb, fun x c e => (I'.ok.exf b hb).2 x c e, fun p hp => absurd (show p ∈ ([] : List (Addr × Obj)) ++ [] from hp) (by simp)⟩
  have loop : codeAny (model X.prog X.w) X.A (.compLoop (.ListComp elt [⟨tg, iter, ifs, 0⟩] scope pos) 0 (.ref it) (.ref D) ce) (compPost (model X.prog X.w) X.A X.xe use Qf (.ref D) s3.heap.objs.size) s4 := by
    refine compLoop_any (fun n s' => ∃ i H', Inv (X.blk s3 H3 scope ce fp) [] (wipe σ (own.map (·.2))) H' s' ∧ tn i s'.heap ∧ (∀ b ∈ fp, H' b = none) ∧ W i n H') ?_ m0 ⟨0, H3, I4, st4, nfp, w0⟩
    rintro n s5 ⟨i, H5, I5, st5, n5, w5⟩
    rcases turn i n H5 w5 with ⟨stop, qq⟩ | ⟨go, Nx, hNx, step⟩
    · have td := T.done (X.blk s3 H3 scope ce fp) rfl rfl rfl hc i [] s5 _ H5 (fun _ _ => False) I5 (stat I5 n5) st5 stop
      refine thnF td fun r s6 ⟨hr, I6⟩ => ?_
      subst hr
      -- back in the def's context
      have I7 : Inv X pins σ H5 s6 := I3.call' (ch := fp) I6.os I6.base I6.hok I6.bare fun b hb => ⟨(f3 b hb).1.2.2.2.1, (f3 b hb).1.2.1, (f3 b hb).1.2.2.2.2.1, (f3 b hb).1.2.2.2.2.2⟩
      have nC : H5 s3.heap.objs.size = none := by
        have z : H5 ce.locals = none := I6.free
        rw [cL] at z
        exact z
      obtain ⟨m, hn, _⟩ := I6.loc
      have hn : s6.heap.Ns ce.locals m := hn
      rw [cL] at hn
      exact hRR D s3.heap.objs.size s6 m H5 I7 qq hn (I3.fpOk (Nat.le_refl _) nC)
    · have ti := T.item (X.blk s3 H3 scope ce fp) rfl rfl rfl hc i [] s5 _ H5 (fun _ _ => False) I5 (stat I5 n5) st5 go
      refine thnF ti fun r s6 ⟨u, hr, h6⟩ => ?_
      subst hr
      refine thnF h6 fun _ s7 ⟨x, H7, I7, r7, y7, st7, n7⟩ => ?_
      have I7' := I7.pinned (stat I7 n7) (T.obj _ _ st7)
      refine thnF (pg _ s7 _ H7 x u _ I7' r7 (step x H7 y7)) fun _ s8 ⟨σ8, H8, I8, hw8, q8⟩ => ?_
      refine thnF (pt _ s8 σ8 H8 _ I8 q8) fun b s9 ⟨H9, I9, q9⟩ => ?_
      -- the turn's end
      have fin : ∀ {s' : Shared} {H' : Hp}, Inv (X.blk s3 H3 scope ce fp) ([] ++ pinsAt fp s7.heap) σ8 H' s' → Nx H' → ∃ m, m < n ∧ ∃ i H', Inv (X.blk s3 H3 scope ce fp) [] (wipe σ (own.map (·.2))) H' s' ∧ tn i s'.heap ∧ (∀ b ∈ fp, H' b = none) ∧ W i m H' := fun {s' H'} I' nx => by
        obtain ⟨m', hm, w'⟩ := hNx H' nx
        have pin' : ∀ b ∈ fp, ∀ o, s7.heap.get? b = some o → s'.heap.get? b = some o ∧ H' b = none := fun b hb o e =>
          let z := I'.pin (b, o) (List.mem_append_right _ (List.mem_append_right _ (mem_pinsAt hb e)))
          ⟨z.1, z.2.1⟩
        have hl : (wipe σ (own.map (·.2))).length = σ8.length := by rw [← hw8, wipe_length]
        refine ⟨m', hm, i + 1, H', (I'.unpinned (pins := [])).weak hl (fun j v e => ?_), T.keep _ _ _ st7 fun b hb o e => (pin' b hb o e).1, fun b hb => ?_, w'⟩
        · rw [← hw8] at e
          exact (wipe_some e).1
        · obtain ⟨o, e, _⟩ := T.obj _ _ st7 b hb
          exact (pin' b hb o e).2
      cases b with
      | false =>
        simp only [Bool.false_eq_true, if_false] at q9 ⊢
        exact fin I9 q9
      | true =>
        simp only [if_true] at q9 ⊢
        refine thnF (pe _ s9 σ8 H9 _ I9 q9) fun z s10 ⟨yv, H10, I10, r10, acc, hD10, hz10, nx⟩ => ?_
        exact app_ok (X := X.blk s3 H3 scope ce fp) I10 hD10 hz10 r10 fun s11 I11 => fin I11 nx
  exact codeAny_compStart_list loop (T.self X.A 0 _ _ _ st4 loop)
/-- as a value -/
theorem pe_lc {elt tg iter : Expr} {ifs : List Expr} {scope : Scope} {own : List (Str × Nat)} {pos : Pos} {wi : TI} {g : TG} {tt : TT} {te : TE} (hc : X.calm = true) (hN : X.N.Nodup) (hi : PI X tg iter wi) (ok : BlkOk X.N X.env.scope scope own)
    (hg : ∀ (s : Shared) (H : Hp) (C : Addr) (cl : List (Str × Addr)) (fp : List Addr), PG (X.blk s H scope (compEnvC scope cl C X.env) fp) tg g) (ht : ∀ (s : Shared) (H : Hp) (C : Addr) (cl : List (Str × Addr)) (fp : List Addr), PTs (X.blk s H scope (compEnvC scope cl C X.env) fp) ifs tt)
    (he : ∀ (s : Shared) (H : Hp) (C : Addr) (cl : List (Str × Addr)) (fp : List Addr), PE (X.blk s H scope (compEnvC scope cl C X.env) fp) elt te) (hs : ∀ x, foldedSetIterable iter X.env x = pure x := by intro _; rfl) :
    PE X (.ListComp elt [⟨tg, iter, ifs, 0⟩] scope pos) (tLc wi g tt te (own.map (·.2))) := by
  intro pins s σ H Q I h
  rw [eval_ListComp]
  refine lc_core hc hN I hi ok hg ht he hs h fun D C s' m H' I' q hn f => ⟨m, hn, fun h'' sb => ?_⟩
  obtain ⟨f0, f1, f2, f3, f4, f5⟩ := f
  exact ⟨.ref D, H', I'.turned (t' := s'.toks) (fun b o hb e => (sb.2 b hb).trans e) f0 f1 f3 f4 f5, rfl, q⟩
/-- name = [..] on one line, the name a local -/
theorem ps_setLc {i : Nat} {y : Str} {py : Pos} {elt tg iter : Expr} {ifs : List Expr} {scope : Scope} {own : List (Str × Nat)} {pos spos : Pos} {wi : TI} {g : TG} {tt : TT} {te : TE} (hc : X.calm = true) (hN : X.N.Nodup) (hy : X.N[i]? = some y) (hyl : X.env.scope.names.lookup y = some .local)
    (hsw : swapsWith (.ListComp elt [⟨tg, iter, ifs, 0⟩] scope pos) (some (.Name y py)) spos.line X.env = pure true) (hi : PI X tg iter wi) (ok : BlkOk X.N X.env.scope scope own)
    (hg : ∀ (s : Shared) (H : Hp) (C : Addr) (cl : List (Str × Addr)) (fp : List Addr), PG (X.blk s H scope (compEnvC scope cl C X.env) fp) tg g) (ht : ∀ (s : Shared) (H : Hp) (C : Addr) (cl : List (Str × Addr)) (fp : List Addr), PTs (X.blk s H scope (compEnvC scope cl C X.env) fp) ifs tt)
    (he : ∀ (s : Shared) (H : Hp) (C : Addr) (cl : List (Str × Addr)) (fp : List Addr), PE (X.blk s H scope (compEnvC scope cl C X.env) fp) elt te) (hs : ∀ x, foldedSetIterable iter X.env x = pure x := by intro _; rfl) :
    PS X (.Assign [.Name y py] (.ListComp elt [⟨tg, iter, ifs, 0⟩] scope pos) spos) (tAsg (tLc wi g tt te (own.map (·.2))) (gName i)) := by
  intro pins s σ H D I h
  rw [exec_Assign_Name_used _ _ _ _ hsw]
  refine wpAny_bind (wpAny_standAt (wpAny_bind ?_))
  show wpAny _ X.A (do let _ ← comprehension (.ListComp elt [⟨tg, iter, ifs, 0⟩] scope pos) scope X.env (firstIterPos [⟨tg, iter, ifs, 0⟩] pos) (newList []) false (eval iter X.env) (some (assign (.Name y py) X.env))) _ _ s
  have h : tLc wi g tt te (own.map (·.2)) σ H (fun x H1 => gName i x σ H1 D.nx) := h
  refine wpAny_bind (thn (lc_core (Qf := fun _ s' => SP X pins D .next s') hc hN I hi ok hg ht he hs h fun L C s' m H' I' q hn f => ?_) fun _ s' hq => wpAny_pure (wpAny_pure hq))
  show wpAny _ _ (assign (.Name y py) X.env (.ref L)) _ _ _
  refine wpAny_assign_Name (store_ok2 (v := V.ref L) I' hN hy (.inl hyl) rfl (fun s2 I2 ⟨a, sb, ha⟩ => ?_) (.inr hyl))
  obtain ⟨f0, f1, f2, f3, f4, f5⟩ := f
  have haC : C ≠ a := by
    rcases ha with z | z
    · rw [z]; exact f1
    · exact fun e => f4 y a z e.symm
  refine ⟨m, hn.sameBut sb haC, fun h3 sb3 => ?_⟩
  exact ⟨_, H', I2.turned (t' := s2.toks) (fun b o hb e => (sb3.2 b hb).trans e) f0 f1 f3 f4 f5, q⟩
theorem sw_true {elt : Expr} {gs : List Comprehension} {scope : Scope} {pos py : Pos} {y : Str} {l : Nat} {env : Env} (hk : env.scope.kind = .function) (hy : env.scope.names.lookup y = some .local) (hl : (py.line == pos.line) = true)
    (ha : (scope.names.any fun (n, k) => n == y && (k == .local || k == .cell)) = false) : swapsWith (.ListComp elt gs scope pos) (some (.Name y py)) l env = pure true := by
  have ky : env.kindOf y = some .local := hy
  have hb : env.blockKind = .function := by unfold Env.blockKind; rw [hk]; rfl
  unfold swapsWith
  simp only [hb, ky, ha, Expr.pos, hl]
  rfl
end

/-! ### the forms one uses -/
/-- over a range: Pv by the turn and the heap (the new list at D within) -/
theorem lc_range {lo : Int} {n : Nat} {g : TG} {tt : TT} {te : TE} {vs : List Nat} {σ : St} {H1 : Hp} {D : Addr} {Qd : Hp → Prop} (Pv : Nat → Hp → Prop) (h0 : Pv 0 (upd H1 D (.lst [])))
    (hs : ∀ i H, i < n → Pv i H → g (.int (lo + i)) (wipe σ vs) H fun σ2 H2 => wipe σ2 vs = wipe σ vs ∧ tt σ2 H2 fun b H3 =>
      if b = true then te σ2 H3 fun y H4 => ∃ acc, H4 D = some (.lst acc) ∧ acc.length < sizeLine ∧ Pv (i + 1) (upd H4 D (.lst (acc ++ [y]))) else Pv (i + 1) H3) (hd : ∀ H, Pv n H → Qd H) :
    ∃ W : Nat → Nat → Hp → Prop, (∃ m, W 0 m (upd H1 D (.lst []))) ∧ ∀ i m H, W i m H →
      ((Itr lo n).stop i H ∧ Qd H) ∨ ((Itr lo n).go i H ∧ ∃ Nx : Hp → Prop, (∀ H', Nx H' → ∃ m', m' < m ∧ W (i + 1) m' H') ∧ ∀ x H', (Itr lo n).yld i H x H' → g x (wipe σ vs) H' fun σ2 H2 => wipe σ2 vs = wipe σ vs ∧ tt σ2 H2 fun b H3 =>
        if b = true then te σ2 H3 fun y H4 => ∃ acc, H4 D = some (.lst acc) ∧ acc.length < sizeLine ∧ Nx (upd H4 D (.lst (acc ++ [y]))) else Nx H3) := by
  refine ⟨fun i m H => m = n - i ∧ i ≤ n ∧ Pv i H, ⟨n, by simp, Nat.zero_le _, h0⟩, ?_⟩
  rintro i m H ⟨rfl, hi, p⟩
  by_cases hlt : i < n
  · refine .inr ⟨hlt, Pv (i + 1), fun H' p' => ⟨n - (i + 1), by omega, rfl, hlt, p'⟩, fun x H' y => ?_⟩
    obtain ⟨e, y⟩ := y
    subst e y
    exact hs i _ hlt p
  · have e : i = n := by omega
    subst e
    exact .inl ⟨Nat.le_refl _, hd H p⟩
/-- over a list that the block leaves as it is -/
theorem lc_list {K : PySem.W.Frag} {a : Addr} {xs : List V} {g : TG} {tt : TT} {te : TE} {vs : List Nat} {σ : St} {H1 : Hp} {D : Addr} {Qd : Hp → Prop} (Pv : Nat → Hp → Prop) (h0 : Pv 0 (upd H1 D (.lst []))) (hl : ∀ i H, i ≤ xs.length → Pv i H → SqL K H a xs)
    (hs : ∀ i x H, xs[i]? = some x → Pv i H → g x (wipe σ vs) H fun σ2 H2 => wipe σ2 vs = wipe σ vs ∧ tt σ2 H2 fun b H3 =>
      if b = true then te σ2 H3 fun y H4 => ∃ acc, H4 D = some (.lst acc) ∧ acc.length < sizeLine ∧ Pv (i + 1) (upd H4 D (.lst (acc ++ [y]))) else Pv (i + 1) H3) (hd : ∀ H, Pv xs.length H → Qd H) :
    ∃ W : Nat → Nat → Hp → Prop, (∃ m, W 0 m (upd H1 D (.lst []))) ∧ ∀ i m H, W i m H →
      ((Itl K a).stop i H ∧ Qd H) ∨ ((Itl K a).go i H ∧ ∃ Nx : Hp → Prop, (∀ H', Nx H' → ∃ m', m' < m ∧ W (i + 1) m' H') ∧ ∀ x H', (Itl K a).yld i H x H' → g x (wipe σ vs) H' fun σ2 H2 => wipe σ2 vs = wipe σ vs ∧ tt σ2 H2 fun b H3 =>
        if b = true then te σ2 H3 fun y H4 => ∃ acc, H4 D = some (.lst acc) ∧ acc.length < sizeLine ∧ Nx (upd H4 D (.lst (acc ++ [y]))) else Nx H3) := by
  refine ⟨fun i m H => m = xs.length - i ∧ i ≤ xs.length ∧ Pv i H, ⟨xs.length, by simp, Nat.zero_le _, h0⟩, ?_⟩
  rintro i m H ⟨rfl, hi, p⟩
  have q := hl i H hi p
  by_cases hlt : i < xs.length
  · refine .inr ⟨⟨xs, xs[i], q, by simp [hlt]⟩, Pv (i + 1), fun H' p' => ⟨xs.length - (i + 1), by omega, rfl, hlt, p'⟩, fun x H' y => ?_⟩
    obtain ⟨e, y⟩ := y
    subst e
    exact hs i x _ (y xs q) p
  · have e : i = xs.length := by omega
    subst e
    exact .inl ⟨⟨xs, q, Nat.le_refl _⟩, hd H p⟩
def blkC (N : List Str) (sc scope : Scope) (own : List (Str × Nat)) : Bool :=
  (match scope.kind with | .function => true | _ => false) && (scope.names.all fun y => decide (scope.names.lookup y.1 = some y.2)) && (own.all fun p => decide (N[p.2]? = some p.1)) &&
    (scope.names.all fun y => match y.2 with
      | .free => (match sc.names.lookup y.1 with | some .cell => true | some .free => true | _ => false)
      | .local => decide (y.1 ∈ own.map (·.1)) || decide (y.1 ∉ N)
      | .cell => decide (y.1 ∈ own.map (·.1)) || decide (y.1 ∉ N)
      | _ => true)
theorem blkOk_by {N : List Str} {sc scope : Scope} {own : List (Str × Nat)} (h : blkC N sc scope own = true) : BlkOk N sc scope own := by
  unfold blkC at h
  simp only [Bool.and_eq_true, List.all_eq_true, decide_eq_true_eq] at h
  obtain ⟨⟨⟨h1, h2⟩, h3⟩, h4⟩ := h
  refine ⟨?_, h2, h3, fun y hy e => ?_, fun y hy e => ?_⟩
  · split at h1
    · assumption
    · cases h1
  · have q := h4 y hy
    simp only [e] at q
    split at q <;> first | exact .inl (by assumption) | exact .inr (by assumption) | cases q
  · have q := h4 y hy
    rcases e with e | e <;> (simp only [e, Bool.or_eq_true, decide_eq_true_eq] at q; exact q)
end L2

namespace L2
open PySem PySem.Spec PyProof.Rows

end L2

namespace L2
open PySem PySem.Spec PyProof.Rows

/-! ### lists of pairs as tables -/
section
variable {κ : Type} [DecidableEq κ]

end

/-! ### a tracked dict, its keys ints and texts or tuples of these -/

section
variable {X : Cx} {pins : List (Addr × Obj)} {σ : St} {H : Hp} {s : Shared} {a : Addr} {y v : V} {u r : Value} {o : Option V} {A : Around} {E : Value → Shared → Prop}

end

/-! ### readings and rules -/
/-- the element of a subscription, not a slice -/
def NoSl (i : Expr) : Prop := ∀ ov iv, subscripted i false ov iv = operate [ov, iv] (getItem ov iv)
theorem subD_of {prog : Program} {w : World} {A : Around} {E : Value → Shared → Prop} {s : Shared} {env : Env} {value slice : Expr} {pos : Pos} {T id : String} {Q : Value → Shared → Prop}
    (hl : typeLookup (.type T) "__getitem__" = pure (some (.builtin id))) (hs : NoSl slice)
    (h : wpAny (model prog w) A (eval value env) (fun o s₁ => wpAny (model prog w) A (eval slice env) (fun i s₂ => s₂.TypeIs o T ∧ wpAny (model prog w) A (getItem o i) Q E s₂) E s₁) E s) :
    wpAny (model prog w) A (eval (.Subscript value slice pos) env) Q E s := by
  refine Subscript_ (wpAny_mono h (fun o s₁ h₁ => wpAny_mono h₁ (fun i s₂ h₂ => ?_) fun _ _ x => x) fun _ _ x => x)
  obtain ⟨hT, h₂⟩ := h₂
  unfold subscriptTail
  refine wpAny_bind ?_
  rw [getitemInPython_of_ne hT.not_modules]
  refine wpAny_bind (wpAny_specialOf hT hl ?_)
  have fin : wpAny (model prog w) A (subscripted slice false o i) (fun r s₃ => wpAny (model prog w) A (letTemporaryGo value o r >>= fun _ => pure r) Q E s₃) E s₂ := by
    rw [hs o i]
    exact wpAny_operating (wpAny_mono h₂ (fun r s₃ h₃ => wpAny_bind (wpAny_letTemporaryGo (wpAny_pure h₃))) fun _ _ x => x)
  first
    | exact wpAny_pure (wpAny_bind fin)
    | exact wpAny_bind (wpAny_pure (wpAny_bind fin))
    | exact wpAny_bind fin

/-! ### displays -/

/-! ### methods -/

/-! ### dict(d): a copy -/

end L2

namespace L2
open PySem PySem.Spec PyProof.Rows

section
variable {prog : Program} {w : World} {A : Around} {E : Value → Shared → Prop}

end

end L2

namespace L2
open PySem PySem.Spec PyProof.Rows

section
variable {X : Cx} {pins : List (Addr × Obj)} {σ : St} {H : Hp} {s : Shared} {h' : Heap}
/-- .. and one new object is laid -/
theorem Inv.turnedNew {t' : Nat} {ch : List Addr} {T : Addr} {ob : HO} (I : Inv X pins σ H s) (k : ∀ b o, b ∉ ch → s.heap.get? b = some o → h'.get? b = some o) (hf : ∀ b ∈ ch, FpOk X pins H b) (hT : s.heap.objs.size ≤ T)
    (new : ObjOk X.prog X.w (upd H T ob) h' T ob) : Inv X pins σ (upd H T ob) { s with heap := h', toks := t' } := by
  have hn : H T = none := I.hok.fresh hT
  have nit : ∀ b u, H b = some u → b ∉ ch := fun b u e z => by
    have q := (hf b z).1
    rw [q] at e; cases e
  refine I.step (g' := s.gens) (d' := s.drawn) (ch := ch) (fun b hb => ⟨(hf b hb).2.2.2.1, (hf b hb).2.1, (hf b hb).2.2.2.2.1, (hf b hb).2.2.2.2.2⟩) (fun b o _ _ hc e _ => k b o hc e) (fun b o _ _ hc e _ => ⟨o.slots, k b o hc e⟩)
    (fun b o _ e n => ?_) (fun b o hc e => ⟨o, k b o hc e⟩) (fun b xs e => ?_) (fun b o u e => ?_) (fun b ps e => ⟨#[], ?_⟩) (fun m hm => ?_) (fun b u e => ?_) I.bare
  · rw [upd_ne (Nat.ne_of_lt (Nat.lt_of_lt_of_le (Heap.lt_size e) hT))]; exact n
  · rw [upd_ne (ne_of_none e hn)]; exact e
  · rw [upd_ne (ne_of_none e hn)]; exact e
  · rw [upd_ne (ne_of_none e hn), e]; simp
  · obtain ⟨o, es, ep, ho, r⟩ := hm
    exact ⟨o, es, ep, k _ o (fun z => (hf _ z).2.1 rfl) ho, r⟩
  · by_cases hb : b = T
    · subst hb
      rw [upd_same] at e
      cases e
      exact new
    · rw [upd_ne hb] at e
      refine (I.hok b u e).stay (fun c v hc q => k c v ?_ q) (fun c q => by rw [upd_ne (ne_of_none q hn)]; exact q) fun c xs q => by rw [upd_ne (ne_of_none q hn)]; exact q
      rcases hc with z | z
      · rw [z]; exact nit b u e
      · exact nit c _ z

/-! ### locking a thing while a statement runs -/
end
section
variable {X : Cx}

/-! ### one iterator just laid -/
theorem pi_one {tg : Expr} {pins : List (Addr × Obj)} {σ : St} {H : Hp} {s : Shared} {R : It → Hp → Prop} {J : It} {tn : Nat → Heap → Prop} {tk : Nat} (I : Inv X pins σ H s) (o : Obj)
    (T : Turn X.prog X.w X.K tg J [s.heap.objs.size] s.heap.objs.size tn) (st : tn 0 (s.heap.push o)) (q : R J H) : PIE X pins σ tg R (.ref s.heap.objs.size) { s with heap := s.heap.push o, toks := tk } := by
  refine ⟨s.heap.objs.size, [s.heap.objs.size], tn, J, H, rfl, I.kept fun b ob e => Heap.get?_push_of_some _ e, T, st, fun b hb => ?_, q⟩
  have e : b = s.heap.objs.size := by simpa using hb
  subst e
  exact I.fpOk (Nat.le_refl _) (I.hok.fresh (Nat.le_refl _))
end

/-! ### range with a step -/
/-- lo, lo + c, .. (n of them) -/
def Itc (lo c : Int) (n : Nat) : It := ⟨fun i _ => i < n, fun i H x H' => H' = H ∧ x = .int (lo + (i : Nat) * c), fun i _ => n ≤ i⟩
theorem turn_rangeC {P : Program} {w : World} {K : PySem.W.Frag} {tg : Expr} (it : Addr) (lo c : Int) (n : Nat) : Turn P w K tg (Itc lo c n) [it] it (fun i h => IsRangeIter h it (lo + (i : Nat) * c) ((n : Int) - (i : Nat)) c) where
  mem := by simp
  obj := fun i h st b hb => by
    have e : b = it := by simpa using hb
    subst e
    exact ⟨_, st, fun v z => nomatch z⟩
  keep := fun i h h' st k => k it (by simp) _ st
  item := by
    intro X hP hw hK hc i pins s σ H E I hf st hg
    subst hP hw hK
    obtain ⟨f0, f1, f2, f3, f4, f5⟩ := hf it (by simp)
    have W := Walks.range (prog := X.prog) (w := X.w) (I.ok.hd hc) it lo c n
    refine W.item i s _ _ hg st fun v h' tk hv st' kk => ?_
    obtain ⟨t, rfl⟩ := hv
    have I1 : Inv X pins σ H { s with heap := h', toks := tk } := I.turned (fun b o hb e => kk b o (by simpa using hb) e) f0 f1 f3 f4 f5
    exact ⟨_, rfl, go_of (s := { s with heap := h', toks := tk }) (n := "range_iterator") st' rfl rfl (by decide) ⟨.int (lo + (i : Nat) * c), H, I1, ⟨t, rfl⟩, ⟨rfl, rfl⟩, st', fun b hb => (hf b hb).1⟩⟩
  done := by
    intro X hP hw hK hc i pins s σ H E I hf st hg
    subst hP hw hK
    obtain ⟨f0, f1, f2, f3, f4, f5⟩ := hf it (by simp)
    exact wpAny_pyNext_range_end (I.ok.hd hc) st (by have : n ≤ i := hg; omega) fun h' eb => ⟨rfl, I.turned (t' := s.toks) (fun b o hb e => eb b o hb e) f0 f1 f3 f4 f5⟩
  self := fun A i s Q E st h => wpAny_pyIter_rangeiter st h
/-- range(i, j, c): small bounds, n items -/
def RgC (i j c : Int) (n : Nat) : Prop := c ≠ 0 ∧ c.natAbs < 1073741824 ∧ Builtin.Range.small i j c = true ∧ Builtin.Range.rangeSize i j c = n
def iRng3 (ta : TA) : TI := fun σ H R => ta σ H fun vs H1 => ∃ (i j c : Int) (n : Nat), vs = [.int i, .int j, .int c] ∧ RgC i j c n ∧ R (Itc i c n) H1
section
variable {X : Cx} {tg : Expr}
theorem pi_range3 {a b c : Expr} {ta : TA} {p pos : Pos} (hg : Gl X "range") (hm : X.mg "range" = none) (ha : PA X [a, b, c] ta)
    (hs : starEach [a, b, c] X.env = (false, eval a X.env) :: starEach [b, c] X.env := by rfl) (hpl : (backTo pos (starEach [b, c] X.env)).any (·.1) = false := by rfl) :
    PI X tg (.Call (.Name "range" p) [a, b, c] [] pos) (iRng3 ta) := by
  intro pins s σ H R I h
  refine Call_ (ld_blt I hg hm boot_range (PyProof.Rows.callWith_type1 (thn (ha pos pins s σ H _ I h) fun us s1 ⟨vs, H1, I1, r1, q1⟩ => ?_) hs hpl))
  obtain ⟨i, j, k, n, e, ⟨c0, c1, c2, c3⟩, q⟩ := q1
  subst e
  cases r1 with
  | cons r rr =>
    cases rr with
    | cons r' rr =>
      cases rr with
      | cons r'' rr =>
        cases rr
        obtain ⟨t, rfl⟩ := r
        obtain ⟨t', rfl⟩ := r'
        obtain ⟨t'', rfl⟩ := r''
        refine call_range_3 c0 ?_ (.inl (PyProof.noPylong_small c1))
        refine wpAny_pyIter_range (IsRange.new ..) c2 ?_
        have I2 : Inv X pins σ H1 { s1 with heap := s1.heap.push { cls := .type "range", data := .fields #[.int i t, .int j t', .int k t''] } } := I1.kept (t' := s1.toks) fun b o e => Heap.get?_push_of_some _ e
        refine pi_one (tk := s1.toks) I2 _ (turn_rangeC _ i k n) ?_ q
        have e1 : i + ((0 : Nat) : Int) * k = i := by simp
        have e2 : (n : Int) - ((0 : Nat) : Int) = Builtin.Range.rangeSize i j k := by rw [c3]; simp
        show IsRangeIter _ _ (i + ((0 : Nat) : Int) * k) ((n : Int) - ((0 : Nat) : Int)) k
        rw [e1, e2]
        exact Heap.get?_push_size _ rfl
end

/-! ### a str -/

/-! ### a dict's keys: any dict's entries -/

/-! ### a locked dict -/

/-! ### for k in d, d.keys(), d.values(), d.items() -/

/-! ### enumerate(list) -/
/-- the list at a as it stands at each turn, each item in a new pair -/
def Ite (K : PySem.W.Frag) (a : Addr) : It :=
  ⟨fun i H => ∃ (xs : List V) (x : V), SqL K H a xs ∧ xs[i]? = some x, fun i H v H' => ∃ T x, v = .ref T ∧ H T = none ∧ H' = upd H T (.tup [.int (i : Nat), x]) ∧ ∀ xs, SqL K H a xs → xs[i]? = some x, fun i H => ∃ xs : List V, SqL K H a xs ∧ xs.length ≤ i⟩
theorem turn_enum {P : Program} {w : World} {K : PySem.W.Frag} {elts : List Expr} {kk : Nat} {tpos : Pos} (a e it : Addr) :
    Turn P w K (.Tuple elts kk tpos) (Ite K a) [e, it] e (fun i h => (∃ old, IsEnum h e it ((i : Nat) : Int) old) ∧ h.IsListIter it a i ∧ e ≠ it) where
  mem := by simp
  obj := fun i h st b hb => by
    obtain ⟨⟨old, he⟩, ⟨o, ho, hc, hd⟩, _⟩ := st
    have e' : b = e ∨ b = it := by simpa using hb
    rcases e' with z | z
    · rw [z]; exact ⟨_, he, fun v q => nomatch q⟩
    · rw [z]; exact ⟨o, ho, fun v q => by rw [hd] at q; cases q⟩
  keep := fun i h h' st k => let ⟨⟨old, he⟩, hi, hne⟩ := st; ⟨⟨old, k e (by simp) _ he⟩, hi.at fun o q => k it (by simp) o q, hne⟩
  item := by
    intro X hP hw hK hc i pins s σ H E I hf st hg
    subst hP hw hK
    obtain ⟨⟨old, he⟩, hit, hne⟩ := st
    obtain ⟨xs, x, hq, hx⟩ := hg
    obtain ⟨its, rv, p, hz⟩ := I.list hq
    obtain ⟨u, hu, ru⟩ := rv.get hx
    have hel : e < s.heap.objs.size := Heap.lt_size he
    have hil : it < s.heap.objs.size := by obtain ⟨_, q, _⟩ := hit; exact Heap.lt_size q
    refine wpAny_pyNext_enum_item he hit p.isList (x := u) (by simpa using hu) hne fun h' ho hit' hT hsz hk => ?_
    refine ⟨_, rfl, wpAny_letOwnedTupleGo_enum (s := { s with heap := h', toks := s.toks + 1 }) ho fun h'' he' sb => ?_⟩
    have hT2 : h''.get? s.heap.objs.size = some { cls := .type "tuple", data := .seq #[.int i s.toks, u] } := (sb.2 _ (Nat.ne_of_gt hel)).trans hT
    have new : ObjOk X.prog X.w (upd H s.heap.objs.size (.tup [.int (i : Nat), x])) h'' s.heap.objs.size (.tup [.int (i : Nat), x]) :=
      ⟨by show 2 ≤ sizeLine; decide, [.int i s.toks, u], .cons ⟨_, rfl⟩ (.cons ru .nil), ⟨_, hT2, rfl, _, rfl⟩⟩
    have I1 : Inv X pins σ (upd H s.heap.objs.size (.tup [.int (i : Nat), x])) { s with heap := h'', toks := s.toks + 1 } :=
      I.turnedNew (ch := [e, it]) (fun b ob hb q => (sb.2 b (fun z => hb (by simp [z]))).trans (hk b ob (fun z => hb (by simp [z])) (fun z => hb (by simp [z])) q)) hf (Nat.le_refl _) new
    refine ⟨.ref s.heap.objs.size, _, I1, rfl, ⟨_, x, rfl, I.hok.fresh (Nat.le_refl _), rfl, fun ys hy => by rw [I.list_inj hy hq]; exact hx⟩, ⟨⟨u, ?_⟩, hit'.at fun o q => (sb.2 it (Ne.symm hne)).trans q, hne⟩, fun b hb => ?_⟩
    · have e1 : ((i + 1 : Nat) : Int) = (i : Int) + 1 := by omega
      rw [e1]; exact he'
    · have hb' : b < s.heap.objs.size := by
        have e' : b = e ∨ b = it := by simpa using hb
        rcases e' with z | z
        · rw [z]; exact hel
        · rw [z]; exact hil
      rw [upd_ne (Nat.ne_of_lt hb')]
      exact (hf b hb).1
  done := by
    intro X hP hw hK hc i pins s σ H E I hf st hg
    subst hP hw hK
    obtain ⟨⟨old, he⟩, hit, hne⟩ := st
    obtain ⟨xs, hq, hx⟩ := hg
    obtain ⟨its, rv, p, hz⟩ := I.list hq
    obtain ⟨f0, f1, f2, f3, f4, f5⟩ := hf it (by simp)
    have hl := rv.length
    exact wpAny_pyNext_enum_end (I.ok.hd hc) he hit p.isList (by simp; omega) fun h' eb => ⟨rfl, I.turned (t' := s.toks) (fun b o hb q => eb b o hb q) f0 f1 f3 f4 f5⟩
  self := fun A i s Q E st h => let ⟨⟨_, he⟩, _⟩ := st; wpAny_pyIter_enum he h
def iEnum (K : PySem.W.Frag) (ta : TA) : TI := fun σ H R => ta σ H fun vs H1 => ∃ a xs, vs = [.ref a] ∧ SqL K H1 a xs ∧ R (Ite K a) H1
theorem pi_enum {X : Cx} {e : Expr} {ta : TA} {p pos tpos : Pos} {elts : List Expr} {kk : Nat} (hg : Gl X "enumerate") (hm : X.mg "enumerate" = none) (ha : PA X [e] ta) (hs : starEach [e] X.env = [(false, eval e X.env)] := by rfl) :
    PI X (.Tuple elts kk tpos) (.Call (.Name "enumerate" p) [e] [] pos) (iEnum X.K ta) := by
  intro pins s σ H R I h
  refine Call_ (ld_blt I hg hm boot_enumerate (PyProof.Rows.callWith_type1 (thn (ha pos pins s σ H _ I h) fun us s1 ⟨vs, H1, I1, r1, q1⟩ => ?_) hs rfl))
  obtain ⟨a, xs, ex, hq, q⟩ := q1
  subst ex
  cases r1 with
  | cons r rr =>
    cases rr
    cases r
    obtain ⟨its, rv, p', hz⟩ := I1.list hq
    refine call_enumerate_list p'.isList fun h' he hit hsz hk => wpAny_pyIter_enum he ?_
    have I2 : Inv X pins σ H1 { s1 with heap := h' } := I1.kept (t' := s1.toks) hk
    refine ⟨s1.heap.objs.size + 1, [s1.heap.objs.size + 1, s1.heap.objs.size], _, _, H1, rfl, I2, turn_enum a (s1.heap.objs.size + 1) s1.heap.objs.size, ⟨⟨.none, he⟩, hit, Nat.succ_ne_self _⟩, fun b hb => ?_, q⟩
    have e' : b = s1.heap.objs.size + 1 ∨ b = s1.heap.objs.size := by simpa using hb
    have hle : s1.heap.objs.size ≤ b := by
      rcases e' with z | z
      · rw [z]; exact Nat.le_add_right _ _
      · rw [z]; exact Nat.le_refl _
    exact I1.fpOk hle (I1.hok.fresh hle)
/-! ### zip(list, list) -/
end L2

namespace Att
open PySem PySem.W PySem.Calls PyProof.Rows

/-! ### the script -/
theorem ints_of_wellAll {P : Params} {h : Heap} : ∀ (ns : List Int) (vs : List Value), WellAll P h vs (ns.map WData.int) → IntsAre vs ns := by
  intro ns
  induction ns with
  | nil =>
    intro vs w
    rw [List.map_nil] at w
    cases w
    exact .nil
  | cons n ns ih =>
    intro vs w
    rw [List.map_cons] at w
    cases w with
    | cons a b =>
      cases a
      exact .cons _ _ (ih _ b)

/-! ### the attachment: holds_open's last premise (the goal 'hc' behind k_head) from a wpAny of the law's body -/

/-! ### rules over ANY heap (no ledger) from facts about the written part K: the library's own take a ledger (News) for what they write -/
section
variable {prog : Program} {w : World} {A : Around} {E : Value → Shared → Prop} {s : Shared} {K : Frag}

/-! the whole heap as the ledger: makes every rule that writes through a ledger a rule over any heap -/

end
end Att

namespace L2
open PySem PySem.Spec PyProof.Rows

theorem vals_ints : ∀ {vs : List Value} {ns : List Int}, IntsAre vs ns → Vals (ns.map V.int) vs
  | _, _, .nil => .nil
  | _, _, .cons n t h => .cons ⟨t, rfl⟩ (vals_ints h)

/-- nothing is tracked but the script, known to the object (or it is an object of the module) -/
def Only (H : Hp) : Prop := ∀ b, H b = none ∨ ∃ o xs, H b = some (.frz o (.lst xs))

end L2

namespace L2
open PySem PySem.Spec PyProof.Rows

end L2

/- THE LAST THEOREM (shape; LID, My.* are yours):
   My.Adr: a structure of the addresses that your layer names (classes, functions); My.Txt K t: a structure (Prop) of the equations over K;
   My.txt_mk : {K} {implicit addresses ..} (e1 : nsIn K mainGlobals "law" = some (some (.ref f))) (e2 : K.lookup f = some ⟨oc, od, .func (fnOf "law" "law" params body scope dV kV doc pm an cdv ct), sl⟩) (e3 : codeIn K cdv "law" = true) .. : ∃ t, My.Txt K t

set_option maxRecDepth 100000 in
set_option maxHeartbeats 0 in
(the tactic k_is has no namespace: write k_is) -/

/-! SHORT WORDS over the layer: a def of the text, its body, what a loop and a test want. -/
namespace L2
open PySem PySem.Spec PyProof.Rows

/-! ### the text by places -/
/-- the j-th statement of a class's body -/
def inClass (s : Stmt) (j : Nat) : Stmt := match s with
  | .ClassDef _ _ _ body _ _ _ _ _ _ _ => body.getD j (.Pass ⟨0, 0, 0, 0⟩)
  | _ => .Pass ⟨0, 0, 0, 0⟩
def defArgs (s : Stmt) : Arguments := match s with
  | .FunctionDef _ a _ _ _ _ _ _ _ _ => a
  | _ => { posonlyargs := [], args := [], vararg := none, kwonlyargs := [], kw_defaults := [], kwarg := none, defaults := [] }
def defBody (s : Stmt) : List Stmt := match s with
  | .FunctionDef _ _ b _ _ _ _ _ _ _ => b
  | _ => []
def defScope (s : Stmt) : Scope := match s with
  | .FunctionDef _ _ _ _ _ _ sc _ _ _ => sc
  | _ => { kind := .function, names := [], isGenerator := false, isCoroutine := false }

/-! ### no exception leaves a def -/
abbrev CX0 : CXT := fun _ _ _ _ _ _ => False
abbrev E0 : XK := fun _ _ _ => False
theorem pass0 {X : Cx} : Passes CX0 X E0 := fun _ _ _ _ _ _ _ h => h.elim

/-! ### a def (or method) of the text as it stands behind the top -/
structure Fun (K : PySem.W.Frag) (x qual : Str) (st : Stmt) (f : Addr) (fd : FuncData) : Prop where
  ex : ∃ (oc : Value) (od : Option Addr) (kV doc pm : Value) (an : Option Addr) (cdv ct : Value) (osl : Array (Option Value)),
    fd = PySem.W.fnOf x qual (defArgs st) (defBody st) (defScope st) .none kV doc pm an cdv ct ∧ K.lookup f = some ⟨oc, od, .func fd, osl⟩ ∧ PySem.W.codeIn K cdv qual = true
  kp : PySem.W.keepIn K (.ref f) = true
section
variable {P : Program} {w : World} {K : PySem.W.Frag} {mg : Str → Option Value} {base : Heap}
/-- THE RULE for a def: its body as a term of rules, and the reading of that term -/
theorem Fun.ok {x qual : Str} {st : Stmt} {f : Addr} {fd : FuncData} {N ps : List Str} {k : Nat} {sp : Sp} (F : Fun K x qual st f fd) (S : FnScope N ps (defScope st)) (len : ∀ vs H Q E, sp vs H Q E → vs.length = ps.length)
    (hbody : ∀ (cdv : Value) (A : Around) (outer : List Env) (s : Shared) (H : Hp) (vs : List V) (Q : VK) (E : XK), Room k (A.deeper (envOfC qual (defScope st) s.heap.objs.size f cdv)) → sp vs H Q E →
      ∃ t, PSs (cxOf CX0 P w K mg base N qual (defScope st) f cdv A outer s H E).nox (defBody st) t ∧ t { nx := fun _ H' => Q .non H', rt := Q } (start N vs) H) : FnOk P w K mg base CX0 (k + 1) f fd ps sp := by
  obtain ⟨oc, od, kV, doc, pm, an, cdv, ct, osl, rfl, lk, hcd⟩ := F.ex
  refine fn_of lk hcd S len fun A outer s H vs Q E hr hsp => ?_
  obtain ⟨t, h, q⟩ := hbody cdv A outer s H vs Q E hr hsp
  exact ⟨t, h.nox, q⟩
/-- how its arguments bind (no defaults): h is «fun _ _ _ _ _ _ us hl => match us, hl with | [_, _], _ => rfl», one _ a parameter -/
theorem Fun.binds {x qual : Str} {st : Stmt} {f : Addr} {fd : FuncData} {ps : List Str} (F : Fun K x qual st f fd)
    (h : ∀ (kV doc pm : Value) (an : Option Addr) (cdv ct : Value) (us : List Value), us.length = ps.length → bindArgs (PySem.W.fnOf x qual (defArgs st) (defBody st) (defScope st) .none kV doc pm an cdv ct) ⟨us, []⟩ = pure (ps.zip us)) : Binds K fd ps [] := by
  obtain ⟨oc, od, kV, doc, pm, an, cdv, ct, osl, rfl, lk, hcd⟩ := F.ex
  exact .all (h kV doc pm an cdv ct)
theorem fun_mk {x qual : Str} {st : Stmt} {f : Addr} {oc : Value} {od an : Option Addr} {osl : Array (Option Value)} {kV doc pm cdv ct : Value} (l : K.lookup f = some ⟨oc, od, .func (PySem.W.fnOf x qual (defArgs st) (defBody st) (defScope st) .none kV doc pm an cdv ct), osl⟩)
    (c : PySem.W.codeIn K cdv qual = true) (k : PySem.W.keepIn K (.ref f) = true) : Fun K x qual st f (PySem.W.fnOf x qual (defArgs st) (defBody st) (defScope st) .none kV doc pm an cdv ct) := ⟨⟨oc, od, kV, doc, pm, an, cdv, ct, osl, rfl, l, c⟩, k⟩
end

/-! ### expressions in short: the name that stands in the i-th slot -/
section
variable {X : Cx}
theorem pv (i : Nat) {x : Str} {pos : Pos} (hN : X.N[i]? = some x := by rfl) (hv : Vis X.env.scope x := by first | exact Or.inl rfl | exact Or.inr (Or.inl rfl) | exact Or.inr (Or.inr rfl)) (hd : (x == ("__debug__" : Str)) = false := by decide)
    (hcd : (x == ("__classdict__" : Str)) = false := by decide) : PE X (.Name x pos) (tVar i) := pe_var hN hv hd hcd
end

/-! ### tests -/
theorem iteF {A B : Prop} (h : B) : if false = true then A else B := by
  rw [if_neg Bool.false_ne_true]
  exact h
theorem iteT {A B : Prop} (h : A) : if true = true then A else B := by
  rw [if_pos rfl]
  exact h
theorem ite2 {c A B : Prop} [Decidable c] (h1 : c → A) (h2 : ¬ c → B) : if c then A else B := by
  by_cases h : c
  · rw [if_pos h]
    exact h1 h
  · rw [if_neg h]
    exact h2 h

/-! ### heaps -/
/-- all that was tracked is as it was -/
def Same (H H' : Hp) : Prop := ∀ b o, H b = some o → H' b = some o
theorem Same.refl (H : Hp) : Same H H := fun _ _ h => h
theorem Same.trans {H H1 H2 : Hp} (a : Same H H1) (b : Same H1 H2) : Same H H2 := fun c o h => b c o (a c o h)
theorem Same.free {H H' : Hp} (e : Same H H') {l : Addr} (h : H' l = Option.none) : H l = Option.none := by
  cases q : H l with
  | none => rfl
  | some o =>
    rw [e l o q] at h
    cases h
theorem Same.seq {K : PySem.W.Frag} {H H' : Hp} {a : Addr} {xs : List V} (e : Same H H') (h : SqL K H a xs) : SqL K H' a xs := by
  rcases h with (h | ⟨o, h⟩) | h
  · exact .inl (.inl (e _ _ h))
  · exact .inl (.inr ⟨o, e _ _ h⟩)
  · exact .inr h

/-! ### a dict's pairs: keys that differ -/
/-! ### lists -/
theorem nd_ix {α : Type} {l : List α} (hN : l.Nodup) {i j : Nat} {x : α} (a : l[i]? = some x) (b : l[j]? = some x) : i = j := by
  obtain ⟨h1, e1⟩ := List.getElem?_eq_some_iff.mp a
  obtain ⟨h2, e2⟩ := List.getElem?_eq_some_iff.mp b
  exact (List.getElem_inj hN).mp (e1.trans e2.symm)
/-- a new instance and its __init__ leave all that was tracked as it was -/
theorem Same.made {H H1 : Hp} {x dx C : Addr} (nx : H x = Option.none) (nd : H dx = Option.none) (k : ∀ b o, (upd (upd H dx (.own x)) x (.ins C dx [])) b = some o → b ≠ x → H1 b = some o) : Same H H1 := fun b o e =>
  k b o (by rw [upd_ne (ne_of_none e nx), upd_ne (ne_of_none e nd)]; exact e) (ne_of_none e nx)
end L2

/-! Rules of my own over the hand layer: insert, count, list(range(n)), a dict of the module. -/
namespace L2
open PySem PySem.Spec PyProof.Rows
section
variable {X : Cx}
/-- xs.insert(k, y), k within the list -/
def rInsert : V → List V → Hp → VK → Prop := fun x vs H Q => ∃ (l : Addr) (xs : List V) (k : Nat) (y : V), x = .ref l ∧ vs = [.int (k : Int), y] ∧ H l = some (.lst xs) ∧ k ≤ xs.length ∧ xs.length < sizeLine ∧ Q .non (upd H l (.lst (xs.take k ++ y :: xs.drop k)))
theorem mt_insert : MtM X "list.insert" rInsert := by
  intro pins s σ H x vs v us Q I rx rv h
  obtain ⟨l, xs, k, y, rfl, rfl, hH, hk, hz, q⟩ := h
  cases rx
  obtain ⟨u, u2, rfl, ru, ru2⟩ := rv.two
  obtain ⟨t, rfl⟩ := ru
  obtain ⟨z0, its, n, r, hl, e⟩ := I.lstM hH
  have hs := sizeLine_eq
  have hfit : ¬ (!Builtin.List.listFitsIndex (k : Int)) = true := by
    rw [fitsIndex_both (by omega) (by omega)]
    exact Bool.false_ne_true
  have hz2 : its.toArray.size ≤ sizeLine := by rw [List.size_toArray]; omega
  generalize hzk : (k : Int) = z at hfit
  have M := AutoSeq1.list_insert_list_int_val_1 l its.toArray n z t u2 hfit hz2
  refine call_meets F.slot_list_insert ⟨_, e, rfl⟩ F.entry_list_insert (F.args_list_insert_3 _ _ _) M ⟨e, ?_⟩
  refine ⟨.non, _, I.lset (its' := its.take k ++ u2 :: its.drop k) hH e ?_ ((r.take k).append (.cons ru2 (r.drop k))) ?_, rfl, q⟩
  · have hk' : k ≤ its.length := by omega
    have e0 : ¬ (z < 0) := by omega
    have e1 : z.toNat = k := by omega
    show ((its.toArray.extract 0 (if z < 0 then (z + (its.toArray.size : Int)).toNat else min z.toNat its.toArray.size)).push u2 ++ its.toArray.extract (if z < 0 then (z + (its.toArray.size : Int)).toNat else min z.toNat its.toArray.size)) = (its.take k ++ u2 :: its.drop k).toArray
    rw [if_neg e0, e1, List.size_toArray, Nat.min_eq_left hk']
    apply Array.ext'
    simp
    rw [List.take_of_length_le (by rw [List.length_drop]; exact Nat.le_refl _)]
  · rw [List.length_append, List.length_cons, List.length_take, List.length_drop]
    omega
theorem countP_eqU {x : V} : ∀ {xs : List V} {us : List Value}, Vals xs us → xs.all flatV = true → us.countP (eqU x) = xs.countP fun y => eqV y x
  | _, _, .nil, _ => rfl
  | y :: xs, u :: us, .cons r t, f => by
    rw [List.all_cons, Bool.and_eq_true] at f
    rw [List.countP_cons, List.countP_cons, eqU_of r f.1, countP_eqU t f.2]
/-- xs.count(y), flat items -/
def rCount (K : PySem.W.Frag) : V → List V → Hp → VK → Prop := fun x vs H Q => ∃ (a : Addr) (ys : List V) (y : V), x = V.ref a ∧ vs = [y] ∧ SqL K H a ys ∧ flatV y = true ∧ ys.all flatV = true ∧ Q (.int ((ys.countP fun z => eqV z y : Nat) : Int)) H
theorem mt_count_ls : MtR X "list.count" (rCount X.K) := by
  intro pins s σ H x vs v us Q I rx rv h
  obtain ⟨a, ys, y, rfl, rfl, hs, fy, fys, q⟩ := h
  cases rx
  obtain ⟨uy, rfl, ry⟩ := rv.one
  obtain ⟨its, rv', ⟨⟨cls, dd, data, sl⟩, n, ho, hc, hdn, hd⟩, hlen⟩ := I.list hs
  simp only at hc hd
  subst hc hd
  refine call_meets PySem.F.slot_list_count ⟨_, ho, rfl⟩ PySem.F.entry_list_count (PySem.F.args_list_count_2 _ _)
    (SeqAt.list_countAt a its.toArray n dd sl uy (eqU y)) ⟨ho, fun u' hu' => mem_eqAt ry fy rv' fys u' (by simpa using hu'), ?_⟩
  have e : its.toArray.toList.countP (eqU y) = ys.countP fun z => eqV z y := by
    simpa using countP_eqU rv' fys
  rw [e]
  exact ⟨.int _, H, I.tok _, ⟨_, rfl⟩, q⟩
/-- range(n) as a value -/
theorem call_rng1 : CallR X (.type "range") (fun vs H Q => ∃ j : Int, vs = [.int j] ∧ ∀ p, H p = none → Q (.ref p) (upd H p (.rng 0 j))) := by
  intro pins s σ H vs us Q I r h
  obtain ⟨j, rfl, q⟩ := h
  obtain ⟨u, rfl, t, rfl⟩ := vals1 r
  refine call_range_1 ?_
  refine ⟨.ref s.heap.objs.size, _, I.laid (o := .rng 0 j) (fun _ _ q => Heap.get?_push_of_some _ q) (Nat.le_refl _) ?_, rfl, q _ (I.hok.fresh (Nat.le_refl _))⟩
  exact ⟨_, _, _, Heap.get?_push_size _ rfl⟩
theorem vals_of_get : ∀ {xs : List V} {us : List Value}, xs.length = us.length → (∀ (i : Nat) (x : V) (u : Value), xs[i]? = some x → us[i]? = some u → RelV x u) → Vals xs us
  | [], [], _, _ => .nil
  | [], _ :: _, h, _ => by simp at h
  | _ :: _, [], h, _ => by simp at h
  | x :: xs, u :: us, h, f => .cons (f 0 x u rfl rfl) (vals_of_get (by simpa using h) fun i y w hy hw => f (i + 1) y w (by simpa using hy) (by simpa using hw))
theorem vals_items {a : Int} : ∀ {n : Nat} {acc : Array Value}, ItemsOf (fun i v => ∃ t, v = Value.int (a + i * 1) t) acc n → Vals ((List.range n).map fun i : Nat => V.int (a + i)) acc.toList := by
  intro n acc h
  obtain ⟨h1, h2⟩ := h
  refine vals_of_get (by simp [h1]) fun i x u hx hu => ?_
  have hi : acc[i]? = some u := by rw [← Array.getElem?_toList]; exact hu
  obtain ⟨t, rfl⟩ := h2 i u hi
  rw [List.getElem?_map] at hx
  have hin : i < n := by
    rw [← h1]
    exact (Array.getElem?_eq_some_iff.mp hi).1
  rw [List.getElem?_range hin] at hx
  have e : V.int (a + (i : Int)) = x := Option.some.inj hx
  subst e
  exact ⟨t, by rw [Int.mul_one]⟩
/-- list(range(..)) -/
theorem call_list_rng (hc : X.calm = true) : CallR X (.type "list") (fun vs H Q => ∃ (p : Addr) (n : Nat), vs = [.ref p] ∧ H p = some (.rng 0 (n : Int)) ∧ n ≤ sizeLine ∧ ∀ l, H l = none → Q (.ref l) (upd H l (.lst ((List.range n).map fun i : Nat => V.int (i : Int))))) := by
  intro pins s σ H vs us Q I r h
  obtain ⟨p, n, rfl, hp, hn, q⟩ := h
  obtain ⟨u, rfl, rx⟩ := vals1 r
  cases rx
  obtain ⟨t, u, v, e⟩ := I.hok p _ hp
  have hs := sizeLine_eq
  refine PySem.call_list_range (a := 0) (b := (n : Int)) (c := 1) (t := t) (u := u) (v := v) (n := n) (I.ok.hd hc) e (small_one (by omega) (by omega) (by omega) (by omega)) ?_ hn fun h' tk acc c' hk hl hi => ?_
  · rw [rangeSize_one]; split <;> omega
  · refine ⟨.ref s.heap.objs.size, _, I.laid (t' := tk) (o := .lst ((List.range n).map fun i : Nat => V.int (i : Int))) hk (Nat.le_refl _) ?_, rfl, q _ (I.hok.fresh (Nat.le_refl _))⟩
    have hv := vals_items hi
    refine ⟨by simpa using hn, acc.toList, c', ?_, by simpa using hl⟩
    simpa using hv
end
/-- over enumerate of a list that the body leaves as it is: T the pair -/
theorem for_enum {K : PySem.W.Frag} {a : Addr} {xs : List V} {g : TG} {tb : TS} {D : Ends} {σ : St} {H : Hp} (Pv : Nat → St → Hp → Prop) (h0 : Pv 0 σ H) (hl : ∀ i σ H, i ≤ xs.length → Pv i σ H → SqL K H a xs)
    (hs : ∀ i x σ H T, xs[i]? = some x → Pv i σ H → H T = none → g (.ref T) σ (upd H T (.tup [.int (i : Nat), x])) fun σ2 H2 => tb { D with nx := Pv (i + 1), ct := Pv (i + 1), bk := D.nx } σ2 H2) (hd : ∀ σ H, Pv xs.length σ H → D.nx σ H) :
    ∃ W : Nat → Nat → St → Hp → Prop, (∃ m, W 0 m σ H) ∧ ∀ i m σ H, W i m σ H →
      ((Ite K a).stop i H ∧ D.nx σ H) ∨ ((Ite K a).go i H ∧ ∃ N : St → Hp → Prop, (∀ σ' H', N σ' H' → ∃ m', m' < m ∧ W (i + 1) m' σ' H') ∧ ∀ x H', (Ite K a).yld i H x H' → g x σ H' fun σ2 H2 => tb { D with nx := N, ct := N, bk := D.nx } σ2 H2) := by
  refine ⟨fun i m σ H => m + i = xs.length ∧ Pv i σ H, ⟨xs.length, by omega, h0⟩, fun i m σ H hW => ?_⟩
  obtain ⟨hm, hp⟩ := hW
  have hq := hl i σ H (by omega) hp
  cases m with
  | zero =>
    have hi : i = xs.length := by omega
    exact .inl ⟨⟨xs, hq, by omega⟩, hd σ H (by rw [← hi]; exact hp)⟩
  | succ m =>
    have hi : i < xs.length := by omega
    refine .inr ⟨⟨xs, xs[i], hq, List.getElem?_eq_getElem hi⟩, Pv (i + 1), fun σ' H' h' => ⟨m, Nat.lt_succ_self m, by omega, h'⟩, fun v H' hy => ?_⟩
    obtain ⟨T, x, rfl, hT, rfl, hx⟩ := hy
    exact hs i x σ H T (hx xs hq) hp hT
/-- the turns of a step range, for a comprehension -/
theorem lc_rangeC {lo c : Int} {n : Nat} {g : TG} {tt : TT} {te : TE} {vs : List Nat} {σ : St} {H1 : Hp} {D : Addr} {Qd : Hp → Prop} (Pv : Nat → Hp → Prop) (h0 : Pv 0 (upd H1 D (.lst [])))
    (hs : ∀ i H, i < n → Pv i H → g (.int (lo + (i : Nat) * c)) (wipe σ vs) H fun σ2 H2 => wipe σ2 vs = wipe σ vs ∧ tt σ2 H2 fun b H3 =>
      if b = true then te σ2 H3 fun y H4 => ∃ acc, H4 D = some (.lst acc) ∧ acc.length < sizeLine ∧ Pv (i + 1) (upd H4 D (.lst (acc ++ [y]))) else Pv (i + 1) H3) (hd : ∀ H, Pv n H → Qd H) :
    ∃ W : Nat → Nat → Hp → Prop, (∃ m, W 0 m (upd H1 D (.lst []))) ∧ ∀ i m H, W i m H →
      ((Itc lo c n).stop i H ∧ Qd H) ∨ ((Itc lo c n).go i H ∧ ∃ Nx : Hp → Prop, (∀ H', Nx H' → ∃ m', m' < m ∧ W (i + 1) m' H') ∧ ∀ x H', (Itc lo c n).yld i H x H' → g x (wipe σ vs) H' fun σ2 H2 => wipe σ2 vs = wipe σ vs ∧ tt σ2 H2 fun b H3 =>
        if b = true then te σ2 H3 fun y H4 => ∃ acc, H4 D = some (.lst acc) ∧ acc.length < sizeLine ∧ Nx (upd H4 D (.lst (acc ++ [y]))) else Nx H3) := by
  refine ⟨fun i m H => m + i = n ∧ Pv i H, ⟨n, by omega, h0⟩, fun i m H hW => ?_⟩
  obtain ⟨hm, hp⟩ := hW
  cases m with
  | zero =>
    have hi : i = n := by omega
    subst hi
    exact .inl ⟨Nat.le_refl _, hd H hp⟩
  | succ m =>
    have hi : i < n := by omega
    refine .inr ⟨hi, Pv (i + 1), fun H' h' => ⟨m, Nat.lt_succ_self m, by omega, h'⟩, fun v H' hy => ?_⟩
    obtain ⟨e, y⟩ := hy
    subst e y
    exact hs i _ hi hp
/-! ### a table of the module: whole numbers by whole numbers -/
def tabEs : List DictEntry → Option (List (Int × Int))
  | [] => some []
  | e :: r => match e.key, e.val, tabEs r with
    | .int k _, .int v _, some l => if e.hash = hashInt k then some ((k, v) :: l) else none
    | _, _, _ => none
structure Tab (K : PySem.W.Frag) (d : Addr) (l : List (Int × Int)) : Prop where
  ob : ∃ (o : Obj) (es : Array DictEntry) (ep : Nat), K.lookup d = some o ∧ o.ExactDict ∧ o.data = .dict es ep ∧ tabEs es.toList = some l
  nd : (l.map (·.1)).Nodup
theorem tab_pairs (P : Program) (w : World) : ∀ {es : List DictEntry} {l : List (Int × Int)}, tabEs es = some l → ∃ vs : List (Int × Value), Pairs (intKind P w) es vs ∧ vs.map (·.1) = l.map (·.1) ∧
    (∀ e, e ∈ es → ∃ k, (intKind P w).is k e.key = true ∧ e.hash = (intKind P w).hash k) ∧ ∀ k v, l.lookup k = some v → ∃ t, valueAt vs k = some (.int v t)
  | [], l, h => by
    have e : [] = l := Option.some.inj h
    subst e
    exact ⟨[], .nil, rfl, (fun e h => by cases h), (fun k v h => by cases h)⟩
  | e :: r, l, h => by
    obtain ⟨hs, key, val⟩ := e
    unfold tabEs at h
    cases q : tabEs r with
    | none => rw [q] at h; cases key <;> first | cases h | (cases val <;> cases h)
    | some l' =>
      rw [q] at h
      cases key with
      | int k tk =>
        cases val with
        | int v tv =>
          have h : (if hs = hashInt k then some ((k, v) :: l') else none) = some l := h
          by_cases c : hs = hashInt k
          · rw [if_pos c] at h
            have e := Option.some.inj h
            subst e
            obtain ⟨vs, p1, p2, p3, p4⟩ := tab_pairs P w q
            refine ⟨(k, .int v tv) :: vs, .cons (intKind_is P w k tk) rfl p1, by simp [p2], fun e he => ?_, fun k' v' hk => ?_⟩
            · rcases List.mem_cons.mp he with z | z
              · subst z
                exact ⟨k, intKind_is P w k tk, c⟩
              · exact p3 e z
            · by_cases z : k' = k
              · subst z
                rw [List.lookup_cons_self] at hk
                have e := Option.some.inj hk
                subst e
                exact ⟨tv, by unfold valueAt; simp⟩
              · have hb : (k' == k) = false := by simpa using z
                rw [List.lookup_cons, hb] at hk
                obtain ⟨t, ht⟩ := p4 k' v' hk
                refine ⟨t, ?_⟩
                unfold valueAt at ht ⊢
                rw [List.find?_cons]
                have hz : decide (k = k') = false := decide_eq_false fun y => z y.symm
                simp only [hz]
                exact ht
          · rw [if_neg c] at h; cases h
        | _ => cases h
      | _ => cases h
section
variable {X : Cx}
def tTab (K : PySem.W.Frag) (td ty : TE) : TE := fun σ H Q => td σ H fun x H1 => ty σ H1 fun y H2 => ∃ (d : Addr) (l : List (Int × Int)) (k v : Int), x = .ref d ∧ y = .int k ∧ Tab K d l ∧ l.lookup k = some v ∧ Q (.int v) H2
theorem pe_tab {o i : Expr} {td ty : TE} {pos : Pos} (ho : PE X o td) (hi : PE X i ty) (hs : NoSl i) : PE X (.Subscript o i pos) (tTab X.K td ty) := by
  intro pins s σ H Q I h
  refine subD_of PySem.F.slot_dict_getitem.lookup hs (thn (ho pins s σ H _ I h) fun u s1 ⟨x, H1, I1, rx, q1⟩ => thn (hi pins s1 σ H1 _ I1 q1) fun iv s2 ⟨y, H2, I2, ry, d, l, k, v, ex, ey, tb, hk, q2⟩ => ?_)
  subst ex ey
  obtain rfl : u = Value.ref d := rx
  obtain ⟨tk, rfl⟩ := ry
  obtain ⟨o, es, ep, lk, ed, dd, ht⟩ := tb.ob
  obtain ⟨vs, p1, p2, p3, p4⟩ := tab_pairs X.prog X.w ht
  obtain ⟨t, hv⟩ := p4 k v hk
  have D : s2.heap.DictOf (intKind X.prog X.w) d vs := ⟨o, es, ep, I2.kIn d o lk, ed, dd, fun e he => p3 e (by simpa using he), p1, by rw [p2]; exact tb.nd⟩
  exact ⟨D.mapOf.typeIs, wpAny_getItem_of (intKind_is X.prog X.w k tk) D.mapOf hv ⟨.int v, H2, I2.tok _, ⟨t, rfl⟩, q2⟩⟩
/-- max(i, j) -/
theorem cr_max2 (hc : X.calm = true) : CallR X (.builtin "max") (fun vs H Q => ∃ i j : Int, vs = [.int i, .int j] ∧ Q (.int (max i j)) H) := by
  intro pins s σ H vs us Q I r h
  obtain ⟨i, j, rfl, q⟩ := h
  obtain ⟨t, u, rfl⟩ := Vals.int2 r
  refine PySem.max_two_ints (I.ok.hd hc) fun h' tk hk => ?_
  by_cases c : j > i
  · rw [if_pos c]
    have e : max i j = j := by omega
    rw [e] at q
    exact ⟨.int j, H, I.kept hk, ⟨_, rfl⟩, q⟩
  · rw [if_neg c]
    have e : max i j = i := by omega
    rw [e] at q
    exact ⟨.int i, H, I.kept hk, ⟨_, rfl⟩, q⟩
end
end L2

/-! The head for a row of the form: one list of whole numbers in, one out; over the hand layer's promises. -/
namespace L2
open PySem PySem.Spec PyProof.Rows
/-- the call of a def that promises a list of whole numbers -/
theorem spec_call {P : Program} {w : World} {K : PySem.W.Frag} {mg mb : Str → Option Value} {k : Nat} {fa a : Addr} {fd : FuncData} {x : Str} {sp : Sp} {s₁ : Shared} {vs : List Value} {ns out : List Int}
    (KX : K.In s₁.heap) (hns : s₁.heap.Ns mainGlobals mg) (hb : s₁.heap.Ns builtinsNs mb) (hbb : ∀ x : Str, x ≠ "__name__" → mb x = bootBuiltins x) (hlim : s₁.heap.NoLimit) (hg : s₁.gens = #[])
    (ha : s₁.heap.get? a = some { cls := .type "list", data := .seq vs.toArray }) (hi : IntsAre vs ns) (hl : ns.length ≤ sizeLine) (hr : Room k callerA)
    (F : ∀ base : Heap, K.In base → base.Ns mainGlobals mg → FnOk P w K mg base CX0 k fa fd [x] sp) (hbind : ∀ (s : Shared) (u : Value), BindsTo s fd ⟨[u], []⟩ [(x, u)])
    (hsp : ∀ H : Hp, Only H → SqL K H a (ns.map V.int) → sp [.ref a] H (fun v H' => ∃ l, v = .ref l ∧ H' l = some (.lst (out.map V.int))) E0) :
    codeAny (model P w) callerA (.call (.ref fa) ⟨[.ref a], []⟩) (fun r s' => (∃ (l : Addr) (its : List Value) (n : Nat), r = .ok (.ret (.ref l)) ∧ s'.heap.get? l = some { cls := .type "list", data := .seq its.toArray n } ∧ IntsAre its out) ∧ OldK s₁.heap s'.heap ∧ s'.os = s₁.os ∧ AllBare s'.gens) s₁ := by
  have rv := vals_ints hi
  have hlen := hi.length
  -- T: what is tracked at the entry: nothing, or what was handed in, frozen
  suffices main : ∀ T : Hp, Only T → SqL K T a (ns.map V.int) → HOk P w T s₁.heap → (∀ b u, T b = some u → b = a ∧ K.lookup a = none) →
      codeAny (model P w) callerA (.call (.ref fa) ⟨[.ref a], []⟩) (fun r s' => (∃ (l : Addr) (its : List Value) (n : Nat), r = .ok (.ret (.ref l)) ∧ s'.heap.get? l = some { cls := .type "list", data := .seq its.toArray n } ∧ IntsAre its out) ∧ OldK s₁.heap s'.heap ∧ s'.os = s₁.os ∧ AllBare s'.gens) s₁ by
    cases e : K.lookup a with
    | some ob =>
      have z := KX a ob e
      rw [ha] at z
      have z' := Option.some.inj z
      subst z'
      refine main (fun _ => none) (fun _ => .inl rfl) (.inr ⟨_, vs.toArray, _, e, rfl, rfl, rfl, by rw [List.size_toArray]; omega, by simpa using rv⟩) (fun b u q => ?_) fun b u q => ?_
      · have q' : (none : Option HO) = some u := q
        cases q'
      · have q' : (none : Option HO) = some u := q
        cases q'
    | none =>
      have tr : ∀ b u, upd (fun _ => none) a (.frz { cls := .type "list", data := .seq vs.toArray } (.lst (ns.map V.int))) b = some u → b = a ∧ u = .frz { cls := .type "list", data := .seq vs.toArray } (.lst (ns.map V.int)) := fun b u q => by
        by_cases z : b = a
        · subst z
          rw [upd_same] at q
          exact ⟨rfl, (Option.some.inj q).symm⟩
        · rw [upd_ne z] at q
          cases q
      refine main (upd (fun _ => none) a (.frz { cls := .type "list", data := .seq vs.toArray } (.lst (ns.map V.int)))) (fun b => ?_) (.inl (.inr ⟨_, upd_same⟩)) (fun b u q => ?_) fun b u q => ⟨(tr b u q).1, e⟩
      · by_cases z : b = a
        · subst z; exact .inr ⟨_, _, upd_same⟩
        · exact .inl (upd_ne z)
      · obtain ⟨rfl, rfl⟩ := tr b u q
        exact ⟨ha, by rw [List.length_map]; exact hl, vs, _, rv, ha⟩
  intro T hO hS hok hT
  -- the heap without what is tracked is the base
  have free : ∀ {b : Addr} {o : Obj} {es : Array DictEntry} {ep : Nat}, s₁.heap.get? b = some o → o.data = .dict es ep → T b = none := fun {b o es ep} e dd => by
    cases q : T b with
    | none => rfl
    | some u =>
      obtain ⟨rfl, _⟩ := hT b u q
      rw [ha] at e
      have e' := Option.some.inj e
      subst e'
      cases dd
  have nsOf : ∀ {b : Addr} {m : Str → Option Value}, s₁.heap.Ns b m → (hidT s₁.heap T).Ns b m := fun {b m} ⟨o, es, ep, e, dd, r⟩ => ⟨o, es, ep, hidT_get e (free e dd), dd, r⟩
  have kb : K.In (hidT s₁.heap T) := fun b o e => hidT_get (KX b o e) (by
    cases q : T b with
    | none => rfl
    | some u =>
      obtain ⟨rfl, z⟩ := hT b u q
      rw [e] at z
      cases z)
  have md : Mod K mg (hidT s₁.heap T) := ⟨kb, nsOf hns, ⟨mb, nsOf hb, hbb⟩, let ⟨mc, h1, h2⟩ := hlim; ⟨mc, nsOf h1, h2⟩⟩
  have en : Env0 P w K mg (hidT s₁.heap T) callerA [] s₁ T := ⟨rfl, md, fun b o e => of_hidT e, Nat.le_of_eq (hidT_size _ _), trivial, fun b z => absurd (show b ∈ ([] : List Addr) from z) (by simp), hok, .of_eq hg⟩
  have run := (F _ kb (nsOf hns)).run callerA [] s₁ T ⟨[.ref a], []⟩ [.ref a] [.ref a] _ _ hr en (hbind s₁ (.ref a)) (.cons rfl .nil) (hsp T hO hS)
  refine codeAny_mono run fun r s' h => ?_
  cases r with
  | error e => exact False.elim h
  | ok fl =>
    cases fl with
    | next => exact False.elim h
    | brk => exact False.elim h
    | cont => exact False.elim h
    | ret u =>
      obtain ⟨v, H', os, bare, un, hok', r', l, rfl, hl'⟩ := h
      obtain rfl : u = Value.ref l := r'
      obtain ⟨_, its, n, rits, eo⟩ := hok' l _ hl'
      refine ⟨⟨l, its, n, rfl, eo, rits.ints⟩, OldK.of_keep fun b o e => ?_, os, bare⟩
      cases q : T b with
      | none => exact un.keep b o e q (fun z => absurd (show b ∈ ([] : List Addr) from z) (by simp)) (by simp)
      | some u =>
        rcases hO b with z | ⟨ob, xs, z⟩
        · rw [q] at z; cases z
        · obtain ⟨e1, _⟩ := hok b _ z
          obtain ⟨e2, _⟩ := hok' b _ (un.frzs b ob _ z)
          rw [e] at e1
          have e1' := Option.some.inj e1
          subst e1'
          exact e2
open PySem.W in
theorem spec_walk {prog : Program} {name : Str} {le mo l2 m2 k : Nat} {lo hi lo2 hi2 : Int} {asked : List Int → Bool} {f : List Int → List Int} {q : Program} {loose : List Str} {XP : (Str → Option Value) → Heap → Prop} {YP : World → Heap → Prop} {d : DefRec} {K : Params → PySem.W.Frag} {sp : PySem.W.Frag → Sp} {x : Str}
    (said : (PySem.W.OpenSpec.mk prog name [.list le mo (.int lo hi)] (.list l2 m2 (.int lo2 hi2)) asked f).wellSaid = true)
    (hmo : mo ≤ sizeLine) (hdf : d.params.defaults = []) (hr : Room k callerA)
    (hY : ∀ (w : World) (h : Heap), YP w h → (K w.params).In h)
    (F : ∀ (w : World) (mg : Str → Option Value) (fa : Addr) (h : Heap), (K w.params).In h → h.Ns mainGlobals mg → mg d.name = some (.ref fa) →
      ∃ fd : FuncData, (∀ (s : Shared) (u : Value), BindsTo s fd ⟨[u], []⟩ [(x, u)]) ∧ ∀ base : Heap, (K w.params).In base → base.Ns mainGlobals mg → FnOk prog w (K w.params) mg base CX0 k fa fd [x] (sp (K w.params)))
    (hsp : ∀ (K : PySem.W.Frag) (H : Hp) (a : Addr) (ns : List Int), ns.length ≤ mo → (∀ z, z ∈ ns → lo ≤ z ∧ z ≤ hi) → asked ns = true → Only H → SqL K H a (ns.map V.int) →
      sp K [.ref a] H (fun v H' => ∃ l, v = .ref l ∧ H' l = some (.lst ((f ns).map V.int))) E0) :
    WalkOS q loose XP YP (PySem.W.OpenSpec.mk prog name [.list le mo (.int lo hi)] (.list l2 m2 (.int lo2 hi2)) asked f) d [] (fun f vs => PySem.call f vs) := by
  intro w s₀ s₁ mg mb G Y fa o pm cd doc dV kV ho hd hcd hD hmg hg args vals as hpre hlay hrd hwl hlo
  obtain ⟨v, hw, hask, rfl⟩ := os_pre said hpre
  obtain ⟨ns, u⟩ := v
  have hw' : (Codec.inList le mo (Codec.inInt lo hi) ns && true) = true := hw
  have hask' : asked ns = true := hask
  rw [Bool.and_true] at hw'
  unfold Codec.inList at hw'
  rw [Bool.and_eq_true] at hw'
  obtain ⟨hw1, hw2⟩ := hw'
  have hlen : ns.length ≤ mo := by
    unfold Codec.inLen Codec.inNat at hw1
    rw [Bool.and_eq_true] at hw1
    exact of_decide_eq_true hw1.2
  have hbd : ∀ z, z ∈ ns → lo ≤ z ∧ z ≤ hi := fun z hz => by
    have h := List.all_eq_true.mp hw2 z hz
    unfold Codec.inInt at h
    rw [Bool.and_eq_true] at h
    exact ⟨of_decide_eq_true h.1, of_decide_eq_true h.2⟩
  have hwl' : WellAll w.params s₁.heap vals [WData.list (ns.map WData.int)] := hwl
  obtain ⟨a, vs, rfl, hobj, hints⟩ : ∃ a vs, vals = [Value.ref a] ∧ s₁.heap.get? a = some { cls := .type "list", data := .seq vs.toArray } ∧ IntsAre vs ns := by
    cases hwl' with
    | cons w1 w2 =>
      cases w2
      cases w1 with
      | list ho hall => exact ⟨_, _, rfl, ho, Att.ints_of_wellAll ns _ hall⟩
  have KX := hY w _ Y
  obtain ⟨fd, hb, hF⟩ := F w mg fa _ KX G.T.g hmg
  refine enter_call (codeAny_mono (spec_call (out := f ns) KX G.T.g G.T.b G.T.builtins G.T.nolimit hg hobj hints (Nat.le_trans hlen hmo) hr hF hb fun H hO hS => hsp (K w.params) H a ns hlen hbd hask' hO hS) fun r s' hq => ?_)
  obtain ⟨⟨l, its, n, rfl, eo, hits⟩, h2, h3, h4⟩ := hq
  refine ⟨.inl ⟨.ref l, .list ((f ns).map WData.int), [l], rfl, fun _ => rfl, ?_, ?_, fun z => absurd z Bool.false_ne_true⟩, h2, h3, h4⟩
  · have hr := readsAllW_ints (R := []) (cl := classAt s₀.heap) (h := s'.heap) hits
    rw [ofPys_ints] at hr
    have hr' : ReadsAllW [] (classAt s₀.heap) s'.heap its.toArray.toList ((f ns).map WData.int) [] := by simpa using hr
    exact .list eo rfl rfl hr'
  · exact os_shut said hw rfl
end L2

namespace Wb
open PySem L2
/-! ### The text by places -/
def top (i : Nat) : Stmt := PySem.Challenge.pw_waitboard_s01_answers.main.body.getD i (.Pass ⟨0, 0, 0, 0⟩)
abbrev sGate : Stmt := inClass (top 5) 0
abbrev sNet : Stmt := inClass (top 6) 0
abbrev sRest : Stmt := inClass (top 7) 0
abbrev sAgenda : Stmt := inClass (top 8) 0
abbrev sNote : Stmt := inClass (top 8) 1
abbrev sOver : Stmt := inClass (top 8) 2
abbrev sTake : Stmt := inClass (top 8) 3
abbrev sSources : Stmt := top 9
abbrev sFits : Stmt := top 10
abbrev sUsers : Stmt := top 11
abbrev sComes : Stmt := top 12
abbrev sAlways : Stmt := top 13
abbrev sSure : Stmt := top 14
abbrev sEnd : Stmt := top 15
abbrev sReason : Stmt := top 16
abbrev sWay : Stmt := top 17
abbrev sBoard : Stmt := inClass (top 36) 0
abbrev sBegin : Stmt := inClass (top 36) 1
abbrev sStart : Stmt := inClass (top 36) 2
abbrev sSet : Stmt := inClass (top 36) 3
abbrev sWait : Stmt := inClass (top 36) 4
abbrev sGet : Stmt := inClass (top 36) 5
abbrev sRefusal : Stmt := inClass (top 36) 6
abbrev sWhen : Stmt := inClass (top 36) 7
abbrev sWhy : Stmt := inClass (top 36) 8
abbrev sLongest : Stmt := inClass (top 36) 9
abbrev sRead : Stmt := top 37
abbrev sLen : Stmt := top 38
abbrev sCall : Stmt := top 39
abbrev sAnswers : Stmt := top 40
/-! ### Values -/
abbrev vi (l : List Nat) : List V := l.map fun (n : Nat) => V.int (n : Int)
abbrev vz (l : List Int) : List V := l.map V.int
abbrev vr (l : List Addr) : List V := l.map V.ref
theorem look_put {fs : List (Str × V)} {f g : Str} {v : V} (h : ¬ f = g) : (putF g v fs).lookup f = fs.lookup f := by rw [lookup_putF, if_neg h]
theorem look_same {fs : List (Str × V)} {g : Str} {v : V} : (putF g v fs).lookup g = some v := by rw [lookup_putF, if_pos rfl]
theorem putF_len : ∀ {fs : List (Str × V)} {g : Str} {v : V}, (putF g v fs).length ≤ fs.length + 1
  | [], _, _ => Nat.le_refl _
  | (f, x) :: r, g, v => by
    unfold putF
    split
    · simp
    · have := putF_len (fs := r) (g := g) (v := v)
      simp; omega
/-! ### Objects -/
def gf (g : Kp148.Gate) : List (Str × V) := putF "most" (.int g.most) (putF "b" (.int g.b) (putF "a" (.int g.a) (putF "kind" (.int g.kind) [])))
theorem gf_kind (g : Kp148.Gate) : (gf g).lookup ("kind" : Str) = some (.int g.kind) := by
  unfold gf; rw [look_put (by decide +kernel), look_put (by decide +kernel), look_put (by decide +kernel), look_same]
theorem gf_a (g : Kp148.Gate) : (gf g).lookup ("a" : Str) = some (.int g.a) := by
  unfold gf; rw [look_put (by decide +kernel), look_put (by decide +kernel), look_same]
theorem gf_b (g : Kp148.Gate) : (gf g).lookup ("b" : Str) = some (.int g.b) := by
  unfold gf; rw [look_put (by decide +kernel), look_same]
theorem gf_most (g : Kp148.Gate) : (gf g).lookup ("most" : Str) = some (.int g.most) := by
  unfold gf; rw [look_same]
/-- the classes' addresses -/
structure Adr where
  G : Addr
  N : Addr
  R : Addr
  A : Addr
  B : Addr
def GateAt (t : Adr) (H : Hp) (p : Addr) (g : Kp148.Gate) : Prop := ∃ dx, H p = some (.ins t.G dx (gf g))
/-- a list of gates -/
structure GatesAt (t : Adr) (H : Hp) (l : Addr) (as : List Addr) (gs : List Kp148.Gate) : Prop where
  lst : H l = some (.lst (vr as))
  len : as.length = gs.length
  at_ : ∀ (j : Nat) (a : Addr), as[j]? = some a → GateAt t H a (gt gs j)
def nf (n m : Nat) (l u : Addr) : List (Str × V) := putF "users" (.ref u) (putF "signals" (.int (m : Int)) (putF "gates" (.ref l) (putF "inputs" (.int (n : Int)) [])))
theorem nf_inputs (n m : Nat) (l u : Addr) : (nf n m l u).lookup ("inputs" : Str) = some (.int (n : Int)) := by
  unfold nf; rw [look_put (by decide +kernel), look_put (by decide +kernel), look_put (by decide +kernel), look_same]
theorem nf_gates (n m : Nat) (l u : Addr) : (nf n m l u).lookup ("gates" : Str) = some (.ref l) := by
  unfold nf; rw [look_put (by decide +kernel), look_put (by decide +kernel), look_same]
theorem nf_signals (n m : Nat) (l u : Addr) : (nf n m l u).lookup ("signals" : Str) = some (.int (m : Int)) := by
  unfold nf; rw [look_put (by decide +kernel), look_same]
theorem nf_users (n m : Nat) (l u : Addr) : (nf n m l u).lookup ("users" : Str) = some (.ref u) := by
  unfold nf; rw [look_same]
/-- a net of n inputs -/
structure NetAt (t : Adr) (H : Hp) (p : Addr) (n : Nat) (gs : List Kp148.Gate) (l u : Addr) (as us : List Addr) : Prop where
  ob : ∃ dx, H p = some (.ins t.N dx (nf n (n + gs.length) l u))
  gts : GatesAt t H l as gs
  ul : H u = some (.lst (vr us))
  len : us.length = n + gs.length
  use : ∀ (s : Nat) (a : Addr), us[s]? = some a → H a = some (.lst (vi (users gs s)))
def Net (t : Adr) (H : Hp) (p : Addr) (n : Nat) (gs : List Kp148.Gate) : Prop := ∃ l u as us, NetAt t H p n gs l u as us
theorem GateAt.same {t : Adr} {H H' : Hp} {p : Addr} {g : Kp148.Gate} (s : Same H H') (h : GateAt t H p g) : GateAt t H' p g := by
  obtain ⟨dx, h⟩ := h
  exact ⟨dx, s _ _ h⟩
theorem GatesAt.same {t : Adr} {H H' : Hp} {l : Addr} {as : List Addr} {gs : List Kp148.Gate} (s : Same H H') (h : GatesAt t H l as gs) : GatesAt t H' l as gs :=
  ⟨s _ _ h.lst, h.len, fun j a e => (h.at_ j a e).same s⟩
theorem NetAt.same {t : Adr} {H H' : Hp} {p : Addr} {n : Nat} {gs : List Kp148.Gate} {l u : Addr} {as us : List Addr} (s : Same H H') (h : NetAt t H p n gs l u as us) : NetAt t H' p n gs l u as us :=
  ⟨let ⟨dx, e⟩ := h.ob; ⟨dx, s _ _ e⟩, h.gts.same s, s _ _ h.ul, h.len, fun j a e => s _ _ (h.use j a e)⟩
theorem Same.new {H : Hp} {a : Addr} {o : HO} (h : H a = none) : Same H (upd H a o) := fun b u e => by rw [upd_ne (ne_of_none e h)]; exact e
/-! ### What the walk asks of the text -/
structure Txt (K : PySem.W.Frag) (mg : Str → Option Value) (t : Adr) : Prop where
  clG : Cls K t.G
  gKind : NoAttr K t.G "kind"
  gA : NoAttr K t.G "a"
  gB : NoAttr K t.G "b"
  gMost : NoAttr K t.G "most"
  mgG : mg "Gate" = some (.ref t.G)
  clN : Cls K t.N
  nInputs : NoAttr K t.N "inputs"
  nGates : NoAttr K t.N "gates"
  nUsers : NoAttr K t.N "users"
  mgN : mg "Net" = some (.ref t.N)
  clR : Cls K t.R
  rOn : NoAttr K t.R "on"
  rWhen : NoAttr K t.R "when"
  mgR : mg "Rest" = some (.ref t.R)
  clA : Cls K t.A
  aEnt : NoAttr K t.A "entries"
  mgA : mg "Agenda" = some (.ref t.A)
  cNOT : ∃ u, mg "NOT" = some u ∧ RelV (.int 0) u
  cNOR : ∃ u, mg "NOR" = some u ∧ RelV (.int 2) u
  cUNSURE : ∃ u, mg "UNSURE" = some u ∧ RelV (.int 2) u
  cNEVER : ∃ u, mg "NEVER" = some u ∧ RelV (.int (-1)) u
  bLen : mg "len" = none
  bMax : mg "max" = none
  bRange : mg "range" = none
  bList : mg "list" = none
  bEnum : mg "enumerate" = none
  bMin : mg "min" = none
  nSignals : NoAttr K t.N "signals"
  clB : Cls K t.B
  tNet : NoAttr K t.B "net"
  tIns : NoAttr K t.B "ins"
  tLoose : NoAttr K t.B "loose"
  tBefore : NoAttr K t.B "before"
  tWhen : NoAttr K t.B "when"
  tLongest : NoAttr K t.B "longest"
  mgB : mg "Board" = some (.ref t.B)
  neBN : t.B ≠ t.N
  neBG : t.B ≠ t.G
  cMOST_GATES : ∃ u, mg "MOST_GATES" = some u ∧ RelV (.int 16384) u
  cMOST_INPUTS : ∃ u, mg "MOST_INPUTS" = some u ∧ RelV (.int 1024) u
  cDONE : ∃ u, mg "DONE" = some u ∧ RelV (.int 0) u
  cNOT_TOLD : ∃ u, mg "NOT_TOLD" = some u ∧ RelV (.int (-2)) u
  cNO_WAIT : ∃ u, mg "NO_WAIT" = some u ∧ RelV (.int (-11)) u
  cNOT_VALID : ∃ u, mg "NOT_VALID" = some u ∧ RelV (.int (-22)) u
  cNO_ROOM : ∃ u, mg "NO_ROOM" = some u ∧ RelV (.int (-28)) u
  cFORM_NUMBER : ∃ u, mg "FORM_NUMBER" = some u ∧ RelV (.int 0) u
  cFORM_TIME : ∃ u, mg "FORM_TIME" = some u ∧ RelV (.int 1) u
  cFORM_WAY : ∃ u, mg "FORM_WAY" = some u ∧ RelV (.int 2) u
  cTK_START : ∃ u, mg "TK_START" = some u ∧ RelV (.int 0) u
  cTK_SET : ∃ u, mg "TK_SET" = some u ∧ RelV (.int 1) u
  cTK_WAIT : ∃ u, mg "TK_WAIT" = some u ∧ RelV (.int 2) u
  cTK_GET : ∃ u, mg "TK_GET" = some u ∧ RelV (.int 3) u
  cTK_WHEN : ∃ u, mg "TK_WHEN" = some u ∧ RelV (.int 4) u
  cTK_WHY : ∃ u, mg "TK_WHY" = some u ∧ RelV (.int 5) u
  tab : ∃ d, mg "CALL_LENGTHS" = some (.ref d) ∧ Tab K d [(0, 3), (1, 3), (2, 1), (3, 2), (4, 2), (5, 3), (6, 1)]
/-- a def of the text -/
structure Df (K : PySem.W.Frag) (mg : Str → Option Value) (name : Str) (st : Stmt) (ps : List Str) (f : Addr) (fd : FuncData) : Prop where
  F : Fun K name name st f fd
  b : Binds K fd ps []
  g : mg name = some (.ref f)
/-- a method of the text -/
structure Mf (K : PySem.W.Frag) (C : Addr) (name qual : Str) (st : Stmt) (ps : List Str) (f : Addr) (fd : FuncData) : Prop where
  F : Fun K name qual st f fd
  b : Binds K fd ps []
  m : Meth K C name f
end Wb

namespace Wb
open PySem L2
section
variable {P : Program} {w : World} {K : PySem.W.Frag} {mg : Str → Option Value} {base : Heap} {t : Adr}
/-! ### Gate(kind, a, b, most) -/
def spGate (t : Adr) : Sp := fun vs H Q _ => ∃ (p dx : Addr) (g : Kp148.Gate), vs = [.ref p, .int g.kind, .int g.a, .int g.b, .int g.most] ∧ H p = some (.ins t.G dx []) ∧ ∀ H' : Hp, GateAt t H' p g → (∀ b o, H b = some o → b ≠ p → H' b = some o) → Q .non H'
theorem scGate : FnScope ["self", "kind", "a", "b", "most"] ["self", "kind", "a", "b", "most"] (defScope sGate) := ⟨rfl, rfl, rfl, by decide +kernel, rfl, by decide +kernel, by decide +kernel⟩
theorem ok_gate {f : Addr} {fd : FuncData} (F : Fun K "__init__" "Gate.__init__" sGate f fd) (T : Txt K mg t) : FnOk P w K mg base CX0 1 f fd ["self", "kind", "a", "b", "most"] (spGate t) := by
  refine F.ok scGate (fun vs H Q E h => ?_) (fun cdv A outer s H vs Q E hr h => ?_)
  · obtain ⟨p, dx, g, rfl, _⟩ := h
    rfl
  · obtain ⟨p, dx, g, rfl, hp, k⟩ := h
    refine ⟨_, pss_cons (ps_fld (pv 0) (pv 1) rfl) (pss_cons (ps_fld (pv 0) (pv 2) rfl) (pss_cons (ps_fld (pv 0) (pv 3) rfl) (pss_one (ps_fld (pv 0) (pv 4) rfl)))), ?_⟩
    refine ⟨_, rfl, _, rfl, p, t.G, dx, _, rfl, hp, T.clG, T.gKind, (by decide), ?_⟩
    refine ⟨_, rfl, _, rfl, p, t.G, dx, _, rfl, upd_same, T.clG, T.gA, Nat.lt_of_le_of_lt putF_len (by decide), ?_⟩
    refine ⟨_, rfl, _, rfl, p, t.G, dx, _, rfl, upd_same, T.clG, T.gB, Nat.lt_of_le_of_lt (Nat.le_trans putF_len (Nat.succ_le_succ putF_len)) (by decide), ?_⟩
    refine ⟨_, rfl, _, rfl, p, t.G, dx, _, rfl, upd_same, T.clG, T.gMost, Nat.lt_of_le_of_lt (Nat.le_trans putF_len (Nat.succ_le_succ (Nat.le_trans putF_len (Nat.succ_le_succ putF_len)))) (by decide), ?_⟩
    exact k _ ⟨dx, upd_same⟩ fun b o e hb => by rw [upd_ne hb, upd_ne hb, upd_ne hb, upd_ne hb]; exact e
/-! ### sources(gate) -/
def spSources (t : Adr) : Sp := fun vs H Q _ => ∃ (p : Addr) (g : Kp148.Gate), vs = [.ref p] ∧ GateAt t H p g ∧ ∀ l, H l = none → Q (.ref l) (upd H l (.lst (vi (srcs g))))
theorem scSources : FnScope ["gate"] ["gate"] (defScope sSources) := ⟨rfl, rfl, rfl, by decide +kernel, rfl, by decide +kernel, by decide +kernel⟩
theorem ok_sources {f : Addr} {fd : FuncData} (F : Fun K "sources" "sources" sSources f fd) (T : Txt K mg t) : FnOk P w K mg base CX0 1 f fd ["gate"] (spSources t) := by
  obtain ⟨u0, mN, rN⟩ := T.cNOT
  refine F.ok scSources (fun vs H Q E h => ?_) (fun cdv A outer s H vs Q E hr h => ?_)
  · obtain ⟨p, g, rfl, _⟩ := h
    rfl
  · obtain ⟨p, g, rfl, ⟨dx, hp⟩, k⟩ := h
    refine ⟨_, pss_cons (ps_if (pt_cmp (pc_eqI (pe_fld (pv 0) rfl) (pe_glob rfl mN rN))) (pss_one (ps_ret (pe_lst (pa_cons (pe_fld (pv 0) rfl) pa_nil)))) pss_nil)
      (pss_one (ps_ret (pe_lst (pa_cons (pe_fld (pv 0) rfl) (pa_cons (pe_fld (pv 0) rfl) pa_nil))))), ?_⟩
    refine ⟨_, rfl, p, t.G, dx, _, _, rfl, hp, T.clG, T.gKind, gf_kind _, _, _, rfl, rfl, _, rfl, ?_⟩
    refine ite2 (fun c => ?_) fun c => ?_
    · have c : (g.kind : Int) = 0 := of_decide_eq_true c
      refine ⟨_, rfl, p, t.G, dx, _, _, rfl, hp, T.clG, T.gA, gf_a _, (by show 1 ≤ sizeLine; decide), fun l hl => ?_⟩
      have e : srcs g = [g.a] := by unfold srcs; rw [if_pos (by omega)]
      have q := k l hl
      rw [e] at q
      exact q
    · have c : ¬ (g.kind : Int) = 0 := fun z => c (decide_eq_true z)
      refine ⟨_, rfl, p, t.G, dx, _, _, rfl, hp, T.clG, T.gA, gf_a _, _, rfl, p, t.G, dx, _, _, rfl, hp, T.clG, T.gB, gf_b _, (by show 2 ≤ sizeLine; decide), fun l hl => ?_⟩
      have e : srcs g = [g.a, g.b] := by unfold srcs; rw [if_neg (by omega)]
      have q := k l hl
      rw [e] at q
      exact q
/-! ### comes_to(gate, on) -/
def spComes (t : Adr) (K : PySem.W.Frag) : Sp := fun vs H Q _ => ∃ (p l : Addr) (g : Kp148.Gate) (s : List Nat), vs = [.ref p, .ref l] ∧ GateAt t H p g ∧ SqL K H l (vi s) ∧ Fits s.length g ∧ (∀ k, Kp148.on s k ≤ 2) ∧ Q (.int (Kp148.look g s : Nat)) H
theorem scComes : FnScope ["gate", "on", "first", "second", "forcing"] ["gate", "on"] (defScope sComes) := ⟨rfl, rfl, rfl, by decide +kernel, rfl, by decide +kernel, by decide +kernel⟩
theorem vi_at {s : List Nat} {k : Nat} (h : k < s.length) : (vi s)[k]? = some (V.int (Kp148.on s k : Nat)) := by
  rw [List.getElem?_map, on_lt h]
  rfl
theorem ok_comes {f : Addr} {fd : FuncData} (F : Fun K "comes_to" "comes_to" sComes f fd) (T : Txt K mg t) : FnOk P w K mg base CX0 1 f fd ["gate", "on"] (spComes t K) := by
  obtain ⟨u0, mN, rN⟩ := T.cNOT
  obtain ⟨u2, mR, rR⟩ := T.cNOR
  obtain ⟨uU, mU, rU⟩ := T.cUNSURE
  refine F.ok scComes (fun vs H Q E h => ?_) (fun cdv A outer s H vs Q E hr h => ?_)
  · obtain ⟨p, l, g, s, rfl, _⟩ := h
    rfl
  · obtain ⟨p, l, g, r, rfl, ⟨dx, hp⟩, hl, ⟨f1, f2, f3, f4⟩, hv, k⟩ := h
    refine ⟨_, pss_cons (ps_set (i := 2) scComes.nd rfl (Or.inl rfl) (pe_ix ix_list (pv 1) (pe_fld (pv 0) rfl) (fun _ _ => rfl)))
      (pss_cons (ps_set (i := 3) scComes.nd rfl (Or.inl rfl) (pe_ifExp (pt_cmp (pc_eqI (pe_fld (pv 0) rfl) (pe_glob rfl mN rN))) (pv 2) (pe_ix ix_list (pv 1) (pe_fld (pv 0) rfl) (fun _ _ => rfl))))
      (pss_cons (ps_set (i := 4) scComes.nd rfl (Or.inl rfl) (pe_ifExp (pt_cmp (pc_eqI (pe_fld (pv 0) rfl) (pe_glob rfl mR rR))) pe_int pe_int))
      (pss_cons (ps_if (PW.pt (pw_or (pt_cmp (pc_eqI (pv 2) (pv 4))) (pw_or1 (pt_cmp (pc_eqI (pv 3) (pv 4)))))) (pss_one (ps_ret (pe_sub pe_int (pv 4)))) pss_nil)
      (pss_cons (ps_if (PW.pt (pw_or (pt_cmp (pc_eqI (pv 2) (pe_glob rfl mU rU))) (pw_or1 (pt_cmp (pc_eqI (pv 3) (pe_glob rfl mU rU)))))) (pss_one (ps_ret (pe_glob rfl mU rU))) pss_nil)
      (pss_one (ps_ret (pv 4))))))), ?_⟩
    -- the rest, once first, second and forcing are known
    have fin : ∀ (x y z : Nat), x = Kp148.on r g.a → (y = if g.kind = 0 then x else Kp148.on r g.b) → (z = if g.kind = 2 then 1 else 0) →
        (tSeq (tIfS (tOr (tB (tEqI (tVar 2) (tVar 4))) (tB (tEqI (tVar 3) (tVar 4)))) (tRet (tSub (tC (.int 1)) (tVar 4))) tNext) (tSeq (tIfS (tOr (tB (tEqI (tVar 2) (tC (.int 2)))) (tB (tEqI (tVar 3) (tC (.int 2))))) (tRet (tC (.int 2))) tNext) (tRet (tVar 4))))
          { nx := fun _ H' => Q .non H', rt := Q } [some (.ref p), some (.ref l), some (.int (x : Int)), some (.int (y : Int)), some (.int (z : Int))] H := by
      intro x y z ex ey ez
      have hx : x ≤ 2 := by rw [ex]; exact hv _
      have hb2 : Kp148.on r g.b ≤ 2 := hv _
      have ec : Kp148.look g r = comes g.kind x (Kp148.on r g.b) := by
        rw [look_eq, ← ex]; exact (comes_eq f1 hx hb2).symm
      unfold comes at ec
      simp only [← ey, ← ez] at ec
      refine ⟨_, rfl, _, rfl, _, _, rfl, rfl, _, rfl, ?_⟩
      refine ite2 (fun c => ?_) fun c => ?_
      · have c : (x : Int) = (z : Int) := of_decide_eq_true c
        refine iteT ⟨_, rfl, _, _, rfl, rfl, ?_⟩
        rw [if_pos (.inl (by omega))] at ec
        rw [ec] at k
        have e : (1 : Int) - (z : Int) = ((1 - z : Nat) : Int) := by
          have : z ≤ 1 := by rw [ez]; split <;> omega
          omega
        show Q (.int ((1 : Int) - (z : Int))) H
        rw [e]; exact k
      · have c : ¬ (x : Int) = (z : Int) := fun q => c (decide_eq_true q)
        refine ⟨_, rfl, _, rfl, _, _, rfl, rfl, _, rfl, ?_⟩
        refine ite2 (fun c2 => ?_) fun c2 => ?_
        · have c2 : (y : Int) = (z : Int) := of_decide_eq_true c2
          refine ⟨_, rfl, _, _, rfl, rfl, ?_⟩
          rw [if_pos (.inr (by omega))] at ec
          rw [ec] at k
          have e : (1 : Int) - (z : Int) = ((1 - z : Nat) : Int) := by
            have : z ≤ 1 := by rw [ez]; split <;> omega
            omega
          show Q (.int ((1 : Int) - (z : Int))) H
          rw [e]; exact k
        · have c2 : ¬ (y : Int) = (z : Int) := fun q => c2 (decide_eq_true q)
          rw [if_neg (by omega)] at ec
          refine ⟨_, rfl, _, _, rfl, rfl, _, rfl, ?_⟩
          refine ite2 (fun c3 => ?_) fun c3 => ?_
          · have c3 : (x : Int) = 2 := of_decide_eq_true c3
            refine iteT ?_
            rw [if_pos (.inl (by omega))] at ec
            rw [ec] at k
            exact k
          · have c3 : ¬ (x : Int) = 2 := fun q => c3 (decide_eq_true q)
            refine ⟨_, rfl, _, _, rfl, rfl, _, rfl, ?_⟩
            refine ite2 (fun c4 => ?_) fun c4 => ?_
            · have c4 : (y : Int) = 2 := of_decide_eq_true c4
              rw [if_pos (.inr (by omega))] at ec
              rw [ec] at k
              exact k
            · have c4 : ¬ (y : Int) = 2 := fun q => c4 (decide_eq_true q)
              rw [if_neg (by omega)] at ec
              rw [ec] at k
              exact ⟨_, rfl, k⟩
    have fin2 : ∀ (x y : Nat), x = Kp148.on r g.a → (y = if g.kind = 0 then x else Kp148.on r g.b) →
        (tSeq (tAsg (tIf (tB (tEqI (tFld K (tVar 0) "kind") (tC (.int 2)))) (tC (.int 1)) (tC (.int 0))) (gName 4)) (tSeq (tIfS (tOr (tB (tEqI (tVar 2) (tVar 4))) (tB (tEqI (tVar 3) (tVar 4)))) (tRet (tSub (tC (.int 1)) (tVar 4))) tNext) (tSeq (tIfS (tOr (tB (tEqI (tVar 2) (tC (.int 2)))) (tB (tEqI (tVar 3) (tC (.int 2))))) (tRet (tC (.int 2))) tNext) (tRet (tVar 4)))))
          { nx := fun _ H' => Q .non H', rt := Q } [some (.ref p), some (.ref l), some (.int (x : Int)), some (.int (y : Int)), none] H := by
      intro x y ex ey
      refine ⟨_, rfl, p, t.G, dx, _, _, rfl, hp, T.clG, T.gKind, gf_kind _, _, _, rfl, rfl, _, rfl, ?_⟩
      refine ite2 (fun c => ?_) fun c => ?_
      · have c : (g.kind : Int) = 2 := of_decide_eq_true c
        exact fin x y 1 ex ey (by rw [if_pos (by omega)])
      · have c : ¬ (g.kind : Int) = 2 := fun q => c (decide_eq_true q)
        exact fin x y 0 ex ey (by rw [if_neg (by omega)])
    refine ⟨_, rfl, _, rfl, p, t.G, dx, _, _, rfl, hp, T.clG, T.gA, gf_a _, l, _, _, _, rfl, rfl, hl, atI_nat (vi_at f2), ?_⟩
    refine ⟨_, rfl, p, t.G, dx, _, _, rfl, hp, T.clG, T.gKind, gf_kind _, _, _, rfl, rfl, _, rfl, ?_⟩
    refine ite2 (fun c => ?_) fun c => ?_
    · have c : (g.kind : Int) = 0 := of_decide_eq_true c
      exact ⟨_, rfl, fin2 _ _ rfl (by rw [if_pos (by omega)])⟩
    · have c : ¬ (g.kind : Int) = 0 := fun q => c (decide_eq_true q)
      refine ⟨_, rfl, _, rfl, p, t.G, dx, _, _, rfl, hp, T.clG, T.gB, gf_b _, l, _, _, _, rfl, rfl, hl, atI_nat (vi_at (f3 (by omega))), ?_⟩
      exact fin2 _ _ rfl (by rw [if_neg (by omega)])
end
end Wb

namespace Wb
open PySem L2
section
variable {P : Program} {w : World} {K : PySem.W.Frag} {mg : Str → Option Value} {base : Heap} {t : Adr}
theorem vi_vz (l : List Nat) : vi l = vz (l.map fun (n : Nat) => (n : Int)) := by
  unfold vi vz; rw [List.map_map]; rfl
/-! ### gate_fits(gate, signals) -/
def spFits (t : Adr) : Sp := fun vs H Q _ => ∃ (p : Addr) (g : Kp148.Gate) (m : Nat), vs = [.ref p, .int (m : Int)] ∧ GateAt t H p g ∧ ∀ H', Same H H' → Q (.bl (Kp148.goodGate m g)) H'
theorem scFits : FnScope ["gate", "signals"] ["gate", "signals"] (defScope sFits) := ⟨rfl, rfl, rfl, by decide +kernel, rfl, by decide +kernel, by decide +kernel⟩
theorem ok_fits {f fS : Addr} {fd fdS : FuncData} (F : Fun K "gate_fits" "gate_fits" sFits f fd) (T : Txt K mg t) (DS : Df K mg "sources" sSources ["gate"] fS fdS) : FnOk P w K mg base CX0 2 f fd ["gate", "signals"] (spFits t) := by
  have GS : FnOk P w K mg base CX0 1 fS fdS ["gate"] (spSources t) := ok_sources DS.F T
  obtain ⟨u2, mR, rR⟩ := T.cNOR
  refine F.ok scFits (fun vs H Q E h => ?_) (fun cdv A outer s H vs Q E hr h => ?_)
  · obtain ⟨p, g, m, rfl, _⟩ := h
    rfl
  · obtain ⟨p, g, m, rfl, ⟨dx, hp⟩, k⟩ := h
    refine ⟨_, pss_cons (ps_if (PW.pt (pw_or (pt_cmp (pc_gt (pe_fld (pv 0) rfl) (pe_glob rfl mR rR))) (pw_or1 (pt_cmp (pc_lt (pe_fld (pv 0) rfl) pe_int))))) (pss_one (ps_ret pe_bl)) pss_nil)
      (pss_one (ps_ret (pe_cmp (pc_lt (pe_callB (cr_max rfl) (by rfl) T.bMax PyProof.Rows.boot_max (pa_cons (pe_call GS hr rfl DS.g DS.F.kp DS.b .nil pass0 (pa_cons (pv 0) pa_nil)) pa_nil)) (pv 1))))), ?_⟩
    refine ⟨_, rfl, p, t.G, dx, _, _, rfl, hp, T.clG, T.gKind, gf_kind _, _, _, rfl, rfl, _, rfl, ?_⟩
    refine ite2 (fun c => ?_) fun c => ?_
    · have c : (2 : Int) < (g.kind : Int) := of_decide_eq_true c
      refine iteT ?_
      have e : Kp148.goodGate m g = false := by
        cases q : Kp148.goodGate m g with
        | false => rfl
        | true => have := (fits_iff.mp q).1; omega
      have z := k H (Same.refl H)
      rw [e] at z; exact z
    · have c : ¬ (2 : Int) < (g.kind : Int) := fun z => c (decide_eq_true z)
      refine ⟨_, rfl, p, t.G, dx, _, _, rfl, hp, T.clG, T.gMost, gf_most _, _, _, rfl, rfl, _, rfl, ?_⟩
      refine ite2 (fun c2 => ?_) fun c2 => ?_
      · have c2 : (g.most : Int) < 1 := of_decide_eq_true c2
        have e : Kp148.goodGate m g = false := by
          cases q : Kp148.goodGate m g with
          | false => rfl
          | true => have := (fits_iff.mp q).2.2.2; omega
        have z := k H (Same.refl H)
        rw [e] at z; exact z
      · have c2 : ¬ (g.most : Int) < 1 := fun z => c2 (decide_eq_true z)
        refine ⟨_, rfl, p, g, rfl, ⟨dx, hp⟩, fun l hl => ?_⟩
        refine ⟨l, (srcs g).map fun (n : Nat) => (n : Int), rfl, SqL.of (by rw [upd_same, vi_vz]), ?_, fun mx h1 h2 => ?_⟩
        · unfold srcs; split <;> simp
        · refine ⟨_, rfl, _, _, rfl, rfl, ?_⟩
          have e : decide (mx < (m : Int)) = Kp148.goodGate m g := by
            have hfit : Kp148.goodGate m g = true ↔ mx < (m : Int) := by
              rw [fits_iff]
              obtain ⟨y, hy, rfl⟩ := List.mem_map.mp h1
              constructor
              · intro hf
                have := fits_srcs hf y hy
                omega
              · intro hlt
                have all : ∀ s, s ∈ srcs g → s < m := fun s hs => by
                  have := h2 (s : Int) (List.mem_map.mpr ⟨s, hs, rfl⟩)
                  omega
                refine ⟨by omega, all _ ?_, fun q => all _ ?_, by omega⟩
                · unfold srcs; split <;> simp
                · unfold srcs; rw [if_neg q]; simp
            cases q : Kp148.goodGate m g with
            | true => exact decide_eq_true (hfit.mp q)
            | false => exact decide_eq_false fun z => by rw [hfit.mpr z] at q; cases q
          show Q (.bl (decide (mx < (m : Int)))) _
          rw [e]
          exact k _ (Same.new hl)
/-! ### Rest(on, when) -/
def rf (l m : Addr) : List (Str × V) := putF "when" (.ref m) (putF "on" (.ref l) [])
theorem rf_on (l m : Addr) : (rf l m).lookup ("on" : Str) = some (.ref l) := by
  unfold rf; rw [look_put (by decide +kernel), look_same]
theorem rf_when (l m : Addr) : (rf l m).lookup ("when" : Str) = some (.ref m) := by
  unfold rf; rw [look_same]
def spRest (t : Adr) : Sp := fun vs H Q _ => ∃ (p dx l m : Addr), vs = [.ref p, .ref l, .ref m] ∧ H p = some (.ins t.R dx []) ∧ ∀ H' : Hp, H' p = some (.ins t.R dx (rf l m)) → (∀ b o, H b = some o → b ≠ p → H' b = some o) → Q .non H'
theorem scRest : FnScope ["self", "on", "when"] ["self", "on", "when"] (defScope sRest) := ⟨rfl, rfl, rfl, by decide +kernel, rfl, by decide +kernel, by decide +kernel⟩
theorem ok_rest {f : Addr} {fd : FuncData} (F : Fun K "__init__" "Rest.__init__" sRest f fd) (T : Txt K mg t) : FnOk P w K mg base CX0 1 f fd ["self", "on", "when"] (spRest t) := by
  refine F.ok scRest (fun vs H Q E h => ?_) (fun cdv A outer s H vs Q E hr h => ?_)
  · obtain ⟨p, dx, l, m, rfl, _⟩ := h
    rfl
  · obtain ⟨p, dx, l, m, rfl, hp, k⟩ := h
    refine ⟨_, pss_cons (ps_fld (pv 0) (pv 1) rfl) (pss_one (ps_fld (pv 0) (pv 2) rfl)), ?_⟩
    refine ⟨_, rfl, _, rfl, p, t.R, dx, _, rfl, hp, T.clR, T.rOn, (by decide), ?_⟩
    refine ⟨_, rfl, _, rfl, p, t.R, dx, _, rfl, upd_same, T.clR, T.rWhen, Nat.lt_of_le_of_lt putF_len (by decide), ?_⟩
    exact k _ upd_same fun b o e hb => by rw [upd_ne hb, upd_ne hb]; exact e
/-! ### Agenda() -/
def af (l : Addr) : List (Str × V) := putF "entries" (.ref l) []
theorem af_ent (l : Addr) : (af l).lookup ("entries" : Str) = some (.ref l) := by
  unfold af; rw [look_same]
theorem af_no (l : Addr) {m : Str} (h : ¬ m = "entries") : (af l).lookup m = none := by
  unfold af; rw [look_put h]; rfl
/-- the entries: each a tuple of its own -/
structure AgAt (t : Adr) (H : Hp) (p l : Addr) (es : List Addr) (E : List (Nat × Nat)) : Prop where
  ob : ∃ dx, H p = some (.ins t.A dx (af l))
  lst : H l = some (.lst (vr es))
  len : es.length = E.length
  at_ : ∀ (j : Nat) (a : Addr) (x : Nat × Nat), es[j]? = some a → E[j]? = some x → H a = some (.tup [.int (x.1 : Int), .int (x.2 : Int)])
def spAgenda (t : Adr) : Sp := fun vs H Q _ => ∃ (p dx : Addr), vs = [.ref p] ∧ H p = some (.ins t.A dx []) ∧ ∀ (l : Addr) (H' : Hp), AgAt t H' p l [] [] → H l = none → (∀ b o, H b = some o → b ≠ p → H' b = some o) → Q .non H'
theorem scAgenda : FnScope ["self"] ["self"] (defScope sAgenda) := ⟨rfl, rfl, rfl, by decide +kernel, rfl, by decide +kernel, by decide +kernel⟩
theorem ok_agenda {f : Addr} {fd : FuncData} (F : Fun K "__init__" "Agenda.__init__" sAgenda f fd) (T : Txt K mg t) : FnOk P w K mg base CX0 1 f fd ["self"] (spAgenda t) := by
  refine F.ok scAgenda (fun vs H Q E h => ?_) (fun cdv A outer s H vs Q E hr h => ?_)
  · obtain ⟨p, dx, rfl, _⟩ := h
    rfl
  · obtain ⟨p, dx, rfl, hp, k⟩ := h
    refine ⟨_, pss_one (ps_fld (pv 0) (pe_lst pa_nil) rfl), ?_⟩
    refine ⟨(by show 0 ≤ sizeLine; decide), fun l hl => ?_⟩
    have npl : p ≠ l := ne_of_none hp hl
    refine ⟨_, rfl, p, t.A, dx, _, rfl, (by rw [upd_ne npl]; exact hp), T.clA, T.aEnt, (by decide), ?_⟩
    refine k l _ ⟨⟨dx, upd_same⟩, by rw [upd_ne npl.symm, upd_same]; rfl, rfl, fun j a x e => by simp at e⟩ hl fun b o e hb => ?_
    rw [upd_ne hb, upd_ne (ne_of_none e hl)]
    exact e
/-! ### agenda.is_over() -/
def spOver (t : Adr) : Sp := fun vs H Q _ => ∃ (p l : Addr) (es : List Addr) (E : List (Nat × Nat)), vs = [.ref p] ∧ AgAt t H p l es E ∧ Q (.bl (decide (E.length = 0))) H
theorem scOver : FnScope ["self"] ["self"] (defScope sOver) := ⟨rfl, rfl, rfl, by decide +kernel, rfl, by decide +kernel, by decide +kernel⟩
theorem ok_over {f : Addr} {fd : FuncData} (F : Fun K "is_over" "Agenda.is_over" sOver f fd) (T : Txt K mg t) : FnOk P w K mg base CX0 1 f fd ["self"] (spOver t) := by
  refine F.ok scOver (fun vs H Q E h => ?_) (fun cdv A outer s H vs Q E hr h => ?_)
  · obtain ⟨p, l, es, E', rfl, _⟩ := h
    rfl
  · obtain ⟨p, l, es, E', rfl, ⟨⟨dx, hp⟩, hl, hlen, _⟩, k⟩ := h
    refine ⟨_, pss_one (ps_ret (pe_cmp (pc_eqI (pe_callB call_len_seq (by rfl) T.bLen PySem.boot_len (pa_cons (pe_fld (pv 0) rfl) pa_nil)) pe_int))), ?_⟩
    refine ⟨_, rfl, p, t.A, dx, _, _, rfl, hp, T.clA, T.aEnt, af_ent _, l, _, rfl, .inl (SqL.of hl), _, _, rfl, rfl, ?_⟩
    have e : decide ((((vr es).length : Nat) : Int) = 0) = decide (E'.length = 0) := by
      rw [List.length_map, hlen]
      by_cases q : E'.length = 0
      · rw [decide_eq_true q, decide_eq_true (by omega)]
      · rw [decide_eq_false q, decide_eq_false (by omega)]
    show Q (.bl (decide ((((vr es).length : Nat) : Int) = 0))) H
    rw [e]; exact k
/-! ### agenda.take_soonest() -/
def spTake (t : Adr) : Sp := fun vs H Q _ => ∃ (p l a : Addr) (es : List Addr) (E : List (Nat × Nat)) (x : Nat × Nat), vs = [.ref p] ∧ AgAt t H p l (es ++ [a]) (E ++ [x]) ∧ ∀ H' : Hp, AgAt t H' p l es E → (∀ b o, H b = some o → b ≠ l → H' b = some o) → Q (.int (x.2 : Int)) H'
theorem scTake : FnScope ["self"] ["self"] (defScope sTake) := ⟨rfl, rfl, rfl, by decide +kernel, rfl, by decide +kernel, by decide +kernel⟩
theorem ok_take {f : Addr} {fd : FuncData} (F : Fun K "take_soonest" "Agenda.take_soonest" sTake f fd) (T : Txt K mg t) : FnOk P w K mg base CX0 1 f fd ["self"] (spTake t) := by
  refine F.ok scTake (fun vs H Q E h => ?_) (fun cdv A outer s H vs Q E hr h => ?_)
  · obtain ⟨p, l, a, es, E', x, rfl, _⟩ := h
    rfl
  · obtain ⟨p, l, a, es, E', x, rfl, ⟨⟨dx, hp⟩, hl, hlen, hat⟩, k⟩ := h
    have hlen' : es.length = E'.length := by simpa using hlen
    refine ⟨_, pss_one (ps_ret (pe_ix ix_tup (pe_bm0 PySem.F.plainAttrs_list PySem.F.slot_list_pop PySem.F.type_list_pop mt_pop (pe_fld (pv 0) rfl)) pe_int (fun _ _ => rfl))), ?_⟩
    have ha : H a = some (.tup [.int (x.1 : Int), .int (x.2 : Int)]) := hat es.length a x (by simp) (by rw [hlen']; simp)
    have nal : a ≠ l := ne_of ha hl (by intro q; cases q)
    have npl : p ≠ l := ne_of hp hl (by intro q; cases q)
    have nth : ∀ (b : Addr) (o : HO), H b = some o → b ≠ l → (upd H l (.lst (vr es))) b = some o := fun b o e hb => by rw [upd_ne hb]; exact e
    refine ⟨_, rfl, p, t.A, dx, _, _, rfl, hp, T.clA, T.aEnt, af_ent _, .inl ⟨rfl, _, SqL.of hl⟩, l, _, V.ref a, rfl, rfl, hl, by simp, ?_⟩
    have e : (vr (es ++ [a])).dropLast = vr es := by simp
    rw [e]
    refine ⟨a, _, _, V.int (x.2 : Int), rfl, rfl, SqT.of (nth a _ ha nal), rfl, ?_⟩
    refine k _ ⟨⟨dx, nth p _ hp npl⟩, upd_same, hlen', fun j b y hb hy => ?_⟩ nth
    have hj : j < es.length := (List.getElem?_eq_some_iff.mp hb).1
    have hb' := hat j b y (by rw [List.getElem?_append_left hj]; exact hb) (by rw [List.getElem?_append_left (by omega)]; exact hy)
    exact nth b _ hb' (ne_of hb' hl (by intro q; cases q))
end
end Wb

namespace Wb
open PySem L2
/-- the whole number in a slot -/
def gi (σ : St) (i : Nat) : Nat := match σ[i]? with
  | some (some (.int z)) => z.toNat
  | _ => 0
section
variable {P : Program} {w : World} {K : PySem.W.Frag} {mg : Str → Option Value} {base : Heap} {t : Adr}
/-! ### agenda.note(time, place) -/
def spNote (t : Adr) : Sp := fun vs H Q _ => ∃ (p l : Addr) (es : List Addr) (E : List (Nat × Nat)) (x k : Nat), vs = [.ref p, .int (x : Int), .int (k : Int)] ∧ AgAt t H p l es E ∧ E.Pairwise (fun a b => b.1 ≤ a.1) ∧ E.length < sizeLine ∧
  ∀ (es' : List Addr) (E1 E2 : List (Nat × Nat)) (H' : Hp), E = E1 ++ E2 → (∀ e, e ∈ E1 → x ≤ e.1) → (∀ e, e ∈ E2 → e.1 ≤ x) → AgAt t H' p l es' (E1 ++ (x, k) :: E2) → (∀ b o, H b = some o → b ≠ l → H' b = some o) → Q .non H'
theorem scNote : FnScope ["self", "time", "place", "low", "high", "middle"] ["self", "time", "place"] (defScope sNote) := ⟨rfl, rfl, rfl, by decide +kernel, rfl, by decide +kernel, by decide +kernel⟩
theorem ok_note {f : Addr} {fd : FuncData} (F : Fun K "note" "Agenda.note" sNote f fd) (T : Txt K mg t) : FnOk P w K mg base CX0 1 f fd ["self", "time", "place"] (spNote t) := by
  refine F.ok scNote (fun vs H Q E h => ?_) (fun cdv A outer s H vs Q E hr h => ?_)
  · obtain ⟨p, l, es, E', x, k, rfl, _⟩ := h
    rfl
  · obtain ⟨p, l, es, E', x, pl, rfl, ⟨⟨dx, hp⟩, hl, hlen, hat⟩, hso, hsz, k⟩ := h
    refine ⟨_, pss_cons (ps_set (i := 3) scNote.nd rfl (Or.inl rfl) pe_int)
      (pss_cons (ps_set (i := 4) scNote.nd rfl (Or.inl rfl) (pe_callB call_len_seq (by rfl) T.bLen PySem.boot_len (pa_cons (pe_fld (pv 0) rfl) pa_nil)))
      (pss_cons (ps_while PassesOwn.never (pt_cmp (pc_lt (pv 3) (pv 4)))
        (pss_cons (ps_set (i := 5) scNote.nd rfl (Or.inl rfl) (pe_op op_fdiv (pe_add (pv 3) (pv 4)) pe_int))
        (pss_one (ps_if (pt_cmp (pc_gt (pe_ix ix_tup (pe_ix ix_list (pe_fld (pv 0) rfl) (pv 5) (fun _ _ => rfl)) pe_int (fun _ _ => rfl)) (pv 1)))
          (pss_one (ps_set (i := 3) scNote.nd rfl (Or.inl rfl) (pe_add (pv 5) pe_int))) (pss_one (ps_set (i := 4) scNote.nd rfl (Or.inl rfl) (pv 5)))))))
      (pss_one (ps_expr (pe_bm PySem.F.plainAttrs_list PySem.F.slot_list_insert PySem.F.type_list_insert mt_insert (pe_fld (pv 0) rfl) (pa_cons (pv 3) (pa_cons (pe_tup (pa_cons (pv 1) (pa_cons (pv 2) pa_nil))) pa_nil))))))), ?_⟩
    refine ⟨_, rfl, p, t.A, dx, _, _, rfl, hp, T.clA, T.aEnt, af_ent _, l, _, rfl, .inl (SqL.of hl), ?_⟩
    have hes : (vr es).length = E'.length := by rw [List.length_map, hlen]
    refine while_by (fun σ H' => ∃ (lo hi : Nat) (mid : Option V), σ = [some (.ref p), some (.int (x : Int)), some (.int (pl : Int)), some (.int (lo : Int)), some (.int (hi : Int)), mid] ∧ H' = H ∧ lo ≤ hi ∧ hi ≤ E'.length ∧
        (∀ j e, j < lo → E'[j]? = some e → x < e.1) ∧ (∀ j e, hi ≤ j → E'[j]? = some e → e.1 ≤ x)) (fun σ _ => gi σ 4 - gi σ 3)
      ⟨0, E'.length, none, by rw [← hes]; rfl, rfl, Nat.zero_le _, Nat.le_refl _, fun j e h => by omega, fun j e h e1 => by rw [List.getElem?_eq_none h] at e1; cases e1⟩ (fun σ H' hP => ?_)
      (fun σ H Q Q' h ⟨v, e1, u, e2, i, j, ei, ej, c, ec, q⟩ => ⟨v, e1, u, e2, i, j, ei, ej, c, ec, h _ _ q⟩)
    obtain ⟨lo, hi, mid, rfl, rfl, h1, h2, h3, h4⟩ := hP
    refine ⟨_, rfl, _, rfl, _, _, rfl, rfl, _, rfl, ite2 (fun c => ?_) fun c => ?_⟩
    · have c : (lo : Int) < (hi : Int) := of_decide_eq_true c
      refine ⟨_, rfl, _, rfl, _, _, rfl, rfl, _, _, rfl, rfl, ⟨by decide, by decide⟩, ?_⟩
      have em : ((lo : Int) + (hi : Int)) / 2 = (((lo + hi) / 2 : Nat) : Int) := by omega
      show gName 5 (V.int (((lo : Int) + (hi : Int)) / 2)) _ _ _
      rw [em]
      generalize hmd : (lo + hi) / 2 = md
      have hmd1 : lo ≤ md := by omega
      have hmd2 : md < hi := by omega
      have hmE : md < E'.length := by omega
      obtain ⟨a, ha⟩ : ∃ a, es[md]? = some a := ⟨es[md]'(by omega), List.getElem?_eq_getElem (by omega)⟩
      obtain ⟨e, he⟩ : ∃ e, E'[md]? = some e := ⟨E'[md], List.getElem?_eq_getElem hmE⟩
      have hta := hat md a e ha he
      refine ⟨_, rfl, p, t.A, dx, _, _, rfl, hp, T.clA, T.aEnt, af_ent _, _, rfl, l, _, _, V.ref a, rfl, rfl, SqL.of hl, atI_nat (by rw [List.getElem?_map, ha]; rfl), a, _, _, V.int (e.1 : Int), rfl, rfl, SqT.of hta, rfl, _, rfl, _, _, rfl, rfl, _, rfl, ite2 (fun c2 => ?_) fun c2 => ?_⟩
      · have c2 : (x : Int) < (e.1 : Int) := of_decide_eq_true c2
        refine ⟨_, rfl, _, _, rfl, rfl, ⟨md + 1, hi, _, rfl, rfl, by omega, h2, fun j e' hj he' => ?_, h4⟩, ?_⟩
        · by_cases q : j < lo
          · exact h3 j e' q he'
          · by_cases q2 : j = md
            · subst q2; rw [he] at he'; cases he'; omega
            · have hj' : j < md := by omega
              have hjl : j < E'.length := by omega
              have hpw := List.pairwise_iff_getElem.mp hso j md hjl hmE hj'
              have e1 : E'[j] = e' := by rw [List.getElem?_eq_getElem hjl] at he'; exact Option.some.inj he'
              have e2 : E'[md] = e := by rw [List.getElem?_eq_getElem hmE] at he; exact Option.some.inj he
              rw [e1, e2] at hpw; omega
        · show gi [_, _, _, some (V.int ((md : Int) + 1)), some (V.int (hi : Int)), _] 4 - gi [_, _, _, some (V.int ((md : Int) + 1)), some (V.int (hi : Int)), _] 3 < gi [_, _, _, some (V.int (lo : Int)), some (V.int (hi : Int)), _] 4 - gi [_, _, _, some (V.int (lo : Int)), some (V.int (hi : Int)), _] 3
          simp only [gi, List.getElem?_cons_succ, List.getElem?_cons_zero]
          omega
      · have c2 : ¬ (x : Int) < (e.1 : Int) := fun q => c2 (decide_eq_true q)
        refine ⟨_, rfl, ⟨lo, md, _, rfl, rfl, hmd1, by omega, h3, fun j e' hj he' => ?_⟩, ?_⟩
        · by_cases q2 : j = md
          · subst q2; rw [he] at he'; cases he'; omega
          · have hj' : md < j := by omega
            have hjl : j < E'.length := (List.getElem?_eq_some_iff.mp he').1
            have hpw := List.pairwise_iff_getElem.mp hso md j hmE hjl hj'
            have e1 : E'[j] = e' := by rw [List.getElem?_eq_getElem hjl] at he'; exact Option.some.inj he'
            have e2 : E'[md] = e := by rw [List.getElem?_eq_getElem hmE] at he; exact Option.some.inj he
            rw [e1, e2] at hpw; omega
        · show gi [_, _, _, some (V.int (lo : Int)), some (V.int (md : Int)), _] 4 - gi [_, _, _, some (V.int (lo : Int)), some (V.int (md : Int)), _] 3 < gi [_, _, _, some (V.int (lo : Int)), some (V.int (hi : Int)), _] 4 - gi [_, _, _, some (V.int (lo : Int)), some (V.int (hi : Int)), _] 3
          simp only [gi, List.getElem?_cons_succ, List.getElem?_cons_zero]
          omega
    · have c : ¬ (lo : Int) < (hi : Int) := fun q => c (decide_eq_true q)
      have elh : lo = hi := by omega
      subst elh
      refine ⟨_, rfl, p, t.A, dx, _, _, rfl, hp, T.clA, T.aEnt, af_ent _, .inl ⟨rfl, _, SqL.of hl⟩, _, rfl, _, rfl, _, rfl, (by show 2 ≤ sizeLine; decide), fun a ha => ?_⟩
      have nla : l ≠ a := ne_of_none hl ha
      have npa : p ≠ a := ne_of_none hp ha
      have npl : p ≠ l := ne_of hp hl (by intro q; cases q)
      refine ⟨l, vr es, lo, V.ref a, rfl, rfl, by rw [upd_ne nla]; exact hl, by rw [hes]; exact h2, by rw [hes]; exact hsz, ?_⟩
      have kp : ∀ (b : Addr) (o : HO), H' b = some o → b ≠ l → (upd (upd H' a (.tup [.int (x : Int), .int (pl : Int)])) l (.lst ((vr es).take lo ++ V.ref a :: (vr es).drop lo))) b = some o := fun b o e hb => by
        rw [upd_ne hb, upd_ne (ne_of_none e ha)]; exact e
      have elist : (vr es).take lo ++ V.ref a :: (vr es).drop lo = vr (es.take lo ++ a :: es.drop lo) := by
        simp only [vr, List.map_append, List.map_cons, List.map_take, List.map_drop]
      refine k (es.take lo ++ a :: es.drop lo) (E'.take lo) (E'.drop lo) _ (List.take_append_drop lo E').symm (fun e he => ?_) (fun e he => ?_) ⟨⟨dx, kp p _ hp npl⟩, by rw [upd_same, elist], ?_, fun j b y hb hy => ?_⟩ kp
      · obtain ⟨j, hj, e1⟩ := List.getElem_of_mem he
        have hj2 : j < lo := by rw [List.length_take] at hj; omega
        have := h3 j e hj2 (by rw [← e1, List.getElem_take, List.getElem?_eq_getElem])
        omega
      · obtain ⟨j, hj, e1⟩ := List.getElem_of_mem he
        exact h4 (lo + j) e (by omega) (by rw [← e1, List.getElem_drop, List.getElem?_eq_getElem])
      · simp only [List.length_append, List.length_cons, List.length_take, List.length_drop]; omega
      · by_cases q : j < lo
        · rw [List.getElem?_append_left (by rw [List.length_take]; omega), List.getElem?_take_of_lt q] at hb hy
          have hb' := hat j b y hb hy
          exact kp b _ hb' (ne_of hb' hl (by intro q; cases q))
        · rw [List.getElem?_append_right (by rw [List.length_take]; omega)] at hb hy
          rw [List.length_take, Nat.min_eq_left (by omega)] at hb hy
          cases e : j - lo with
          | zero =>
            rw [e] at hb hy
            simp only [List.getElem?_cons_zero, Option.some.injEq] at hb hy
            subst hb hy
            rw [upd_ne nla.symm, upd_same]
          | succ i =>
            rw [e] at hb hy
            rw [List.getElem?_cons_succ, List.getElem?_drop] at hb hy
            have hb' := hat (lo + i) b y hb hy
            exact kp b _ hb' (ne_of hb' hl (by intro q; cases q))
end
end Wb

namespace Wb
open PySem L2
theorem ne_of_test {a b : Int} (h : (!decide (a = b)) = true) : ¬ a = b := fun z => by rw [decide_eq_true z] at h; cases h
theorem eq_of_test {a b : Int} (h : ¬ (!decide (a = b)) = true) : a = b := by
  rcases Decidable.em (a = b) with z | z
  · exact z
  · exact absurd (by rw [decide_eq_false z]; rfl) h
theorem ixN_nat {n j : Nat} (h : j < n) : ixN n (j : Int) = some j := by
  unfold ixN
  rw [if_pos (by omega), if_pos (by omega)]
  simp
theorem vi_set {l v : List Nat} {k x : Nat} : (vi (l ++ v)).set (l.length + k) (V.int (x : Int)) = vi (l ++ v.set k x) := by
  unfold vi
  rw [← List.map_set (f := fun n : Nat => V.int (n : Int)) (a := x), List.set_append_right _ _ (by omega), Nat.add_sub_cancel_left]
theorem range_vi (n : Nat) : ((List.range n).map fun i : Nat => V.int (i : Int)) = vi (List.range n) := rfl
section
variable {P : Program} {w : World} {K : PySem.W.Frag} {mg : Str → Option Value} {base : Heap} {t : Adr}
/-! ### always_so(net, loose, before) -/
def spAlways (t : Adr) : Sp := fun vs H Q _ => ∃ (p l b ln u : Addr) (as us : List Addr) (n : Nat) (gs : List Kp148.Gate) (loose v : List Nat), vs = [.ref p, .ref l, .ref b] ∧ NetAt t H p n gs ln u as us ∧ H l = some (.lst (vi loose)) ∧ H b = some (.lst (vi v)) ∧
  loose.length = n ∧ v.length = gs.length ∧ (∀ x, x ∈ gs → Fits (n + gs.length) x) ∧ (∀ k, Kp148.on loose k ≤ 2) ∧ (∀ k, Kp148.on v k ≤ 2) ∧ n + gs.length ≤ 100000 ∧
  ∀ (r : Addr) (H' : Hp), H r = none → H' r = some (.lst (vi (loose ++ Kp148.always gs loose v))) → Same H H' → Q (.ref r) H'
theorem scAlways : FnScope ["net", "loose", "before", "on", "waiting", "place", "signal"] ["net", "loose", "before"] (defScope sAlways) := ⟨rfl, rfl, rfl, by decide +kernel, rfl, by decide +kernel, by decide +kernel⟩
/-- between two turns -/
structure AlwSt (H : Hp) (p l b r wl : Addr) (gs : List Kp148.Gate) (loose v0 : List Nat) (m : Nat) (σ : St) (H' : Hp) (v wt : List Nat) (pl sg : Option V) : Prop where
  ms : m = wt.length + mw (fun j => (users gs (loose.length + j)).length) 0 v
  mb : m ≤ 3 * gs.length
  st : σ = [some (.ref p), some (.ref l), some (.ref b), some (.ref r), some (.ref wl), pl, sg]
  hr : H' r = some (.lst (vi (loose ++ v)))
  hw : H' wl = some (.lst (vi wt))
  sm : Same H H'
  inv : AlwInv gs loose v0 v wt
theorem ok_always {f fC : Addr} {fd fdC : FuncData} (F : Fun K "always_so" "always_so" sAlways f fd) (T : Txt K mg t) (DC : Df K mg "comes_to" sComes ["gate", "on"] fC fdC) : FnOk P w K mg base CX0 2 f fd ["net", "loose", "before"] (spAlways t) := by
  have GC : FnOk P w K mg base CX0 1 fC fdC ["gate", "on"] (spComes t K) := ok_comes DC.F T
  obtain ⟨uU, mU, rU⟩ := T.cUNSURE
  refine F.ok scAlways (fun vs H Q E h => ?_) (fun cdv A outer s H vs Q E hr h => ?_)
  · obtain ⟨p, l, b, ln, u, as, us, n, gs, loose, v, rfl, _⟩ := h
    rfl
  · obtain ⟨p, l, b, ln, u, as, us, n, gs, loose, v0, rfl, hN, hl, hb, hn, hv, hfit, hl2, hv2, hsz, k⟩ := h
    subst hn
    have hsl : (400000 : Nat) ≤ sizeLine := by decide
    refine ⟨_, pss_cons (ps_set (i := 3) scAlways.nd rfl (Or.inl rfl) (pe_op op_cat (pv 1) (pv 2)))
      (pss_cons (ps_set (i := 4) scAlways.nd rfl (Or.inl rfl) (pe_callTy (call_list_rng rfl) (by rfl) T.bList PyProof.Rows.boot_list (pa_cons (pe_callTy call_rng1 (by rfl) T.bRange PyProof.Rows.boot_range (pa_cons (pe_callB call_len_seq (by rfl) T.bLen PySem.boot_len (pa_cons (pe_fld (pv 0) rfl) pa_nil)) pa_nil)) pa_nil)))
      (pss_cons (ps_while PassesOwn.never (pt_cmp (pc_gt (pe_callB call_len_seq (by rfl) T.bLen PySem.boot_len (pa_cons (pv 4) pa_nil)) pe_int))
        (pss_cons (ps_set (i := 5) scAlways.nd rfl (Or.inl rfl) (pe_bm0 PySem.F.plainAttrs_list PySem.F.slot_list_pop PySem.F.type_list_pop mt_pop (pv 4)))
        (pss_cons (ps_set (i := 6) scAlways.nd rfl (Or.inl rfl) (pe_add (pe_fld (pv 0) rfl) (pv 5)))
        (pss_one (ps_if (PW.pt (pw_and (pt_cmp (pc_neI (pe_ix ix_list (pv 3) (pv 6) (fun _ _ => rfl)) (pe_glob rfl mU rU)))
            (pw_and1 (pt_cmp (pc_neI (pe_call GC hr rfl DC.g DC.F.kp DC.b .nil pass0 (pa_cons (pe_ix ix_list (pe_fld (pv 0) rfl) (pv 5) (fun _ _ => rfl)) (pa_cons (pv 3) pa_nil))) (pe_ix ix_list (pv 3) (pv 6) (fun _ _ => rfl)))))))
          (pss_cons (ps_asg (pe_glob rfl mU rU) (pg_sub (pv 3) (pv 6) set_list)) (pss_one (ps_expr (pe_bm PySem.F.plainAttrs_list PySem.F.slot_list_extend PySem.F.type_list_extend mt_extend (pv 4) (pa_cons (pe_ix ix_list (pe_fld (pv 0) rfl) (pv 6) (fun _ _ => rfl)) pa_nil)))))
          pss_nil)))))
      (pss_one (ps_ret (pv 3))))), ?_⟩
    obtain ⟨dn, hob⟩ := hN.ob
    refine ⟨_, rfl, _, rfl, l, b, vi loose, vi v0, rfl, rfl, hl, hb, (by simp only [vi, List.length_map]; omega), fun r hr0 => ?_⟩
    have ecat : vi loose ++ vi v0 = vi (loose ++ v0) := by simp [vi]
    rw [ecat]
    have s1 : Same H (upd H r (.lst (vi (loose ++ v0)))) := Same.new hr0
    refine ⟨_, rfl, p, t.N, dn, _, _, rfl, s1 _ _ hob, T.clN, T.nGates, nf_gates _ _ _ _, ln, _, rfl, .inl (SqL.of (s1 _ _ hN.gts.lst)), _, rfl, fun q hq => ?_⟩
    have elen : (((vr as).length : Nat) : Int) = ((gs.length : Nat) : Int) := by rw [List.length_map, hN.gts.len]
    rw [elen] at *
    have s2 := s1.trans (Same.new (o := .rng 0 (gs.length : Int)) hq)
    refine ⟨q, gs.length, rfl, upd_same, by omega, fun wl hwl => ?_⟩
    rw [range_vi]
    have s3 := s2.trans (Same.new (o := .lst (vi (List.range gs.length))) hwl)
    have nrq : r ≠ q := ne_of_none (upd_same (H := H) (a := r)) hq
    have nrw : r ≠ wl := ne_of_none (show (upd (upd H r (.lst (vi (loose ++ v0)))) q (.rng 0 (gs.length : Int))) r = some (.lst (vi (loose ++ v0))) by rw [upd_ne nrq, upd_same]) hwl
    refine ⟨fun m σ H' => ∃ v wt pl sg, AlwSt H p l b r wl gs loose v0 m σ H' v wt pl sg, ⟨_, v0, List.range gs.length, none, none, rfl, ?_, rfl, ?_, ?_, s3, AlwInv.start hv⟩, fun m σ H' hW => ?_⟩
    · have := mw_users gs v0 loose.length
      rw [List.length_range]; omega
    · rw [upd_ne nrw, upd_ne nrq, upd_same]
    · rw [upd_same]
    obtain ⟨v, wt, pl, sg, ⟨hms, hmb, rfl, hr1, hw1, sm, inv⟩⟩ := hW
    refine ⟨_, rfl, wl, _, rfl, .inl (SqL.of hw1), _, _, rfl, rfl, _, rfl, ite2 (fun c => ?_) fun c => ?_⟩
    · -- a turn
      have c : (0 : Int) < (((vi wt).length : Nat) : Int) := of_decide_eq_true c
      have hne : wt ≠ [] := fun z => by subst z; simp [vi] at c
      obtain ⟨wt', pk, rfl⟩ : ∃ wt' pk, wt = wt' ++ [pk] := ⟨wt.dropLast, wt.getLast hne, (List.dropLast_concat_getLast hne).symm⟩
      refine ⟨fun σ' H'' => ∃ m', m' < m ∧ ∃ v wt pl sg, AlwSt H p l b r wl gs loose v0 m' σ' H'' v wt pl sg, fun _ _ h => h, ?_⟩
      have hpk : pk < gs.length := inv.wlt pk (by simp)
      have hlv : v.length = gs.length := inv.len
      have epop : (vi (wt' ++ [pk])).dropLast = vi wt' := by simp [vi]
      refine ⟨_, rfl, .inl ⟨rfl, _, SqL.of hw1⟩, wl, _, V.int (pk : Int), rfl, rfl, hw1, by simp [vi], ?_⟩
      rw [epop]
      have kp1 : ∀ (b : Addr) (o : HO), H' b = some o → b ≠ wl → (upd H' wl (.lst (vi wt'))) b = some o := fun b o e hb => by rw [upd_ne hb]; exact e
      have hwlH : H wl = none := s2.free hwl
      have sm1 : Same H (upd H' wl (.lst (vi wt'))) := fun b o e => kp1 b o (sm b o e) (ne_of_none e hwlH)
      have hr2 := kp1 r _ hr1 nrw
      generalize hH1 : upd H' wl (.lst (vi wt')) = H1 at kp1 sm1 hr2
      have hw2 : H1 wl = some (.lst (vi wt')) := by rw [← hH1, upd_same]
      have N1 := hN.same sm1
      obtain ⟨dn1, hob1⟩ := N1.ob
      refine ⟨_, rfl, p, t.N, dn1, _, _, rfl, hob1, T.clN, T.nInputs, nf_inputs _ _ _ _, _, rfl, _, _, rfl, rfl, ?_⟩
      have esg : (loose.length : Int) + (pk : Int) = ((loose.length + pk : Nat) : Int) := by omega
      have hsg : loose.length + pk < (loose ++ v).length := by rw [List.length_append]; omega
      have eon : Kp148.on (loose ++ v) (loose.length + pk) = Kp148.on v pk := by
        rw [on_app, if_neg (by omega)]; congr 1; omega
      have hat1 : atI (vi (loose ++ v)) ((loose.length : Int) + (pk : Int)) = some (V.int (Kp148.on v pk : Nat)) := by
        rw [esg, atI_nat (vi_at hsg), eon]
      have hmw := mw_set (fun j => (users gs (loose.length + j)).length) 0 pk v (by omega)
      have hwl' : (wt' ++ [pk]).length = wt'.length + 1 := by simp
      refine ⟨_, rfl, _, rfl, r, _, _, _, rfl, rfl, SqL.of hr2, hat1, _, _, rfl, rfl, _, rfl, ?_⟩
      have keep : (Kp148.on v pk = 2 ∨ Kp148.look (gt gs pk) (loose ++ v) = Kp148.on v pk) → ∀ pl' sg', ∃ m', m' < m ∧ ∃ v wt pl sg, AlwSt H p l b r wl gs loose v0 m' [some (.ref p), some (.ref l), some (.ref b), some (.ref r), some (.ref wl), pl', sg'] H1 v wt pl sg := fun hk pl' sg' =>
        ⟨wt'.length + mw (fun j => (users gs (loose.length + j)).length) 0 v, by omega, v, wt', pl', sg', rfl, by omega, rfl, hr2, hw2, sm1, inv.keep hk⟩
      refine ite2 (fun c1 => ?_) fun c1 => ?_
      · have c1 : ¬ ((Kp148.on v pk : Nat) : Int) = 2 := ne_of_test c1
        have hn2 : Kp148.on v pk ≠ 2 := by omega
        obtain ⟨a, ha⟩ : ∃ a, as[pk]? = some a := ⟨as[pk]'(by rw [N1.gts.len]; exact hpk), List.getElem?_eq_getElem _⟩
        refine ⟨_, rfl, p, t.N, dn1, _, _, rfl, hob1, T.clN, T.nGates, nf_gates _ _ _ _, _, rfl, ln, _, _, V.ref a, rfl, rfl, SqL.of N1.gts.lst, atI_nat (by rw [List.getElem?_map, ha]; rfl), _, rfl, ?_⟩
        refine ⟨a, r, gt gs pk, loose ++ v, rfl, N1.gts.at_ pk a ha, SqL.of hr2, by rw [List.length_append, hlv]; exact hfit _ (gt_mem hpk), fun j => ?_, ?_⟩
        · rw [on_app]
          split
          · exact hl2 j
          · rcases inv.le.le (j - loose.length) with e | e
            · omega
            · rw [e]; exact hv2 _
        refine ⟨_, rfl, _, rfl, r, _, _, _, rfl, rfl, SqL.of hr2, hat1, _, _, rfl, rfl, _, rfl, ite2 (fun c2 => ?_) fun c2 => ?_⟩
        · have c2 : ¬ ((Kp148.look (gt gs pk) (loose ++ v) : Nat) : Int) = ((Kp148.on v pk : Nat) : Int) := ne_of_test c2
          refine ⟨_, rfl, _, rfl, r, _, _, loose.length + pk, rfl, rfl, hr2, ?_, ?_⟩
          · rw [esg]; exact ixN_nat (by simp only [vi, List.length_map]; exact hsg)
          have eset : (vi (loose ++ v)).set (loose.length + pk) (V.int 2) = vi (loose ++ v.set pk 2) := vi_set (x := 2)
          rw [eset]
          have hrH : H r = none := hr0
          have kp2 : ∀ (b : Addr) (o : HO), H1 b = some o → b ≠ r → (upd H1 r (.lst (vi (loose ++ v.set pk 2)))) b = some o := fun b o e hb => by rw [upd_ne hb]; exact e
          have sm2 : Same H (upd H1 r (.lst (vi (loose ++ v.set pk 2)))) := fun b o e => kp2 b o (sm1 b o e) (ne_of_none e hrH)
          have hw3 := kp2 wl _ hw2 nrw.symm
          generalize hH2 : upd H1 r (.lst (vi (loose ++ v.set pk 2))) = H2 at kp2 sm2 hw3
          have hr3 : H2 r = some (.lst (vi (loose ++ v.set pk 2))) := by rw [← hH2, upd_same]
          have N2 := hN.same sm2
          obtain ⟨dn2, hob2⟩ := N2.ob
          obtain ⟨ua, hua⟩ : ∃ ua, us[loose.length + pk]? = some ua := ⟨us[loose.length + pk]'(by rw [N2.len]; omega), List.getElem?_eq_getElem _⟩
          have huse := N2.use _ ua hua
          refine ⟨_, rfl, .inl ⟨rfl, _, SqL.of hw3⟩, _, rfl, p, t.N, dn2, _, _, rfl, hob2, T.clN, T.nUsers, nf_users _ _ _ _, _, rfl, u, _, _, V.ref ua, rfl, rfl, SqL.of N2.ul, ?_, ?_⟩
          · rw [esg]; exact atI_nat (by rw [List.getElem?_map, hua]; rfl)
          have hm2 := hmw hn2
          rw [Nat.zero_add] at hm2
          refine ⟨wl, ua, _, _, rfl, rfl, hw3, huse, by simp only [vi, List.length_map]; omega, ?_⟩
          have eext : vi wt' ++ vi (users gs (loose.length + pk)) = vi (wt' ++ users gs (loose.length + pk)) := by simp [vi]
          rw [eext]
          refine ⟨(wt' ++ users gs (loose.length + pk)).length + mw (fun j => (users gs (loose.length + j)).length) 0 (v.set pk 2), ?_, v.set pk 2, _, _, _, rfl, ?_, rfl, ?_, upd_same, fun b o e => ?_, inv.lose hv hn2 (by omega)⟩
          · rw [List.length_append]; omega
          · rw [List.length_append]; omega
          · rw [upd_ne nrw]; exact hr3
          · rw [upd_ne (ne_of_none e hwlH)]; exact sm2 b o e
        · have c2 : ((Kp148.look (gt gs pk) (loose ++ v) : Nat) : Int) = ((Kp148.on v pk : Nat) : Int) := eq_of_test c2
          exact keep (.inr (by omega)) _ _
      · have c1 : ((Kp148.on v pk : Nat) : Int) = 2 := eq_of_test c1
        refine iteF ?_
        exact keep (.inl (by omega)) _ _
    · have c : ¬ (0 : Int) < (((vi wt).length : Nat) : Int) := fun z => c (decide_eq_true z)
      have hwt : wt = [] := by
        cases wt with
        | nil => rfl
        | cons x r => exact absurd (by simp [vi]) c
      subst hwt
      have e := inv.stop hv
      subst e
      exact ⟨_, rfl, k r _ hr0 hr1 sm⟩
end
end Wb

namespace Wb
open PySem L2
theorem yes_if {σ : St} {H : Hp} {A B : Hp → Prop} (h : A H) : tYes σ H (fun b H3 => if b = true then A H3 else B H3) := by
  show if true = true then A H else B H
  rw [if_pos rfl]
  exact h
theorem users_le (g : List Kp148.Gate) (s : Nat) : (users g s).length ≤ 2 * g.length := by
  have := users_sum g 0 [s] (by simp)
  simpa using this
section
variable {P : Program} {w : World} {K : PySem.W.Frag} {mg : Str → Option Value} {base : Heap} {t : Adr}
/-! ### find_users(inputs, gates) -/
def spUsers (t : Adr) : Sp := fun vs H Q _ => ∃ (n : Nat) (l : Addr) (as : List Addr) (gs : List Kp148.Gate), vs = [.int (n : Int), .ref l] ∧ GatesAt t H l as gs ∧ (∀ x, x ∈ gs → Fits (n + gs.length) x) ∧ n + gs.length ≤ 100000 ∧
  ∀ (u : Addr) (us : List Addr) (H' : Hp), H u = none → (∀ a, a ∈ us → H a = none) → H' u = some (.lst (vr us)) → us.length = n + gs.length → (∀ (s : Nat) (a : Addr), us[s]? = some a → H' a = some (.lst (vi (users gs s)))) → Same H H' → Q (.ref u) H'
theorem scUsers : FnScope ["inputs", "gates", "users", "place", "gate", "signal"] ["inputs", "gates"] (defScope sUsers) := ⟨rfl, rfl, rfl, by decide +kernel, rfl, by decide +kernel, by decide +kernel⟩
/-- the lists that are filled -/
structure UsSt (H : Hp) (u : Addr) (us : List Addr) (f : Nat → List Nat) (H' : Hp) : Prop where
  ul : H' u = some (.lst (vr us))
  nd : us.Nodup
  nu : u ∉ us
  fr : H u = none
  frs : ∀ a, a ∈ us → H a = none
  at_ : ∀ (s : Nat) (a : Addr), us[s]? = some a → H' a = some (.lst (vi (f s)))
  sm : Same H H'
theorem ok_users {f fS : Addr} {fd fdS : FuncData} (F : Fun K "find_users" "find_users" sUsers f fd) (T : Txt K mg t) (DS : Df K mg "sources" sSources ["gate"] fS fdS) : FnOk P w K mg base CX0 2 f fd ["inputs", "gates"] (spUsers t) := by
  have GS : FnOk P w K mg base CX0 1 fS fdS ["gate"] (spSources t) := ok_sources DS.F T
  refine F.ok scUsers (fun vs H Q E h => ?_) (fun cdv A outer s H vs Q E hr h => ?_)
  · obtain ⟨n, l, as, gs, rfl, _⟩ := h
    rfl
  · obtain ⟨n, l, as, gs, rfl, hG, hfit, hsz, k⟩ := h
    have hsl : (400000 : Nat) ≤ sizeLine := by decide
    refine ⟨_, pss_cons (ps_setLc (i := 2) (own := [("signal", 5)]) rfl scUsers.nd rfl rfl (sw_true rfl rfl rfl rfl) (pi_range1 rfl T.bRange (pa_cons (pe_add (pv 0) (pe_callB call_len_seq (by rfl) T.bLen PySem.boot_len (pa_cons (pv 1) pa_nil))) pa_nil))
        (blkOk_by (N := ["inputs", "gates", "users", "place", "gate", "signal"]) (sc := defScope sUsers) (by decide +kernel)) (fun _ _ _ _ _ => pg_name (i := 5) scUsers.nd rfl (Or.inl rfl)) (fun _ _ _ _ _ => pts_nil) (fun _ _ _ _ _ => pe_lst pa_nil))
      (pss_cons (ps_for PassesOwn.never rfl (pi_enum rfl T.bEnum (pa_cons (pv 1) pa_nil)) (pg_tup (n := 2) rfl (pgs_cons (pg_name (i := 3) scUsers.nd rfl (Or.inl rfl)) (pgs_cons (pg_name (i := 4) scUsers.nd rfl (Or.inl rfl)) pgs_nil)))
        (pss_one (ps_for PassesOwn.never rfl (pi_list (pe_call GS hr rfl DS.g DS.F.kp DS.b .nil pass0 (pa_cons (pv 4) pa_nil))) (pg_name (i := 5) scUsers.nd rfl (Or.inl rfl))
          (pss_one (ps_expr (pe_bm PySem.F.plainAttrs_list PySem.F.slot_list_append PySem.F.type_list_append mt_append (pe_ix ix_list (pv 2) (pv 5) (fun _ _ => rfl)) (pa_cons (pv 3) pa_nil)))))))
      (pss_one (ps_ret (pv 2)))), ?_⟩
    have elen : (((vr as).length : Nat) : Int) = ((gs.length : Nat) : Int) := by rw [List.length_map, hG.len]
    refine ⟨_, rfl, _, rfl, l, _, rfl, .inl (SqL.of hG.lst), _, _, rfl, rfl, (n : Int) + (((vr as).length : Nat) : Int), rfl, by omega, by omega, fun u hu => ?_⟩
    have etn : ((n : Int) + (((vr as).length : Nat) : Int)).toNat = n + gs.length := by omega
    rw [etn]
    refine lc_range (lo := 0) (fun i H' => ∃ us : List Addr, us.length = i ∧ UsSt H u us (fun _ => []) H') ⟨[], rfl, upd_same, by simp, by simp, hu, by simp, fun s a e => by simp at e, Same.new hu⟩ (fun i H' hi hP => ?_) (fun H' hP => ?_)
    · obtain ⟨us, hus, S⟩ := hP
      refine ⟨rfl, yes_if ?_⟩
      refine ⟨(by show 0 ≤ sizeLine; decide), fun a ha => ⟨vr us, ?_, ?_, us ++ [a], by simp [hus], ?_⟩⟩
      · rw [upd_ne (ne_of_none S.ul ha)]; exact S.ul
      · rw [List.length_map]; omega
      have nua : u ≠ a := ne_of_none S.ul ha
      have nin : a ∉ us := fun z => by
        obtain ⟨j, hj, e⟩ := List.getElem_of_mem z
        have := S.at_ j a (by rw [← e]; exact List.getElem?_eq_getElem hj)
        rw [ha] at this; cases this
      refine ⟨by rw [upd_same]; simp [vr], ?_, by simp [S.nu, nua], hu, fun b hb => ?_, fun s b e => ?_, fun b o e => ?_⟩
      · rw [List.nodup_append]
        exact ⟨S.nd, by simp, fun x hx y hy => by simp at hy; subst hy; exact fun z => nin (z ▸ hx)⟩
      · simp at hb
        rcases hb with hb | hb
        · exact S.frs b hb
        · subst hb; exact S.sm.free ha
      · by_cases q : s < us.length
        · rw [List.getElem?_append_left q] at e
          have hb := S.at_ s b e
          rw [upd_ne (fun z => S.nu (by rw [← z]; exact List.mem_of_getElem? e)), upd_ne (ne_of_none hb ha)]
          exact hb
        · rw [List.getElem?_append_right (by omega)] at e
          cases q2 : s - us.length with
          | zero =>
            rw [q2] at e
            simp at e
            subst e
            rw [upd_ne nua.symm, upd_same]
            rfl
          | succ j => rw [q2] at e; simp at e
      · rw [upd_ne (ne_of_none e hu), upd_ne (ne_of_none (S.sm b o e) ha)]
        exact S.sm b o e
    obtain ⟨us, hus, S0⟩ := hP
    have hlst : ∀ {H'}, Same H H' → SqL K H' l (vr as) := fun s => SqL.of (s _ _ hG.lst)
    refine ⟨_, rfl, l, vr as, rfl, hlst S0.sm, for_enum (K := K) (a := l) (xs := vr as) (fun i σ H' => ∃ (pl g sg : Option V), σ = [some (.int (n : Int)), some (.ref l), some (.ref u), pl, g, sg] ∧ UsSt H u us (users (gs.take i)) H') ⟨_, _, _, rfl, ?_⟩
      (fun i σ H' _ ⟨_, _, _, _, S⟩ => hlst S.sm) (fun i x σ H' Tp hx hP hT => ?_) (fun σ H' hP => ?_)⟩
    · exact ⟨S0.ul, S0.nd, S0.nu, S0.fr, S0.frs, fun s a e => by rw [S0.at_ s a e]; simp [users, usersFrom], S0.sm⟩
    · obtain ⟨pl, g, sg, rfl, S⟩ := hP
      obtain ⟨a, ha, rfl⟩ : ∃ a, as[i]? = some a ∧ V.ref a = x := by
        rw [List.getElem?_map] at hx
        cases e : as[i]? with
        | none => rw [e] at hx; cases hx
        | some a => rw [e] at hx; exact ⟨a, rfl, Option.some.inj hx⟩
      have hi : i < gs.length := by rw [← hG.len]; exact (List.getElem?_eq_some_iff.mp ha).1
      refine ⟨Tp, _, rfl, SqT.of upd_same, rfl, _, _, rfl, _, _, rfl, rfl, ?_⟩
      have sT : Same H' (upd H' Tp (.tup [.int (i : Nat), V.ref a])) := Same.new hT
      generalize hH1 : upd H' Tp (.tup [.int (i : Nat), V.ref a]) = H1 at sT
      have S1 : UsSt H u us (users (gs.take i)) H1 := ⟨sT _ _ S.ul, S.nd, S.nu, S.fr, S.frs, fun s b e => sT _ _ (S.at_ s b e), S.sm.trans sT⟩
      refine ⟨_, rfl, a, gt gs i, rfl, (hG.at_ i a ha).same S1.sm, fun q hq => ⟨q, rfl, ⟨_, SqL.of upd_same⟩, ?_⟩⟩
      have sQ : Same H1 (upd H1 q (.lst (vi (srcs (gt gs i))))) := Same.new hq
      have qu : u ≠ q := ne_of_none S1.ul hq
      have nqu : ∀ b, b ∈ us → b ≠ q := fun b hb z => by
        obtain ⟨j, hj, e⟩ := List.getElem_of_mem hb
        have := S1.at_ j b (by rw [← e]; exact List.getElem?_eq_getElem hj)
        rw [z, hq] at this; cases this
      have hqs : (upd H1 q (.lst (vi (srcs (gt gs i))))) q = some (.lst (vi (srcs (gt gs i)))) := upd_same
      generalize hH2 : upd H1 q (.lst (vi (srcs (gt gs i)))) = H2 at sQ hqs
      have S2 : UsSt H u us (users (gs.take i)) H2 := ⟨sQ _ _ S1.ul, S1.nd, S1.nu, S1.fr, S1.frs, fun s b e => sQ _ _ (S1.at_ s b e), S1.sm.trans sQ⟩
      have hsrc : ∀ s, s ∈ srcs (gt gs i) → s < us.length := fun s hs => by rw [hus]; exact fits_srcs (hfit _ (gt_mem hi)) s hs
      refine for_list (K := K) (a := q) (xs := vi (srcs (gt gs i))) (fun j σ H' => ∃ (sg : Option V), σ = [some (.int (n : Int)), some (.ref l), some (.ref u), some (.int (i : Int)), some (.ref a), sg] ∧ H' q = some (.lst (vi (srcs (gt gs i)))) ∧
          UsSt H u us (fun s => users (gs.take i) s ++ (((srcs (gt gs i)).take j).filter (fun y => y == s)).map (fun _ => i)) H') ⟨_, rfl, hqs, by simpa using S2⟩ (fun j σ H' _ ⟨_, _, e, _⟩ => SqL.of e) (fun j x σ H' hx hP => ?_) (fun σ H' hP => ?_)
      · obtain ⟨sg, rfl, hq', S⟩ := hP
        obtain ⟨y, hy, rfl⟩ : ∃ y, (srcs (gt gs i))[j]? = some y ∧ V.int (y : Int) = x := by
          rw [List.getElem?_map] at hx
          cases e : (srcs (gt gs i))[j]? with
          | none => rw [e] at hx; cases hx
          | some a => rw [e] at hx; exact ⟨a, rfl, Option.some.inj hx⟩
        have hyl := hsrc y (List.mem_of_getElem? hy)
        obtain ⟨ua, hua⟩ : ∃ ua, us[y]? = some ua := ⟨us[y], List.getElem?_eq_getElem hyl⟩
        have hc := S.at_ y ua hua
        refine ⟨_, rfl, _, rfl, u, _, _, V.ref ua, rfl, rfl, SqL.of S.ul, atI_nat (by rw [List.getElem?_map, hua]; rfl), .inl ⟨rfl, _, SqL.of hc⟩, _, rfl, ua, _, _, rfl, rfl, hc, ?_, ?_⟩
        · have h1 := users_le (gs.take i) y
          have h2 : ((((srcs (gt gs i)).take j).filter (fun z => z == y)).map (fun _ => i)).length ≤ 2 := by
            rw [List.length_map]
            refine Nat.le_trans (List.length_filter_le _ _) ?_
            rw [List.length_take]
            have : (srcs (gt gs i)).length ≤ 2 := by unfold srcs; split <;> simp
            omega
          rw [List.length_take] at h1
          simp only [vi, List.length_map, List.length_append] at h2 ⊢
          omega
        have nuu : ua ≠ u := fun z => S.nu (by rw [← z]; exact List.mem_of_getElem? hua)
        have nuq : ua ≠ q := nqu ua (List.mem_of_getElem? hua)
        refine ⟨_, rfl, by rw [upd_ne nuq.symm]; exact hq', by rw [upd_ne nuu.symm]; exact S.ul, S.nd, S.nu, S.fr, S.frs, fun s b e => ?_, fun b o e => ?_⟩
        · have etk : (srcs (gt gs i)).take (j + 1) = (srcs (gt gs i)).take j ++ [y] := by rw [List.take_add_one, hy]; rfl
          by_cases z : s = y
          · subst z
            have : b = ua := Option.some.inj (e.symm.trans hua)
            subst this
            rw [upd_same, etk, List.filter_append, List.map_append]
            simp [vi]
          · have nb : b ≠ ua := fun q => z (nd_ix S.nd e (by rw [q]; exact hua))
            rw [upd_ne nb, S.at_ s b e, etk, List.filter_append, List.map_append]
            have : ([y] : List Nat).filter (fun y => y == s) = [] := by simp; exact fun q => z q.symm
            rw [this]; simp
        · rw [upd_ne (ne_of_none e (S.frs ua (List.mem_of_getElem? hua)))]
          exact S.sm b o e
      · obtain ⟨sg, rfl, hq', S⟩ := hP
        refine ⟨_, _, _, rfl, S.ul, S.nd, S.nu, S.fr, S.frs, fun s b e => ?_, S.sm⟩
        rw [S.at_ s b e]
        have e1 : gs.take (i + 1) = gs.take i ++ [gt gs i] := by rw [List.take_add_one, gt_lt hi]; rfl
        have e2 : (gs.take i).length = i := by rw [List.length_take]; omega
        have e3 : (srcs (gt gs i)).take (vi (srcs (gt gs i))).length = srcs (gt gs i) := by rw [List.length_map, List.take_length]
        rw [e1, users_snoc, e2, e3]
    · obtain ⟨pl, g, sg, rfl, S⟩ := hP
      have e : gs.take (vr as).length = gs := by rw [List.length_map, hG.len, List.take_length]
      rw [e] at S
      exact ⟨_, rfl, k u us H' S.fr S.frs S.ul hus S.at_ S.sm⟩
/-! ### Net(inputs, gates) -/
def spNet (t : Adr) : Sp := fun vs H Q _ => ∃ (p dx : Addr) (n : Nat) (l : Addr) (as : List Addr) (gs : List Kp148.Gate), vs = [.ref p, .int (n : Int), .ref l] ∧ H p = some (.ins t.N dx []) ∧ GatesAt t H l as gs ∧ (∀ x, x ∈ gs → Fits (n + gs.length) x) ∧ n + gs.length ≤ 100000 ∧
  ∀ (u : Addr) (us : List Addr) (H' : Hp), NetAt t H' p n gs l u as us → H u = none → (∀ a, a ∈ us → H a = none) → (∀ b o, H b = some o → b ≠ p → H' b = some o) → Q .non H'
theorem scNet : FnScope ["self", "inputs", "gates"] ["self", "inputs", "gates"] (defScope sNet) := ⟨rfl, rfl, rfl, by decide +kernel, rfl, by decide +kernel, by decide +kernel⟩
theorem ok_net {f fU fS : Addr} {fd fdU fdS : FuncData} (F : Fun K "__init__" "Net.__init__" sNet f fd) (T : Txt K mg t) (DU : Df K mg "find_users" sUsers ["inputs", "gates"] fU fdU) (DS : Df K mg "sources" sSources ["gate"] fS fdS) : FnOk P w K mg base CX0 3 f fd ["self", "inputs", "gates"] (spNet t) := by
  have GU : FnOk P w K mg base CX0 2 fU fdU ["inputs", "gates"] (spUsers t) := ok_users DU.F T DS
  refine F.ok scNet (fun vs H Q E h => ?_) (fun cdv A outer s H vs Q E hr h => ?_)
  · obtain ⟨p, dx, n, l, as, gs, rfl, _⟩ := h
    rfl
  · obtain ⟨p, dx, n, l, as, gs, rfl, hp, hG, hfit, hsz, k⟩ := h
    refine ⟨_, pss_cons (ps_fld (pv 0) (pv 1) rfl) (pss_cons (ps_fld (pv 0) (pv 2) rfl) (pss_cons (ps_fld (pv 0) (pe_add (pv 1) (pe_callB call_len_seq (by rfl) T.bLen PySem.boot_len (pa_cons (pv 2) pa_nil))) rfl) (pss_one (ps_fld (pv 0) (pe_call GU hr rfl DU.g DU.F.kp DU.b .nil pass0 (pa_cons (pv 1) (pa_cons (pv 2) pa_nil))) rfl)))), ?_⟩
    refine ⟨_, rfl, _, rfl, p, t.N, dx, _, rfl, hp, T.clN, T.nInputs, (by decide), ?_⟩
    refine ⟨_, rfl, _, rfl, p, t.N, dx, _, rfl, upd_same, T.clN, T.nGates, Nat.lt_of_le_of_lt putF_len (by decide), ?_⟩
    have nlp : l ≠ p := ne_of hG.lst hp (by intro q; cases q)
    refine ⟨_, rfl, _, rfl, l, _, rfl, .inl (SqL.of (by rw [upd_ne nlp, upd_ne nlp]; exact hG.lst)), _, _, rfl, rfl, _, rfl, p, t.N, dx, _, rfl, upd_same, T.clN, T.nSignals, Nat.lt_of_le_of_lt (Nat.le_trans putF_len (Nat.succ_le_succ putF_len)) (by decide), ?_⟩
    have esig : (n : Int) + (((vr as).length : Nat) : Int) = ((n + gs.length : Nat) : Int) := by rw [List.length_map, hG.len]; omega
    rw [esig]
    have kp : ∀ (b : Addr) (o : HO), H b = some o → b ≠ p → (upd (upd (upd H p (.ins t.N dx (putF "inputs" (.int (n : Int)) []))) p (.ins t.N dx (putF "gates" (.ref l) (putF "inputs" (.int (n : Int)) [])))) p (.ins t.N dx (putF "signals" (.int ((n + gs.length : Nat) : Int)) (putF "gates" (.ref l) (putF "inputs" (.int (n : Int)) []))))) b = some o := fun b o e hb => by rw [upd_ne hb, upd_ne hb, upd_ne hb]; exact e
    have hp2 : (upd (upd (upd H p (.ins t.N dx (putF "inputs" (.int (n : Int)) []))) p (.ins t.N dx (putF "gates" (.ref l) (putF "inputs" (.int (n : Int)) [])))) p (.ins t.N dx (putF "signals" (.int ((n + gs.length : Nat) : Int)) (putF "gates" (.ref l) (putF "inputs" (.int (n : Int)) []))))) p = some (.ins t.N dx (putF "signals" (.int ((n + gs.length : Nat) : Int)) (putF "gates" (.ref l) (putF "inputs" (.int (n : Int)) [])))) := upd_same
    have fr : ∀ c, (upd (upd (upd H p (.ins t.N dx (putF "inputs" (.int (n : Int)) []))) p (.ins t.N dx (putF "gates" (.ref l) (putF "inputs" (.int (n : Int)) [])))) p (.ins t.N dx (putF "signals" (.int ((n + gs.length : Nat) : Int)) (putF "gates" (.ref l) (putF "inputs" (.int (n : Int)) []))))) c = none → H c = none := fun c e => by
      by_cases z : c = p
      · subst z; rw [upd_same] at e; cases e
      · rw [upd_ne z, upd_ne z, upd_ne z] at e; exact e
    generalize (upd (upd (upd H p (.ins t.N dx (putF "inputs" (.int (n : Int)) []))) p (.ins t.N dx (putF "gates" (.ref l) (putF "inputs" (.int (n : Int)) [])))) p (.ins t.N dx (putF "signals" (.int ((n + gs.length : Nat) : Int)) (putF "gates" (.ref l) (putF "inputs" (.int (n : Int)) []))))) = H1 at kp hp2 fr
    have npG : ∀ (b : Addr) (g : Kp148.Gate), GateAt t H b g → GateAt t H1 b g := fun b g ⟨d, e⟩ => ⟨d, kp b _ e fun z => by
      subst z
      rw [hp] at e
      have e' := Option.some.inj e
      injection e' with _ _ e3
      have := gf_kind g
      rw [← e3] at this
      cases this⟩
    have hG1 : GatesAt t H1 l as gs := ⟨kp l _ hG.lst (ne_of hG.lst hp (by intro q; cases q)), hG.len, fun j a e => npG a _ (hG.at_ j a e)⟩
    refine ⟨_, rfl, _, rfl, n, l, as, gs, rfl, hG1, hfit, hsz, fun u us H' hu hus hul hlen huse sm => ?_⟩
    refine ⟨_, rfl, p, t.N, dx, _, rfl, sm _ _ hp2, T.clN, T.nUsers, Nat.lt_of_le_of_lt (Nat.le_trans putF_len (Nat.succ_le_succ (Nat.le_trans putF_len (Nat.succ_le_succ putF_len)))) (by decide), ?_⟩
    have kp2 : ∀ (b : Addr) (o : HO), H' b = some o → b ≠ p → (upd H' p (.ins t.N dx (putF "users" (.ref u) (putF "signals" (.int ((n + gs.length : Nat) : Int)) (putF "gates" (.ref l) (putF "inputs" (.int (n : Int)) [])))))) b = some o := fun b o e hb => by rw [upd_ne hb]; exact e
    have hpH := sm _ _ hp2
    refine k u us _ ⟨⟨dx, upd_same⟩, ⟨kp2 l _ (sm _ _ hG1.lst) (ne_of hG1.lst hp2 (by intro q; cases q)), hG.len, fun j a e => ?_⟩, kp2 u _ hul (ne_of hul hpH (by intro q; cases q)), hlen, fun s a e => kp2 a _ (huse s a e) (ne_of (huse s a e) hpH (by intro q; cases q))⟩ (fr _ hu) (fun a ha => fr _ (hus a ha)) fun b o e hb => kp2 b o (sm b o (kp b o e hb)) hb
    obtain ⟨d, e2⟩ := hG1.at_ j a e
    refine ⟨d, kp2 a _ (sm _ _ e2) fun z => ?_⟩
    subst z
    rw [hp2] at e2
    have e' := Option.some.inj e2
    injection e' with _ _ e3
    have := gf_kind (gt gs j)
    rw [← e3, look_put (by decide +kernel), look_put (by decide +kernel), look_put (by decide +kernel)] at this
    cases this
end
end Wb

namespace Wb
open PySem L2
theorem nodup_lt : ∀ (n : Nat) (l : List Nat), l.Nodup → (∀ x, x ∈ l → x < n) → l.length ≤ n
  | 0, [], _, _ => Nat.le_refl _
  | 0, x :: r, _, h => absurd (h x (by simp)) (by omega)
  | n + 1, l, nd, h => by
    by_cases q : n ∈ l
    · have := nodup_lt n (l.erase n) (nd.erase n) fun x hx => by
        have h1 := h x (List.mem_of_mem_erase hx)
        have h2 : x ≠ n := fun z => by subst z; exact (List.Nodup.not_mem_erase nd) hx
        omega
      rw [List.length_erase_of_mem q] at this
      omega
    · have := nodup_lt n l nd fun x hx => by
        have h1 := h x hx
        have h2 : x ≠ n := fun z => q (z ▸ hx)
        omega
      omega
theorem EndInv.elen {g : List Kp148.Gate} {ins w Z v : Kp148.Row} {t : Kp148.Times} {E : List (Nat × Nat)} {now : Nat} {todo : List Nat} (I : EndInv g ins w Z v t E now todo) : E.length ≤ g.length := by
  have := nodup_lt g.length (E.map (·.2)) I.nd fun x hx => by
    obtain ⟨⟨a, b⟩, hm, rfl⟩ := List.mem_map.mp hx
    exact ((I.ag a b).mp hm).1
  simpa using this
/-- without what stands at a and b -/
def hid2 (H : Hp) (a b : Addr) : Hp := fun c => if c = a ∨ c = b then none else H c
theorem hid2_same (H : Hp) (a b : Addr) : Same (hid2 H a b) H := fun c o e => by
  unfold hid2 at e
  split at e
  · cases e
  · exact e
theorem hid2_ne {H : Hp} {a b c : Addr} {o : HO} (e : hid2 H a b c = some o) : c ≠ a ∧ c ≠ b := by
  unfold hid2 at e
  split at e
  · cases e
  · next q => exact ⟨fun z => q (.inl z), fun z => q (.inr z)⟩
theorem hid2_of {H : Hp} {a b c : Addr} {o : HO} (e : H c = some o) (h1 : c ≠ a) (h2 : c ≠ b) : hid2 H a b c = some o := by
  unfold hid2
  rw [if_neg (fun z => z.elim h1 h2)]
  exact e
theorem AgAt.off {t : Adr} {H H' : Hp} {p l : Addr} {es : List Addr} {E : List (Nat × Nat)} {a : Addr} (h : AgAt t H p l es E) (hl : l ≠ a) (ha : ∃ xs, H a = some (.lst xs)) (k : ∀ b o, H b = some o → b ≠ a → H' b = some o) : AgAt t H' p l es E := by
  obtain ⟨xs, ha⟩ := ha
  obtain ⟨dx, ho⟩ := h.ob
  exact ⟨⟨dx, k _ _ ho (ne_of ho ha (by intro q; cases q))⟩, k _ _ h.lst hl, h.len, fun j b x e1 e2 => k _ _ (h.at_ j b x e1 e2) (ne_of (h.at_ j b x e1 e2) ha (by intro q; cases q))⟩
section
variable {P : Program} {w : World} {K : PySem.W.Frag} {mg : Str → Option Value} {base : Heap} {t : Adr}
/-! ### note_the_sure(net, rest, agenda, time, places) -/
def spSure (t : Adr) : Sp := fun vs H Q _ => ∃ (p rp ap pl ln u lo lw le dr : Addr) (as us es : List Addr) (gs : List Kp148.Gate) (ins w Z v : List Nat) (tt : Kp148.Times) (E : List (Nat × Nat)) (now : Nat) (todo : List Nat),
  vs = [.ref p, .ref rp, .ref ap, .int (now : Int), .ref pl] ∧ NetAt t (hid2 H lw le) p ins.length gs ln u as us ∧ hid2 H lw le rp = some (.ins t.R dr (rf lo lw)) ∧ hid2 H lw le lo = some (.lst (vi (ins ++ v))) ∧ hid2 H lw le pl = some (.lst (vi todo)) ∧
  H lw = some (.lst (vz (wz ins.length tt))) ∧ lw ≠ le ∧ AgAt t H ap le es E ∧ Stat gs ins w Z ∧ EndInv gs ins w Z v tt E now todo ∧ (∀ x, x ∈ gs → Fits (ins.length + gs.length) x) ∧ ins.length + gs.length ≤ 100000 ∧
  ∀ (tt' : Kp148.Times) (E' : List (Nat × Nat)) (es' : List Addr) (H' : Hp), EndInv gs ins w Z v tt' E' now [] → H' lw = some (.lst (vz (wz ins.length tt'))) → AgAt t H' ap le es' E' → Same (hid2 H lw le) H' → Q .non H'
theorem scSure : FnScope ["net", "rest", "agenda", "time", "places", "place", "gate", "signal"] ["net", "rest", "agenda", "time", "places"] (defScope sSure) := ⟨rfl, rfl, rfl, by decide +kernel, rfl, by decide +kernel, by decide +kernel⟩
theorem ok_sure {f fC fN : Addr} {fd fdC fdN : FuncData} (F : Fun K "note_the_sure" "note_the_sure" sSure f fd) (T : Txt K mg t) (DC : Df K mg "comes_to" sComes ["gate", "on"] fC fdC) (MN : Mf K t.A "note" "Agenda.note" sNote ["self", "time", "place"] fN fdN) :
    FnOk P w K mg base CX0 2 f fd ["net", "rest", "agenda", "time", "places"] (spSure t) := by
  have GC : FnOk P w K mg base CX0 1 fC fdC ["gate", "on"] (spComes t K) := ok_comes DC.F T
  have GN : FnOk P w K mg base CX0 1 fN fdN ["self", "time", "place"] (spNote t) := ok_note MN.F T
  obtain ⟨uU, mU, rU⟩ := T.cUNSURE
  obtain ⟨uV, mV, rV⟩ := T.cNEVER
  refine F.ok scSure (fun vs H Q E h => ?_) (fun cdv A outer s H vs Q E hr h => ?_)
  · obtain ⟨p, rp, ap, pl, ln, u, lo, lw, le, dr, as, us, es, gs, ins, w, Z, v, tt, E', now, todo, rfl, _⟩ := h
    rfl
  · obtain ⟨p, rp, ap, pl, ln, u, lo, lw, le, dr, as, us, es, gs, ins, w, Z, v, tt, E', now, todo, rfl, hN, hrp, hlo, hpl, hlw, nwe, hA, S, I0, hfit, hsz, k⟩ := h
    have hsl : (400000 : Nat) ≤ sizeLine := by decide
    refine ⟨_, pss_one (ps_for PassesOwn.never rfl (pi_list (pv 4)) (pg_name (i := 5) scSure.nd rfl (Or.inl rfl))
      (pss_cons (ps_set (i := 6) scSure.nd rfl (Or.inl rfl) (pe_ix ix_list (pe_fld (pv 0) rfl) (pv 5) (fun _ _ => rfl)))
      (pss_cons (ps_set (i := 7) scSure.nd rfl (Or.inl rfl) (pe_add (pe_fld (pv 0) rfl) (pv 5)))
      (pss_one (ps_if (PW.pt (pw_and (pt_cmp (pc_eqI (pe_ix ix_list (pe_fld (pv 1) rfl) (pv 7) (fun _ _ => rfl)) (pe_glob rfl mV rV)))
          (pw_and1 (pt_cmp (pc_neI (pe_call GC hr rfl DC.g DC.F.kp DC.b .nil pass0 (pa_cons (pv 6) (pa_cons (pe_fld (pv 1) rfl) pa_nil))) (pe_glob rfl mU rU))))))
        (pss_cons (ps_asg (pe_add (pv 3) (pe_fld (pv 6) rfl)) (pg_sub (pe_fld (pv 1) rfl) (pv 7) set_list))
          (pss_one (ps_expr (pe_meth (pv 2) T.clA MN.m GN hr MN.b .nil pass0 (pa_cons (pe_add (pv 3) (pe_fld (pv 6) rfl)) (pa_cons (pv 5) pa_nil))))))
        pss_nil))))), ?_⟩
    refine ⟨_, rfl, pl, rfl, ⟨_, SqL.of (hid2_same _ _ _ _ _ hpl)⟩, for_list (K := K) (a := pl) (xs := vi todo)
      (fun i σ H' => ∃ (tt' : Kp148.Times) (E' : List (Nat × Nat)) (es' : List Addr) (q1 q2 q3 : Option V), σ = [some (.ref p), some (.ref rp), some (.ref ap), some (.int (now : Int)), some (.ref pl), q1, q2, q3] ∧ EndInv gs ins w Z v tt' E' now (todo.drop i) ∧
        H' lw = some (.lst (vz (wz ins.length tt'))) ∧ AgAt t H' ap le es' E' ∧ Same (hid2 H lw le) H')
      ⟨tt, E', es, _, _, _, rfl, I0, hlw, hA, hid2_same _ _ _⟩ (fun i σ H' _ ⟨_, _, _, _, _, _, _, _, _, _, sm⟩ => SqL.of (sm _ _ hpl)) (fun i x σ H' hx hP => ?_) (fun σ H' hP => ?_)⟩
    · obtain ⟨tt', E1, es', q1, q2, q3, rfl, I, hlw', hA', sm⟩ := hP
      obtain ⟨pk, hpk, rfl⟩ : ∃ pk, todo[i]? = some pk ∧ V.int (pk : Int) = x := by
        rw [List.getElem?_map] at hx
        cases e : todo[i]? with
        | none => rw [e] at hx; cases hx
        | some a => rw [e] at hx; exact ⟨a, rfl, Option.some.inj hx⟩
      have hil : i < todo.length := (List.getElem?_eq_some_iff.mp hpk).1
      have edr : todo.drop i = pk :: todo.drop (i + 1) := by
        rw [List.drop_eq_getElem_cons hil]
        congr 1
        exact (List.getElem?_eq_some_iff.mp hpk).2
      rw [edr] at I
      have hk : pk < gs.length := I.tlt pk (by simp)
      have N1 := hN.same sm
      obtain ⟨dn, hob⟩ := N1.ob
      obtain ⟨a, ha⟩ : ∃ a, as[pk]? = some a := ⟨as[pk]'(by rw [N1.gts.len]; exact hk), List.getElem?_eq_getElem _⟩
      have hga := N1.gts.at_ pk a ha
      obtain ⟨dg, hgo⟩ := id hga
      have hrp' := sm _ _ hrp
      have hlo' := sm _ _ hlo
      have hlt : tt'.length = gs.length := I.lt
      have esg : (ins.length : Int) + (pk : Int) = ((ins.length + pk : Nat) : Int) := by omega
      have hsg : ins.length + pk < ins.length + tt'.length := by omega
      have etm : Kp148.timeOf ins tt' (ins.length + pk) = tm tt' pk := by
        unfold Kp148.timeOf
        rw [if_neg (by omega), Nat.add_sub_cancel_left]; rfl
      have hat1 : atI (vz (wz ins.length tt')) ((ins.length : Int) + (pk : Int)) = some (V.int (tz (tm tt' pk))) := by
        rw [esg]
        refine atI_nat ?_
        rw [List.getElem?_map, wz_at S.bits hsg, etm]; rfl
      refine ⟨_, rfl, p, t.N, dn, _, _, rfl, hob, T.clN, T.nGates, nf_gates _ _ _ _, _, rfl, ln, _, _, V.ref a, rfl, rfl, SqL.of N1.gts.lst, atI_nat (by rw [List.getElem?_map, ha]; rfl), ?_⟩
      refine ⟨_, rfl, p, t.N, dn, _, _, rfl, hob, T.clN, T.nInputs, nf_inputs _ _ _ _, _, rfl, _, _, rfl, rfl, ?_⟩
      refine ⟨_, rfl, rp, t.R, dr, _, _, rfl, hrp', T.clR, T.rWhen, rf_when _ _, _, rfl, lw, _, _, _, rfl, rfl, SqL.of hlw', hat1, _, _, rfl, rfl, _, rfl, ite2 (fun c => ?_) fun c => ?_⟩
      · have c : tz (tm tt' pk) = -1 := of_decide_eq_true c
        have htn : tm tt' pk = none := tz_neg.mp c
        refine ⟨_, rfl, _, rfl, rp, t.R, dr, _, _, rfl, hrp', T.clR, T.rOn, rf_on _ _, ?_⟩
        refine ⟨a, lo, gt gs pk, ins ++ v, rfl, hga, SqL.of hlo', by rw [List.length_append, I.lv]; exact hfit _ (gt_mem hk), fun j => on_le_of S I.le j, ?_⟩
        refine ⟨_, _, rfl, rfl, _, rfl, ite2 (fun c2 => ?_) fun c2 => ?_⟩
        · have c2 : ¬ ((Kp148.look (gt gs pk) (ins ++ v) : Nat) : Int) = 2 := ne_of_test c2
          have hlk : Kp148.look (gt gs pk) (ins ++ v) ≠ 2 := by omega
          have etime : (now : Int) + ((gt gs pk).most : Int) = ((now + (gt gs pk).most : Nat) : Int) := by omega
          refine ⟨_, rfl, _, rfl, a, t.G, dg, _, _, rfl, hgo, T.clG, T.gMost, gf_most _, _, _, rfl, rfl, ?_⟩
          show gSub _ _ _ (V.int ((now : Int) + ((gt gs pk).most : Int))) _ _ _
          rw [etime]
          refine ⟨_, rfl, rp, t.R, dr, _, _, rfl, hrp', T.clR, T.rWhen, rf_when _ _, _, rfl, lw, _, _, ins.length + pk, rfl, rfl, hlw', ?_, ?_⟩
          · rw [esg]; exact ixN_nat (by simp only [vz, List.length_map, wz_len]; omega)
          have eset : (vz (wz ins.length tt')).set (ins.length + pk) (V.int ((now + (gt gs pk).most : Nat) : Int)) = vz (wz ins.length (tt'.set pk (some (now + (gt gs pk).most)))) := by
            rw [← wz_set]
            unfold vz
            rw [List.map_set]
          rw [eset]
          have kp1 : ∀ (b : Addr) (o : HO), H' b = some o → b ≠ lw → (upd H' lw (.lst (vz (wz ins.length (tt'.set pk (some (now + (gt gs pk).most))))))) b = some o := fun b o e hb => by rw [upd_ne hb]; exact e
          have hA1 := hA'.off nwe.symm ⟨_, hlw'⟩ kp1
          have sm1 : Same (hid2 H lw le) (upd H' lw (.lst (vz (wz ins.length (tt'.set pk (some (now + (gt gs pk).most))))))) := fun b o e => kp1 b o (sm b o e) (hid2_ne e).1
          have hlw1 : (upd H' lw (.lst (vz (wz ins.length (tt'.set pk (some (now + (gt gs pk).most))))))) lw = some (.lst (vz (wz ins.length (tt'.set pk (some (now + (gt gs pk).most)))))) := upd_same
          generalize upd H' lw (.lst (vz (wz ins.length (tt'.set pk (some (now + (gt gs pk).most)))))) = H1 at kp1 hA1 sm1 hlw1
          obtain ⟨da, hap⟩ := hA1.ob
          obtain ⟨dg1, hgo1⟩ := (hN.gts.at_ pk a ha).same sm1
          refine ⟨_, rfl, ap, da, _, rfl, hap, af_no _ (by decide +kernel), _, rfl, _, rfl, a, t.G, dg1, _, _, rfl, hgo1, T.clG, T.gMost, gf_most _, _, _, rfl, rfl, _, rfl, ?_⟩
          have hel := I.elen
          refine ⟨ap, le, es', E1, now + (gt gs pk).most, pk, (by show [V.ref ap, V.int ((now : Int) + ((gt gs pk).most : Int)), V.int (pk : Int)] = _; rw [etime]), hA1, I.so, by omega, fun es2 F1 F2 H2 hE hF1 hF2 hA2 kp2 => ?_⟩
          subst hE
          exact ⟨_, _, es2, _, _, _, rfl, I.note S htn hlk hF1 hF2, kp2 _ _ hlw1 nwe, hA2, fun b o e => kp2 b o (sm1 b o e) (hid2_ne e).2⟩
        · have c2 : ((Kp148.look (gt gs pk) (ins ++ v) : Nat) : Int) = 2 := eq_of_test c2
          exact ⟨_, _, _, _, _, _, rfl, I.skip S (.inr (by omega)), hlw', hA', sm⟩
      · have c : ¬ tz (tm tt' pk) = -1 := fun z => c (decide_eq_true z)
        refine iteF ?_
        exact ⟨_, _, _, _, _, _, rfl, I.skip S (.inl fun z => c (tz_neg.mpr z)), hlw', hA', sm⟩
    · obtain ⟨tt', E1, es', q1, q2, q3, rfl, I, hlw', hA', sm⟩ := hP
      have e : todo.drop (vi todo).length = [] := by rw [List.length_map, List.drop_length]
      rw [e] at I
      exact k tt' E1 es' H' I hlw' hA' sm
end
end Wb

namespace Wb
open PySem L2
theorem cut_from (l v : List Nat) : cutV (vi (l ++ v)) (some ((l.length : Nat) : Int)) none = vi v := by
  unfold cutV
  rw [HT.sIx_nat, HT.sIx_none]
  simp only [vi, List.length_map, List.length_append]
  rw [Nat.min_eq_left (by omega), List.map_append, List.drop_append_of_le_length (by simp), List.drop_of_length_le (by simp)]
  rw [List.nil_append, List.take_of_length_le (by simp)]
section
variable {P : Program} {w : World} {K : PySem.W.Frag} {mg : Str → Option Value} {base : Heap} {t : Adr}
/-! ### in_the_end(net, ins, always) -/
def spEnd (t : Adr) : Sp := fun vs H Q _ => ∃ (p li la ln u : Addr) (as us : List Addr) (gs : List Kp148.Gate) (l0 ins w Z : List Nat),
  vs = [.ref p, .ref li, .ref la] ∧ NetAt t H p ins.length gs ln u as us ∧ H li = some (.lst (vi ins)) ∧ H la = some (.lst (vi (l0 ++ w))) ∧ l0.length = ins.length ∧ Stat gs ins w Z ∧ (∀ x, x ∈ gs → Fits (ins.length + gs.length) x) ∧ ins.length + gs.length ≤ 100000 ∧
  ∀ (rp dr lo lw : Addr) (v : List Nat) (tt : Kp148.Times) (now : Nat) (H' : Hp), EndInv gs ins w Z v tt [] now [] → H' rp = some (.ins t.R dr (rf lo lw)) → H' lo = some (.lst (vi (ins ++ v))) → H' lw = some (.lst (vz (wz ins.length tt))) → lo ≠ lw → H rp = none → H lo = none → H lw = none → Same H H' → Q (.ref rp) H'
theorem scEnd : FnScope ["net", "ins", "always", "on", "rest", "agenda", "place", "signal", "bit"] ["net", "ins", "always"] (defScope sEnd) := ⟨rfl, rfl, rfl, by decide +kernel, rfl, by decide +kernel, by decide +kernel⟩
theorem wz_map (ins w : List Nat) (hb : ∀ k, k < ins.length → Kp148.on ins k ≤ 1) : (ins ++ w).map (fun x => if x = 2 then (-1 : Int) else 0) = wz ins.length (t0 w) := by
  unfold wz t0
  rw [List.map_append, List.map_map]
  congr 1
  · apply List.ext_getElem?
    intro k
    rw [List.getElem?_map, List.getElem?_replicate]
    by_cases h : k < ins.length
    · rw [on_lt h, if_pos h]
      have := hb k h
      show some (if Kp148.on ins k = 2 then (-1 : Int) else 0) = some 0
      rw [if_neg (by omega)]
    · rw [if_neg h, List.getElem?_eq_none (by omega)]; rfl
  · apply List.map_congr_left
    intro x _
    show (if x = 2 then (-1 : Int) else 0) = tz (if x = 2 then none else some 0)
    split <;> rfl
/-- between two turns of the agenda -/
structure EndSt (t : Adr) (H : Hp) (p li la rp dr ap lo lw le : Addr) (gs : List Kp148.Gate) (ins w Z : List Nat) (m : Nat) (σ : St) (H' : Hp) (v : List Nat) (tt : Kp148.Times) (E : List (Nat × Nat)) (es : List Addr) (now : Nat) (q1 q2 q3 : Option V) : Prop where
  ms : m = v.length - cnt v
  st : σ = [some (.ref p), some (.ref li), some (.ref la), some (.ref lo), some (.ref rp), some (.ref ap), q1, q2, q3]
  rp_ : H' rp = some (.ins t.R dr (rf lo lw))
  lo_ : H' lo = some (.lst (vi (ins ++ v)))
  lw_ : H' lw = some (.lst (vz (wz ins.length tt)))
  ag : AgAt t H' ap le es E
  inv : EndInv gs ins w Z v tt E now []
  sm : Same H H'
theorem ok_end {f fC fN fS fR fA fO fT : Addr} {fd fdC fdN fdS fdR fdA fdO fdT : FuncData} (F : Fun K "in_the_end" "in_the_end" sEnd f fd) (T : Txt K mg t) (DC : Df K mg "comes_to" sComes ["gate", "on"] fC fdC) (MN : Mf K t.A "note" "Agenda.note" sNote ["self", "time", "place"] fN fdN)
    (DS : Df K mg "note_the_sure" sSure ["net", "rest", "agenda", "time", "places"] fS fdS) (MR : Mk K t.R fR) (FR : Fun K "__init__" "Rest.__init__" sRest fR fdR) (bR : Binds K fdR ["self", "on", "when"] []) (MA : Mk K t.A fA) (FA : Fun K "__init__" "Agenda.__init__" sAgenda fA fdA) (bA : Binds K fdA ["self"] [])
    (MO : Mf K t.A "is_over" "Agenda.is_over" sOver ["self"] fO fdO) (MT : Mf K t.A "take_soonest" "Agenda.take_soonest" sTake ["self"] fT fdT) :
    FnOk P w K mg base CX0 4 f fd ["net", "ins", "always"] (spEnd t) := by
  have GC : FnOk P w K mg base CX0 1 fC fdC ["gate", "on"] (spComes t K) := ok_comes DC.F T
  have GS : FnOk P w K mg base CX0 2 fS fdS ["net", "rest", "agenda", "time", "places"] (spSure t) := ok_sure DS.F T DC MN
  have GR : FnOk P w K mg base CX0 1 fR fdR ["self", "on", "when"] (spRest t) := ok_rest FR T
  have GA : FnOk P w K mg base CX0 1 fA fdA ["self"] (spAgenda t) := ok_agenda FA T
  have GO : FnOk P w K mg base CX0 1 fO fdO ["self"] (spOver t) := ok_over MO.F T
  have GT : FnOk P w K mg base CX0 1 fT fdT ["self"] (spTake t) := ok_take MT.F T
  obtain ⟨uU, mU, rU⟩ := T.cUNSURE
  obtain ⟨uV, mV, rV⟩ := T.cNEVER
  refine F.ok scEnd (fun vs H Q E h => ?_) (fun cdv A outer s H vs Q E hr h => ?_)
  · obtain ⟨p, li, la, ln, u, as, us, gs, l0, ins, w, Z, rfl, _⟩ := h
    rfl
  · obtain ⟨p, li, la, ln, u, as, us, gs, l0, ins, w, Z, rfl, hN, hli, hla, hl0, S, hfit, hsz, k⟩ := h
    have hsl : (400000 : Nat) ≤ sizeLine := by decide
    have hr1 : Room 1 _ := hr.mono (by decide)
    have hr2 : Room 2 _ := hr.mono (by decide)
    refine ⟨_, pss_cons (ps_set (i := 3) scEnd.nd rfl (Or.inl rfl) (pe_op op_cat (pv 1) (pe_slice sl_list (pv 2) (po_some (pe_fld (pv 0) rfl)) po_none)))
      (pss_cons (ps_set (i := 4) scEnd.nd rfl (Or.inl rfl) (pe_make MR GR hr2 rfl T.mgR bR .nil pass0 (pa_cons (pv 3) (pa_cons (pe_lc (own := [("bit", 8)]) rfl scEnd.nd (pi_list (pv 3)) (blkOk_by (N := ["net", "ins", "always", "on", "rest", "agenda", "place", "signal", "bit"]) (sc := defScope sEnd) (by decide +kernel)) (fun _ _ _ _ _ => pg_name (i := 8) scEnd.nd rfl (Or.inl rfl)) (fun _ _ _ _ _ => pts_nil) (fun _ _ _ _ _ => pe_ifExp (pt_cmp (pc_eqI (pv 8) (pe_glob rfl mU rU))) (pe_glob rfl mV rV) pe_int)) pa_nil))))
      (pss_cons (ps_set (i := 5) scEnd.nd rfl (Or.inl rfl) (pe_make0 MA GA hr2 rfl T.mgA bA .nil pass0))
      (pss_cons (ps_expr (pe_call GS hr2 rfl DS.g DS.F.kp DS.b .nil pass0 (pa_cons (pv 0) (pa_cons (pv 4) (pa_cons (pv 5) (pa_cons pe_int (pa_cons (pe_callTy (call_list_rng rfl) (by rfl) T.bList PyProof.Rows.boot_list (pa_cons (pe_callTy call_rng1 (by rfl) T.bRange PyProof.Rows.boot_range (pa_cons (pe_callB call_len_seq (by rfl) T.bLen PySem.boot_len (pa_cons (pe_fld (pv 0) rfl) pa_nil)) pa_nil)) pa_nil)) pa_nil)))))))
      (pss_cons (ps_while PassesOwn.never (pt_not (pt_val (pe_meth0 (pv 5) T.clA MO.m GO hr1 MO.b .nil pass0))) (pss_cons (ps_set (i := 6) scEnd.nd rfl (Or.inl rfl) (pe_meth0 (pv 5) T.clA MT.m GT hr1 MT.b .nil pass0))
      (pss_cons (ps_set (i := 7) scEnd.nd rfl (Or.inl rfl) (pe_add (pe_fld (pv 0) rfl) (pv 6)))
      (pss_cons (ps_asg (pe_call GC hr1 rfl DC.g DC.F.kp DC.b .nil pass0 (pa_cons (pe_ix ix_list (pe_fld (pv 0) rfl) (pv 6) (fun _ _ => rfl)) (pa_cons (pe_fld (pv 4) rfl) pa_nil))) (pg_sub (pe_fld (pv 4) rfl) (pv 7) set_list))
      (pss_one (ps_expr (pe_call GS hr2 rfl DS.g DS.F.kp DS.b .nil pass0 (pa_cons (pv 0) (pa_cons (pv 4) (pa_cons (pv 5) (pa_cons (pe_ix ix_list (pe_fld (pv 4) rfl) (pv 7) (fun _ _ => rfl)) (pa_cons (pe_ix ix_list (pe_fld (pv 0) rfl) (pv 7) (fun _ _ => rfl)) pa_nil))))))))))))
      (pss_one (ps_ret (pv 4))))))), ?_⟩
    obtain ⟨dn, hob⟩ := hN.ob
    have hw := S.wl
    -- on = ins + always[net.inputs:]
    refine ⟨_, rfl, _, rfl, _, rfl, p, t.N, dn, _, _, rfl, hob, T.clN, T.nInputs, nf_inputs _ _ _ _, _, rfl, la, _, rfl, SqL.of hla, fun c0 hc0 => ?_⟩
    rw [show ((ins.length : Nat) : Int) = ((l0.length : Nat) : Int) by rw [hl0], cut_from]
    have s1 : Same H (upd H c0 (.lst (vi w))) := Same.new hc0
    refine ⟨li, c0, _, _, rfl, rfl, s1 _ _ hli, upd_same, by simp only [vi, List.length_map]; omega, fun lo hlo0 => ?_⟩
    have ecat : vi ins ++ vi w = vi (ins ++ w) := by simp [vi]
    rw [ecat]
    have s2 := s1.trans (Same.new (o := .lst (vi (ins ++ w))) hlo0)
    have hlo1 : (upd (upd H c0 (.lst (vi w))) lo (.lst (vi (ins ++ w)))) lo = some (.lst (vi (ins ++ w))) := upd_same
    have hloH : H lo = none := s1.free hlo0
    generalize upd (upd H c0 (.lst (vi w))) lo (.lst (vi (ins ++ w))) = H2 at s2 hlo1
    -- rest = Rest(on, [..])
    refine ⟨_, rfl, _, rfl, lo, rfl, ⟨_, SqL.of hlo1⟩, fun lw hlw0 => ?_⟩
    have nlw : lo ≠ lw := ne_of_none hlo1 hlw0
    refine lc_list (K := K) (a := lo) (xs := vi (ins ++ w)) (fun i H' => Same H2 H' ∧ H' lw = some (.lst (vz (((ins ++ w).take i).map fun x => if x = 2 then (-1 : Int) else 0)))) ⟨Same.new hlw0, upd_same⟩ (fun i H' _ ⟨s, _⟩ => SqL.of (s _ _ hlo1)) (fun i x H' hx hP => ?_) (fun H3 hP => ?_)
    · obtain ⟨s3, hl3⟩ := hP
      obtain ⟨y, hy, rfl⟩ : ∃ y, (ins ++ w)[i]? = some y ∧ V.int (y : Int) = x := by
        rw [List.getElem?_map] at hx
        cases e : (ins ++ w)[i]? with
        | none => rw [e] at hx; cases hx
        | some a => rw [e] at hx; exact ⟨a, rfl, Option.some.inj hx⟩
      have hil : i < (ins ++ w).length := (List.getElem?_eq_some_iff.mp hy).1
      have hil' : i < ins.length + w.length := by simpa using hil
      have etk : (ins ++ w).take (i + 1) = (ins ++ w).take i ++ [y] := by rw [List.take_add_one, hy]; rfl
      have fin : ∀ z : Int, z = (if y = 2 then (-1 : Int) else 0) → ∃ acc, H' lw = some (.lst acc) ∧ acc.length < sizeLine ∧ Same H2 (upd H' lw (.lst (acc ++ [V.int z]))) ∧ (upd H' lw (.lst (acc ++ [V.int z]))) lw = some (.lst (vz (((ins ++ w).take (i + 1)).map fun x => if x = 2 then (-1 : Int) else 0))) := fun z hz => by
        refine ⟨_, hl3, ?_, fun b o e => ?_, ?_⟩
        · simp only [vz, List.length_map, List.length_take]; omega
        · rw [upd_ne (ne_of_none e hlw0)]; exact s3 b o e
        · rw [upd_same, etk, List.map_append, hz]
          simp [vz]
      refine ⟨rfl, yes_if ?_⟩
      refine ⟨_, rfl, _, _, rfl, rfl, _, rfl, ite2 (fun c => ?_) fun c => ?_⟩
      · have c : (y : Int) = 2 := of_decide_eq_true c
        obtain ⟨acc, h1, h2, h3, h4⟩ := fin (-1) (by rw [if_pos (by omega)])
        exact ⟨acc, h1, h2, h3, h4⟩
      · have c : ¬ (y : Int) = 2 := fun z => c (decide_eq_true z)
        obtain ⟨acc, h1, h2, h3, h4⟩ := fin 0 (by rw [if_neg (by omega)])
        exact ⟨acc, h1, h2, h3, h4⟩
    obtain ⟨s3, hlw3⟩ := hP
    rw [show (vi (ins ++ w)).length = (ins ++ w).length by simp [vi], List.take_length, wz_map ins w S.bits] at hlw3
    have s3' := s2.trans s3
    have hlwH : H lw = none := s2.free hlw0
    have hlo3 := s3 _ _ hlo1
    intro rp dr hrp0 hdr0 ndr
    refine ⟨rp, dr, lo, lw, rfl, upd_same, fun H4 hrp4 kp4 => ⟨rfl, ?_⟩⟩
    have s4 : Same H3 H4 := Same.made hrp0 hdr0 kp4
    have hrpH : H rp = none := s3'.free hrp0
    have hlo4 := s4 _ _ hlo3
    have hlw4 := s4 _ _ hlw3
    have s4' := s3'.trans s4
    -- agenda = Agenda()
    intro ap da hap0 hda0 nda
    refine ⟨ap, da, rfl, upd_same, fun le H5 hA5 hle0 kp5 => ⟨rfl, ?_⟩⟩
    have s5 : Same H4 H5 := Same.made hap0 hda0 kp5
    have s50 : Same H4 (upd (upd H4 da (.own ap)) ap (.ins t.A da [])) := (Same.new hda0).trans (Same.new (by rw [upd_ne nda.symm]; exact hap0))
    have hleH4 : H4 le = none := s50.free hle0
    have hleH : H le = none := s4'.free hleH4
    have s5' := s4'.trans s5
    have hrp5 := s5 _ _ hrp4
    have hlo5 := s5 _ _ hlo4
    have hlw5 := s5 _ _ hlw4
    have nwe : lw ≠ le := ne_of_none hlw4 hleH4
    have noe : lo ≠ le := ne_of_none hlo4 hleH4
    have N5 := hN.same s5'
    obtain ⟨dn5, hob5⟩ := N5.ob
    -- note_the_sure(net, rest, agenda, 0, list(range(len(net.gates))))
    refine ⟨_, rfl, _, rfl, _, rfl, _, rfl, p, t.N, dn5, _, _, rfl, hob5, T.clN, T.nGates, nf_gates _ _ _ _, ln, _, rfl, .inl (SqL.of N5.gts.lst), _, rfl, fun q hq => ?_⟩
    have elen : (((vr as).length : Nat) : Int) = ((gs.length : Nat) : Int) := by rw [List.length_map, hN.gts.len]
    rw [elen]
    have s6 : Same H5 (upd H5 q (.rng 0 (gs.length : Int))) := Same.new hq
    refine ⟨q, gs.length, rfl, upd_same, by omega, fun pl hpl => ?_⟩
    rw [range_vi]
    have s7 := s6.trans (Same.new (o := .lst (vi (List.range gs.length))) hpl)
    have hpl7 : (upd (upd H5 q (.rng 0 (gs.length : Int))) pl (.lst (vi (List.range gs.length)))) pl = some (.lst (vi (List.range gs.length))) := upd_same
    have hplH5 : H5 pl = none := s6.free hpl
    generalize upd (upd H5 q (.rng 0 (gs.length : Int))) pl (.lst (vi (List.range gs.length))) = H7 at s7 hpl7
    have hidH : ∀ (X : Hp), Same H X → Same H (hid2 X lw le) := fun X sx b o e => hid2_of (sx b o e) (ne_of_none e hlwH) (ne_of_none e hleH)
    have s7' := s5'.trans s7
    have nrw : rp ≠ lw := ne_of hrp5 hlw5 (by intro q; cases q)
    have nre : rp ≠ le := ne_of hrp5 hA5.lst (by intro q; cases q)
    have npw : pl ≠ lw := (ne_of_none hlw5 hplH5).symm
    have npe : pl ≠ le := (ne_of_none hA5.lst hplH5).symm
    obtain ⟨dap, hap5⟩ := hA5.ob
    have hA7 : AgAt t H7 ap le [] [] := ⟨⟨dap, s7 _ _ hap5⟩, s7 _ _ hA5.lst, rfl, fun j a x e => by simp at e⟩
    refine ⟨p, rp, ap, pl, ln, u, lo, lw, le, dr, as, us, [], gs, ins, w, Z, w, t0 w, [], 0, List.range gs.length, rfl, hN.same (hidH H7 s7'), hid2_of (s7 _ _ hrp5) nrw nre, hid2_of (s7 _ _ hlo5) nlw noe, hid2_of hpl7 npw npe, s7 _ _ hlw5, nwe, hA7, S, EndInv.start S, hfit, hsz, fun tt E1 es1 H8 I8 hlw8 hA8 s8 => ?_⟩
    have s8' : Same H H8 := (hidH H7 s7').trans s8
    refine ⟨fun m σ H' => ∃ v tt E es now q1 q2 q3, EndSt t H p li la rp dr ap lo lw le gs ins w Z m σ H' v tt E es now q1 q2 q3, ⟨_, w, tt, E1, es1, 0, none, none, none, rfl, rfl, s8 _ _ (hid2_of (s7 _ _ hrp5) nrw nre), s8 _ _ (hid2_of (s7 _ _ hlo5) nlw noe), hlw8, hA8, I8, s8'⟩, fun m σ H' hW => ?_⟩
    obtain ⟨v, tt, E', es', now, q1, q2, q3, ⟨hms, rfl, hrp', hlo', hlw', hA', I, sm⟩⟩ := hW
    obtain ⟨da', hap'⟩ := hA'.ob
    refine ⟨_, rfl, ap, da', _, rfl, hap', af_no _ (by decide +kernel), ap, le, es', E', rfl, hA', _, rfl, ?_⟩
    by_cases hE : E'.length = 0
    · -- it's over
      rw [decide_eq_true hE]
      refine iteF ?_
      have hE' : E' = [] := List.length_eq_zero_iff.mp hE
      subst hE'
      exact ⟨_, rfl, k rp dr lo lw v tt now H' I hrp' hlo' hlw' nlw hrpH hloH hlwH sm⟩
    · rw [decide_eq_false hE]
      refine iteT ?_
      have hne : E' ≠ [] := fun z => hE (by rw [z]; rfl)
      obtain ⟨E2, x, rfl⟩ : ∃ E2 x, E' = E2 ++ [x] := ⟨E'.dropLast, E'.getLast hne, (List.dropLast_concat_getLast hne).symm⟩
      have hesne : es' ≠ [] := fun z => by have := hA'.len; rw [z] at this; simp at this
      obtain ⟨es2, ea, rfl⟩ : ∃ es2 ea, es' = es2 ++ [ea] := ⟨es'.dropLast, es'.getLast hesne, (List.dropLast_concat_getLast hesne).symm⟩
      obtain ⟨xt, pk⟩ := x
      refine ⟨fun σ' H'' => ∃ m', m' < m ∧ ∃ v tt E es now q1 q2 q3, EndSt t H p li la rp dr ap lo lw le gs ins w Z m' σ' H'' v tt E es now q1 q2 q3, fun _ _ h => h, ?_⟩
      obtain ⟨I2, hv2, hlk, htm⟩ := I.settle S
      obtain ⟨hk, _, _⟩ := (I.ag xt pk).mp (by simp)
      have hlv : v.length = gs.length := I.lv
      refine ⟨_, rfl, ap, da', _, rfl, hap', af_no _ (by decide +kernel), ap, le, ea, es2, E2, (xt, pk), rfl, hA', fun H1 hA1 kp1 => ?_⟩
      have n1 : rp ≠ le := ne_of hrp' hA'.lst (by intro q; cases q)
      have s1' : Same H H1 := fun b o e => kp1 b o (sm b o e) (ne_of_none e hleH)
      have hrp1 := kp1 _ _ hrp' n1
      have hlo1' := kp1 _ _ hlo' noe
      have hlw1 := kp1 _ _ hlw' nwe
      have N1 := hN.same s1'
      obtain ⟨dn1, hob1⟩ := N1.ob
      have esg : (ins.length : Int) + (pk : Int) = ((ins.length + pk : Nat) : Int) := by omega
      refine ⟨_, rfl, p, t.N, dn1, _, _, rfl, hob1, T.clN, T.nInputs, nf_inputs _ _ _ _, _, rfl, _, _, rfl, rfl, ?_⟩
      obtain ⟨a, ha⟩ : ∃ a, as[pk]? = some a := ⟨as[pk]'(by rw [N1.gts.len]; exact hk), List.getElem?_eq_getElem _⟩
      refine ⟨_, rfl, p, t.N, dn1, _, _, rfl, hob1, T.clN, T.nGates, nf_gates _ _ _ _, _, rfl, ln, _, _, V.ref a, rfl, rfl, SqL.of N1.gts.lst, atI_nat (by rw [List.getElem?_map, ha]; rfl), _, rfl, rp, t.R, dr, _, _, rfl, hrp1, T.clR, T.rOn, rf_on _ _, ?_⟩
      refine ⟨a, lo, gt gs pk, ins ++ v, rfl, N1.gts.at_ pk a ha, SqL.of hlo1', by rw [List.length_append, hlv]; exact hfit _ (gt_mem hk), fun j => on_le_of S I.le j, ?_⟩
      refine ⟨_, rfl, rp, t.R, dr, _, _, rfl, hrp1, T.clR, T.rOn, rf_on _ _, _, rfl, lo, _, _, ins.length + pk, rfl, rfl, hlo1', ?_, ?_⟩
      · rw [esg]; exact ixN_nat (by simp only [vi, List.length_map, List.length_append]; omega)
      rw [vi_set]
      have kp2 : ∀ (b : Addr) (o : HO), H1 b = some o → b ≠ lo → (upd H1 lo (.lst (vi (ins ++ v.set pk (Kp148.look (gt gs pk) (ins ++ v)))))) b = some o := fun b o e hb => by rw [upd_ne hb]; exact e
      have hlo2 : (upd H1 lo (.lst (vi (ins ++ v.set pk (Kp148.look (gt gs pk) (ins ++ v)))))) lo = some (.lst (vi (ins ++ v.set pk (Kp148.look (gt gs pk) (ins ++ v))))) := upd_same
      have hA2 := hA1.off noe.symm ⟨_, hlo1'⟩ kp2
      generalize upd H1 lo (.lst (vi (ins ++ v.set pk (Kp148.look (gt gs pk) (ins ++ v))))) = H2' at kp2 hlo2 hA2
      have s2' : Same H H2' := fun b o e => kp2 b o (s1' b o e) (ne_of_none e hloH)
      have nro : rp ≠ lo := ne_of hrp1 hlo1' (by intro q; cases q)
      have hrp2 := kp2 _ _ hrp1 nro
      have hlw2 := kp2 _ _ hlw1 nlw.symm
      have N2 := hN.same s2'
      obtain ⟨dn2, hob2⟩ := N2.ob
      have hlt : tt.length = gs.length := I.lt
      have etm : Kp148.timeOf ins tt (ins.length + pk) = tm tt pk := by
        unfold Kp148.timeOf
        rw [if_neg (by omega), Nat.add_sub_cancel_left]; rfl
      have hat1 : atI (vz (wz ins.length tt)) ((ins.length : Int) + (pk : Int)) = some (V.int (xt : Int)) := by
        rw [esg]
        refine atI_nat ?_
        rw [List.getElem?_map, wz_at S.bits (by omega), etm, htm]; rfl
      obtain ⟨ua, hua⟩ : ∃ ua, us[ins.length + pk]? = some ua := ⟨us[ins.length + pk]'(by rw [N2.len]; omega), List.getElem?_eq_getElem _⟩
      have huse := hN.use _ ua hua
      refine ⟨_, rfl, _, rfl, _, rfl, _, rfl, rp, t.R, dr, _, _, rfl, hrp2, T.clR, T.rWhen, rf_when _ _, _, rfl, lw, _, _, _, rfl, rfl, SqL.of hlw2, hat1, _, rfl, p, t.N, dn2, _, _, rfl, hob2, T.clN, T.nUsers, nf_users _ _ _ _, _, rfl, u, _, _, V.ref ua, rfl, rfl, SqL.of N2.ul, ?_, ?_⟩
      · rw [esg]; exact atI_nat (by rw [List.getElem?_map, hua]; rfl)
      refine ⟨p, rp, ap, ua, ln, u, lo, lw, le, dr, as, us, es2, gs, ins, w, Z, v.set pk (Kp148.look (gt gs pk) (ins ++ v)), tt, E2, xt, users gs (ins.length + pk), rfl, hN.same (hidH H2' s2'), hid2_of hrp2 nrw n1, hid2_of hlo2 nlw noe, hidH H2' s2' _ _ huse, hlw2, nwe, hA2, S, I2, hfit, hsz, fun tt' E3 es3 H3' I3 hlw3' hA3 s3'' => ?_⟩
      have hcs := cnt_set (v := v) (k := pk) (by omega) hv2 hlk
      have hcl := cnt_le (v.set pk (Kp148.look (gt gs pk) (ins ++ v)))
      rw [List.length_set] at hcl
      exact ⟨(v.set pk (Kp148.look (gt gs pk) (ins ++ v))).length - cnt (v.set pk (Kp148.look (gt gs pk) (ins ++ v))), by rw [List.length_set]; omega, _, tt', E3, es3, xt, _, _, _, rfl, rfl, s3'' _ _ (hid2_of hrp2 nrw n1), s3'' _ _ (hid2_of hlo2 nlw noe), hlw3', hA3, I3, (hidH H2' s2').trans s3''⟩
end
end Wb

namespace Wb
open PySem L2
section
variable {P : Program} {w : World} {K : PySem.W.Frag} {mg : Str → Option Value} {base : Heap} {t : Adr}
/-! ### reason(gate, time, when) -/
def spReason (t : Adr) : Sp := fun vs H Q _ => ∃ (p lw : Addr) (g : Kp148.Gate) (x : Int) (ws : List Int), vs = [.ref p, .int x, .ref lw] ∧ GateAt t H p g ∧ H lw = some (.lst (vz ws)) ∧ (∀ s, s ∈ srcs g → s < ws.length) ∧
  (∃ r c, r ∈ srcs g ∧ ws[r]? = some c ∧ c + (g.most : Int) = x) ∧
  ∀ (j : Nat) (H' : Hp), j ∈ srcs g → (∃ c, ws[j]? = some c ∧ c + (g.most : Int) = x) → (∀ i c, i ∈ srcs g → ws[i]? = some c → c + (g.most : Int) = x → j ≤ i) → Same H H' → Q (.int (j : Int)) H'
theorem scReason : FnScope ["gate", "time", "when", "source"] ["gate", "time", "when"] (defScope sReason) := ⟨rfl, rfl, rfl, by decide +kernel, rfl, by decide +kernel, by decide +kernel⟩
theorem ok_reason {f fS : Addr} {fd fdS : FuncData} (F : Fun K "reason" "reason" sReason f fd) (T : Txt K mg t) (DS : Df K mg "sources" sSources ["gate"] fS fdS) : FnOk P w K mg base CX0 2 f fd ["gate", "time", "when"] (spReason t) := by
  have GS : FnOk P w K mg base CX0 1 fS fdS ["gate"] (spSources t) := ok_sources DS.F T
  refine F.ok scReason (fun vs H Q E h => ?_) (fun cdv A outer s H vs Q E hr h => ?_)
  · obtain ⟨p, lw, g, x, ws, rfl, _⟩ := h
    rfl
  · obtain ⟨p, lw, g, x, ws, rfl, hg, hlw, hfit, ⟨r0, c0, hr0, hc0, he0⟩, k⟩ := h
    have hsl : (400000 : Nat) ≤ sizeLine := by decide
    refine ⟨_, pss_one (ps_ret (pe_callB (cr_min rfl) (by rfl) T.bMin PyProof.Rows.boot_min (pa_cons (pe_lc (own := [("source", 3)]) (tt := tB (tEqI (tAdd (tOp (rIxL K) (tVar 2) (tVar 3)) (tFld K (tVar 0) "most")) (tVar 1))) rfl scReason.nd (pi_list (pe_call GS hr rfl DS.g DS.F.kp DS.b .nil pass0 (pa_cons (pv 0) pa_nil)))
      (blkOk_by (N := ["gate", "time", "when", "source"]) (sc := defScope sReason) (by decide +kernel)) (fun _ _ _ _ _ => pg_name (i := 3) scReason.nd rfl (Or.inl rfl))
      (fun _ _ _ _ _ => pts_one (pt_cmp (pc_eqI (pe_add (pe_ix ix_list (pv 2) (pv 3) (fun _ _ => rfl)) (pe_fld (pv 0) rfl)) (pv 1)))) (fun _ _ _ _ _ => pv 3)) pa_nil))), ?_⟩
    refine ⟨_, rfl, p, g, rfl, hg, fun q hq => ⟨q, rfl, ⟨_, SqL.of upd_same⟩, fun D hD => ?_⟩⟩
    have s1 : Same H (upd H q (.lst (vi (srcs g)))) := Same.new hq
    have hqs : (upd H q (.lst (vi (srcs g)))) q = some (.lst (vi (srcs g))) := upd_same
    generalize upd H q (.lst (vi (srcs g))) = H1 at s1 hqs hD
    let good : Nat → Bool := fun i => decide (∃ c, ws[i]? = some c ∧ c + (g.most : Int) = x)
    have hDH : H D = none := s1.free hD
    refine lc_list (K := K) (a := q) (xs := vi (srcs g)) (fun i H' => Same H1 H' ∧ H' D = some (.lst (vi (((srcs g).take i).filter good)))) ⟨Same.new hD, by rw [upd_same]; rfl⟩ (fun i H' _ ⟨s, _⟩ => SqL.of (s _ _ hqs)) (fun i y H' hy hP => ?_) (fun H3 hP => ?_)
    · obtain ⟨s2, hl2⟩ := hP
      obtain ⟨sg, hsg, rfl⟩ : ∃ sg, (srcs g)[i]? = some sg ∧ V.int (sg : Int) = y := by
        rw [List.getElem?_map] at hy
        cases e : (srcs g)[i]? with
        | none => rw [e] at hy; cases hy
        | some a => rw [e] at hy; exact ⟨a, rfl, Option.some.inj hy⟩
      have hil : i < (srcs g).length := (List.getElem?_eq_some_iff.mp hsg).1
      have hls : (srcs g).length ≤ 2 := by unfold srcs; split <;> simp
      have hsl2 : sg < ws.length := hfit sg (List.mem_of_getElem? hsg)
      obtain ⟨c, hc⟩ : ∃ c, ws[sg]? = some c := ⟨ws[sg], List.getElem?_eq_getElem hsl2⟩
      have etk : (srcs g).take (i + 1) = (srcs g).take i ++ [sg] := by rw [List.take_add_one, hsg]; rfl
      have S2 := s1.trans s2
      obtain ⟨dg, hgo⟩ := hg.same S2
      refine ⟨rfl, ?_⟩
      refine ⟨_, rfl, _, rfl, lw, _, _, V.int c, rfl, rfl, SqL.of (S2 _ _ hlw), atI_nat (by rw [List.getElem?_map, hc]; rfl), _, rfl, p, t.G, dg, _, _, rfl, hgo, T.clG, T.gMost, gf_most _, _, _, rfl, rfl, _, rfl, _, _, rfl, rfl, _, rfl, ?_⟩
      refine ite2 (fun cc => ?_) fun cc => ?_
      · have cc : c + (g.most : Int) = x := of_decide_eq_true cc
        refine ⟨_, rfl, _, hl2, ?_, fun b o e => ?_, ?_⟩
        · have := List.length_filter_le good ((srcs g).take i)
          simp only [vi, List.length_map, List.length_take] at this ⊢
          omega
        · rw [upd_ne (ne_of_none e hD)]; exact s2 b o e
        · have eg : good sg = true := decide_eq_true ⟨c, hc, cc⟩
          rw [upd_same, etk, List.filter_append, List.filter_cons, eg]
          simp [vi]
      · have cc : ¬ c + (g.most : Int) = x := fun z => cc (decide_eq_true z)
        have eg : good sg = false := decide_eq_false fun ⟨c', h1, h2⟩ => by rw [hc] at h1; cases h1; exact cc h2
        refine ⟨s2, ?_⟩
        rw [etk, List.filter_append, List.filter_cons, eg]
        simpa using hl2
    obtain ⟨s3, hl3⟩ := hP
    rw [show (vi (srcs g)).length = (srcs g).length by simp [vi], List.take_length] at hl3
    have mem : ∀ i : Nat, i ∈ (srcs g).filter good ↔ i ∈ srcs g ∧ ∃ c, ws[i]? = some c ∧ c + (g.most : Int) = x := fun i => by
      rw [List.mem_filter]
      exact ⟨fun h => ⟨h.1, of_decide_eq_true h.2⟩, fun h => ⟨h.1, decide_eq_true h.2⟩⟩
    have m0 : r0 ∈ (srcs g).filter good := (mem r0).mpr ⟨hr0, c0, hc0, he0⟩
    refine ⟨D, ((srcs g).filter good).map fun n : Nat => (n : Int), rfl, SqL.of (by rw [hl3, vi_vz]), ?_, fun m h1 h2 => ?_⟩
    · rw [List.length_map]; exact List.length_pos_of_mem m0
    · obtain ⟨j, hj, rfl⟩ := List.mem_map.mp h1
      obtain ⟨hj1, hj2⟩ := (mem j).mp hj
      exact k j H3 hj1 hj2 (fun i c hi hc he => by
        have := h2 (i : Int) (List.mem_map.mpr ⟨i, (mem i).mpr ⟨hi, c, hc, he⟩, rfl⟩)
        omega) (s1.trans s3)
/-! ### way_from(net, when, signal) -/
def spWay (t : Adr) : Sp := fun vs H Q _ => ∃ (p lw ln u : Addr) (as us : List Addr) (a : Kp149.Abs) (tt : Kp148.Times) (k : Nat), vs = [.ref p, .ref lw, .int (k : Int)] ∧ NetAt t H p a.ins.length a.gates ln u as us ∧ H lw = some (.lst (vz (wz a.ins.length tt))) ∧
  AbsOk a ∧ a.when_ = some tt ∧ k < a.ins.length + a.gates.length ∧ Kp148.timeOf a.ins tt k ≠ none ∧ a.ins.length + a.gates.length ≤ 100000 ∧
  ∀ (r : Addr) (H' : Hp), H r = none → H' r = some (.lst (vi (Kp149.way a tt a.gates.length k))) → Same H H' → Q (.ref r) H'
theorem scWay : FnScope ["net", "when", "signal", "way", "gate"] ["net", "when", "signal"] (defScope sWay) := ⟨rfl, rfl, rfl, by decide +kernel, rfl, by decide +kernel, by decide +kernel⟩
structure WaySt (H : Hp) (p lw r : Addr) (a : Kp149.Abs) (tt : Kp148.Times) (k m : Nat) (σ : St) (H' : Hp) (pre : List Nat) (j : Nat) (g : Option V) : Prop where
  st : σ = [some (.ref p), some (.ref lw), some (.int (k : Int)), some (.ref r), g]
  hr : H' r = some (.lst (vi (pre ++ [j])))
  sm : Same H H'
  wy : pre ++ Kp149.way a tt m j = Kp149.way a tt a.gates.length k
  fu : Fuel a tt m j
  jl : j < a.ins.length + a.gates.length
  jt : Kp148.timeOf a.ins tt j ≠ none
  pl : pre.length + m ≤ a.gates.length
theorem ok_way {f fR fS : Addr} {fd fdR fdS : FuncData} (F : Fun K "way_from" "way_from" sWay f fd) (T : Txt K mg t) (DR : Df K mg "reason" sReason ["gate", "time", "when"] fR fdR) (DS : Df K mg "sources" sSources ["gate"] fS fdS) : FnOk P w K mg base CX0 3 f fd ["net", "when", "signal"] (spWay t) := by
  have GR : FnOk P w K mg base CX0 2 fR fdR ["gate", "time", "when"] (spReason t) := ok_reason DR.F T DS
  refine F.ok scWay (fun vs H Q E h => ?_) (fun cdv A outer s H vs Q E hr h => ?_)
  · obtain ⟨p, lw, ln, u, as, us, a, tt, k, rfl, _⟩ := h
    rfl
  · obtain ⟨p, lw, ln, u, as, us, a, tt, k, rfl, hN, hlw, A0, hwn, hkl, hkt, hsz, kk⟩ := h
    have hsl : (400000 : Nat) ≤ sizeLine := by decide
    have htl : tt.length = a.gates.length := (A0.tms tt hwn).1
    refine ⟨_, pss_cons (ps_set (i := 3) scWay.nd rfl (Or.inl rfl) (pe_lst (pa_cons (pv 2) pa_nil)))
      (pss_cons (ps_while PassesOwn.never (pt_cmp (pc_gt (pe_ix ix_list (pv 1) (pe_ix ix_list (pv 3) (pe_un un_neg pe_int) (fun _ _ => rfl)) (fun _ _ => rfl)) pe_int))
        (pss_cons (ps_set (i := 4) scWay.nd rfl (Or.inl rfl) (pe_ix ix_list (pe_fld (pv 0) rfl) (pe_sub (pe_ix ix_list (pv 3) (pe_un un_neg pe_int) (fun _ _ => rfl)) (pe_fld (pv 0) rfl)) (fun _ _ => rfl)))
        (pss_one (ps_expr (pe_bm PySem.F.plainAttrs_list PySem.F.slot_list_append PySem.F.type_list_append mt_append (pv 3) (pa_cons (pe_call GR hr rfl DR.g DR.F.kp DR.b .nil pass0 (pa_cons (pv 4) (pa_cons (pe_ix ix_list (pv 1) (pe_ix ix_list (pv 3) (pe_un un_neg pe_int) (fun _ _ => rfl)) (fun _ _ => rfl)) (pa_cons (pv 1) pa_nil)))) pa_nil))))))
      (pss_one (ps_ret (pv 3)))), ?_⟩
    refine ⟨_, rfl, (by show 1 ≤ sizeLine; decide), fun r hr0 => ?_⟩
    have s1 : Same H (upd H r (.lst [V.int (k : Int)])) := Same.new hr0
    refine ⟨fun m σ H' => ∃ pre j g, WaySt H p lw r a tt k m σ H' pre j g, ⟨a.gates.length, [], k, none, rfl, upd_same, s1, rfl, Fuel.start htl k, hkl, hkt, by simp⟩, fun m σ H' hW => ?_⟩
    obtain ⟨pre, j, g, ⟨rfl, hr1, sm, hwy, hfu, hjl, hjt, hpl⟩⟩ := hW
    obtain ⟨y, hy⟩ : ∃ y, Kp148.timeOf a.ins tt j = some y := by
      cases e : Kp148.timeOf a.ins tt j with
      | none => exact absurd e hjt
      | some y => exact ⟨y, rfl⟩
    have elast : atI (vi (pre ++ [j])) (-1) = some (V.int (j : Int)) := by
      have e : vi (pre ++ [j]) = vi pre ++ [V.int (j : Int)] := by simp [vi]
      rw [e]; exact atI_last _ _
    have hat : ∀ s, s < a.ins.length + a.gates.length → (wz a.ins.length tt)[s]? = some (tz (Kp148.timeOf a.ins tt s)) := fun s hs => wz_at A0.bits (by omega)
    have hatj : atI (vz (wz a.ins.length tt)) (j : Int) = some (V.int (y : Int)) := by
      refine atI_nat ?_
      rw [List.getElem?_map, hat j hjl, hy]; rfl
    have hlw' := sm _ _ hlw
    refine ⟨_, rfl, _, rfl, _, rfl, r, _, _, _, rfl, rfl, SqL.of hr1, elast, lw, _, _, _, rfl, rfl, SqL.of hlw', hatj, _, _, rfl, rfl, _, rfl, ite2 (fun c => ?_) fun c => ?_⟩
    · have c : (0 : Int) < (y : Int) := of_decide_eq_true c
      refine ⟨fun σ' H'' => ∃ m', m' < m ∧ ∃ pre j g, WaySt H p lw r a tt k m' σ' H'' pre j g, fun _ _ h => h, ?_⟩
      obtain ⟨pk, rfl, hpk, ⟨r0, c0, hr00, hc00, he00⟩, step⟩ := way_step A0 hwn hfu hy (by omega)
      have N1 := hN.same sm
      obtain ⟨dn1, hob1⟩ := N1.ob
      obtain ⟨ga, hga⟩ : ∃ ga, as[pk]? = some ga := ⟨as[pk]'(by rw [N1.gts.len]; exact hpk), List.getElem?_eq_getElem _⟩
      have esub : ((a.ins.length + pk : Nat) : Int) - ((a.ins.length : Nat) : Int) = (pk : Int) := by omega
      refine ⟨_, rfl, p, t.N, dn1, _, _, rfl, hob1, T.clN, T.nGates, nf_gates _ _ _ _, _, rfl, _, rfl, r, _, _, _, rfl, rfl, SqL.of hr1, elast, _, rfl, p, t.N, dn1, _, _, rfl, hob1, T.clN, T.nInputs, nf_inputs _ _ _ _, _, _, rfl, rfl, ln, _, _, V.ref ga, rfl, rfl, SqL.of N1.gts.lst, ?_, ?_⟩
      · rw [esub]; exact atI_nat (by rw [List.getElem?_map, hga]; rfl)
      refine ⟨_, rfl, .inl ⟨rfl, _, SqL.of hr1⟩, _, rfl, _, rfl, _, rfl, _, rfl, r, _, _, _, rfl, rfl, SqL.of hr1, elast, lw, _, _, _, rfl, rfl, SqL.of hlw', hatj, _, rfl, ?_⟩
      have hF := A0.fit _ (gt_mem hpk)
      have hmy : (gt a.gates pk).most ≤ y := by omega
      have hlen : (wz a.ins.length tt).length = a.ins.length + a.gates.length := by rw [wz_len, htl]
      have hiff : ∀ i, i ∈ srcs (gt a.gates pk) → ((∃ c, (wz a.ins.length tt)[i]? = some c ∧ c + ((gt a.gates pk).most : Int) = (y : Int)) ↔ Kp148.plus (Kp148.timeOf a.ins tt i) (gt a.gates pk).most = some y) := fun i hi => by
        rw [hat i (fits_srcs hF i hi), ← tz_plus hmy]
        exact ⟨fun ⟨c, h1, h2⟩ => by cases h1; exact h2, fun h => ⟨_, rfl, h⟩⟩
      refine ⟨ga, lw, gt a.gates pk, (y : Int), wz a.ins.length tt, rfl, N1.gts.at_ pk ga hga, hlw', fun s hs => by rw [hlen]; exact fits_srcs hF s hs, ?_, fun j' H2 hj1 hj2 hj3 s2 => ?_⟩
      · obtain ⟨c, h1, h2⟩ := (hiff r0 hr00).mpr (plus_some.mpr ⟨c0, hc00, he00⟩)
        exact ⟨r0, c, hr00, h1, h2⟩
      have hpj := (hiff j' hj1).mp hj2
      obtain ⟨m1, c1, rfl, hw1, hf1, ht1, hl1⟩ := step j' hj1 hpj fun i hi hpi => by
        obtain ⟨c, h1, h2⟩ := (hiff i hi).mpr hpi
        exact hj3 i c hi h1 h2
      have hr2 := s2 _ _ hr1
      refine ⟨r, _, _, rfl, rfl, hr2, by simp only [vi, List.length_map, List.length_append, List.length_cons, List.length_nil]; omega, ?_⟩
      refine ⟨m1, by omega, pre ++ [a.ins.length + pk], j', _, rfl, ?_, fun b o e => ?_, ?_, hf1, hl1, by rw [ht1]; simp, by rw [List.length_append]; simp; omega⟩
      · rw [upd_same]; simp [vi]
      · rw [upd_ne (ne_of_none e hr0)]; exact s2 _ _ (sm _ _ e)
      · rw [← hwy, hw1]; simp
    · have c : ¬ (0 : Int) < (y : Int) := fun z => c (decide_eq_true z)
      have hy0 : y = 0 := by omega
      subst hy0
      have e : Kp149.way a tt m j = [j] := way_zero hy
      rw [e] at hwy
      rw [hwy] at hr1
      exact ⟨_, rfl, kk r H' hr0 hr1 sm⟩
end
end Wb

namespace Wb
open PySem L2
/-! ### What of a heap isn't another's -/
def Off (H B : Hp) : Hp := fun c => match B c with
  | none => H c
  | some _ => none
theorem off_same (H B : Hp) : Same (Off H B) H := fun c o e => by
  unfold Off at e
  cases q : B c with
  | none => rw [q] at e; exact e
  | some _ => rw [q] at e; cases e
theorem off_no {H B : Hp} {c : Addr} {o : HO} (e : Off H B c = some o) : B c = none := by
  unfold Off at e
  cases q : B c with
  | none => rfl
  | some _ => rw [q] at e; cases e
theorem off_of {H B : Hp} {c : Addr} {o : HO} (e : H c = some o) (h : B c = none) : Off H B c = some o := by
  unfold Off; rw [h]; exact e
theorem off_none {H B : Hp} {c : Addr} (h : H c = none) : Off H B c = none := by
  unfold Off
  cases B c with
  | none => exact h
  | some _ => rfl
theorem Same.off {H H' B : Hp} (s : Same H H') : Same (Off H B) (Off H' B) := fun c o e => off_of (s c o (off_same _ _ c o e)) (off_no e)
theorem off_upd {H B : Hp} {c : Addr} {x y : HO} (h : B c = some x) : Off (upd H c y) (upd B c y) = Off H B := by
  funext d
  unfold Off
  by_cases z : d = c
  · subst z; rw [upd_same, h]
  · rw [upd_ne z, upd_ne z]
theorem hid2_mono {H H' : Hp} {a b : Addr} (s : Same H H') : Same (hid2 H a b) (hid2 H' a b) := fun c o e => hid2_of (s c o (hid2_same _ _ _ c o e)) (hid2_ne e).1 (hid2_ne e).2
/-- fresh addresses hide nothing -/
theorem same_hid2 {H H' : Hp} {a b : Addr} (s : Same H H') (ha : H a = none) (hb : H b = none) : Same H (hid2 H' a b) := fun c o e => hid2_of (s c o e) (ne_of_none e ha) (ne_of_none e hb)
/-! ### The fields of a board -/
def six : List Str := ["net", "ins", "loose", "before", "when", "longest"]
structure Bf (fs : List (Str × V)) (n i l b : Addr) (wv : V) (g : Nat) : Prop where
  net : fs.lookup ("net" : Str) = some (.ref n)
  ins : fs.lookup ("ins" : Str) = some (.ref i)
  loose : fs.lookup ("loose" : Str) = some (.ref l)
  before : fs.lookup ("before" : Str) = some (.ref b)
  when_ : fs.lookup ("when" : Str) = some wv
  longest : fs.lookup ("longest" : Str) = some (.int (g : Int))
  no : ∀ m, ¬ m ∈ six → fs.lookup m = none
  len : fs.length ≤ 6
theorem putF_old : ∀ {fs : List (Str × V)} {g : Str} {v x : V}, fs.lookup g = some x → (putF g v fs).length = fs.length
  | [], g, v, x, h => by cases h
  | (f, y) :: r, g, v, x, h => by
    unfold putF
    split
    · simp
    · next q =>
      have hb : (g == f) = false := by
        rw [beq_eq_false_iff_ne]
        exact fun z => q z.symm
      rw [List.lookup_cons, hb] at h
      have := putF_old (v := v) h
      simp [this]
/-- a field before begin -/
def Fresh (fs : List (Str × V)) : Prop := (∀ m, ¬ m ∈ six → fs.lookup m = none) ∧ (fs = [] ∨ (fs.length ≤ 6 ∧ ∀ m, m ∈ six → ∃ x, fs.lookup m = some x))
theorem Bf.fresh {fs : List (Str × V)} {n i l b : Addr} {wv : V} {g : Nat} (h : Bf fs n i l b wv g) : Fresh fs := by
  refine ⟨h.no, .inr ⟨h.len, fun m hm => ?_⟩⟩
  unfold six at hm
  simp only [List.mem_cons, List.not_mem_nil, or_false] at hm
  rcases hm with rfl | rfl | rfl | rfl | rfl | rfl
  · exact ⟨_, h.net⟩
  · exact ⟨_, h.ins⟩
  · exact ⟨_, h.loose⟩
  · exact ⟨_, h.before⟩
  · exact ⟨_, h.when_⟩
  · exact ⟨_, h.longest⟩
def bput (n i l b : Addr) (wv : V) (g : Nat) (fs : List (Str × V)) : List (Str × V) :=
  putF "longest" (.int (g : Int)) (putF "when" wv (putF "before" (.ref b) (putF "loose" (.ref l) (putF "ins" (.ref i) (putF "net" (.ref n) fs)))))
theorem six_no {m f : Str} (h : ¬ m ∈ six) (hf : f ∈ six) : ¬ m = f := fun z => h (z ▸ hf)
theorem Fresh.le {fs : List (Str × V)} (h : Fresh fs) : fs.length ≤ 6 := by
  rcases h.2 with e | e
  · subst e; simp
  · exact e.1
theorem Fresh.bf {fs : List (Str × V)} (h : Fresh fs) (n i l b : Addr) (wv : V) (g : Nat) : Bf (bput n i l b wv g fs) n i l b wv g := by
  unfold bput
  refine ⟨?_, ?_, ?_, ?_, ?_, look_same, fun m hm => ?_, ?_⟩
  · rw [look_put (by decide +kernel), look_put (by decide +kernel), look_put (by decide +kernel), look_put (by decide +kernel), look_put (by decide +kernel), look_same]
  · rw [look_put (by decide +kernel), look_put (by decide +kernel), look_put (by decide +kernel), look_put (by decide +kernel), look_same]
  · rw [look_put (by decide +kernel), look_put (by decide +kernel), look_put (by decide +kernel), look_same]
  · rw [look_put (by decide +kernel), look_put (by decide +kernel), look_same]
  · rw [look_put (by decide +kernel), look_same]
  · rw [look_put (six_no hm (by decide +kernel)), look_put (six_no hm (by decide +kernel)), look_put (six_no hm (by decide +kernel)), look_put (six_no hm (by decide +kernel)), look_put (six_no hm (by decide +kernel)), look_put (six_no hm (by decide +kernel))]
    exact h.1 m hm
  · rcases h.2 with e | ⟨e1, e2⟩
    · subst e
      have h1 := putF_len (fs := ([] : List (Str × V))) (g := "net") (v := .ref n)
      have h2 := putF_len (fs := putF "net" (.ref n) []) (g := "ins") (v := .ref i)
      have h3 := putF_len (fs := putF "ins" (.ref i) (putF "net" (.ref n) [])) (g := "loose") (v := .ref l)
      have h4 := putF_len (fs := putF "loose" (.ref l) (putF "ins" (.ref i) (putF "net" (.ref n) []))) (g := "before") (v := .ref b)
      have h5 := putF_len (fs := putF "before" (.ref b) (putF "loose" (.ref l) (putF "ins" (.ref i) (putF "net" (.ref n) [])))) (g := "when") (v := wv)
      have h6 := putF_len (fs := putF "when" wv (putF "before" (.ref b) (putF "loose" (.ref l) (putF "ins" (.ref i) (putF "net" (.ref n) []))))) (g := "longest") (v := .int (g : Int))
      simp only [List.length_nil] at h1
      omega
    · obtain ⟨x1, q1⟩ := e2 "net" (by decide +kernel)
      obtain ⟨x2, q2⟩ := e2 "ins" (by decide +kernel)
      obtain ⟨x3, q3⟩ := e2 "loose" (by decide +kernel)
      obtain ⟨x4, q4⟩ := e2 "before" (by decide +kernel)
      obtain ⟨x5, q5⟩ := e2 "when" (by decide +kernel)
      obtain ⟨x6, q6⟩ := e2 "longest" (by decide +kernel)
      rw [putF_old (x := x6), putF_old (x := x5), putF_old (x := x4), putF_old (x := x3), putF_old (x := x2), putF_old q1]
      · exact e1
      · rw [look_put (by decide +kernel)]; exact q2
      · rw [look_put (by decide +kernel), look_put (by decide +kernel)]; exact q3
      · rw [look_put (by decide +kernel), look_put (by decide +kernel), look_put (by decide +kernel)]; exact q4
      · rw [look_put (by decide +kernel), look_put (by decide +kernel), look_put (by decide +kernel), look_put (by decide +kernel)]; exact q5
      · rw [look_put (by decide +kernel), look_put (by decide +kernel), look_put (by decide +kernel), look_put (by decide +kernel), look_put (by decide +kernel)]; exact q6
/-! ### A board -/
/-- the times of the last wait -/
def WhenAt (M : Hp) (wv : V) (a : Kp149.Abs) : Prop := (a.when_ = none ∧ wv = .non) ∨ ∃ (tt : Kp148.Times) (lw : Addr), a.when_ = some tt ∧ wv = .ref lw ∧ M lw = some (.lst (vz (wz a.ins.length tt)))
theorem WhenAt.same {M M' : Hp} {wv : V} {a : Kp149.Abs} (s : Same M M') (h : WhenAt M wv a) : WhenAt M' wv a := by
  rcases h with h | ⟨tt, lw, h1, h2, h3⟩
  · exact .inl h
  · exact .inr ⟨tt, lw, h1, h2, s _ _ h3⟩
structure BoardAt (t : Adr) (M : Hp) (p : Addr) (a : Kp149.Abs) (dx n i l b ln u : Addr) (wv : V) (as us : List Addr) (fs : List (Str × V)) : Prop where
  ob : M p = some (.ins t.B dx fs)
  bf : Bf fs n i l b wv a.longest
  net : NetAt t (hid2 M i l) n a.ins.length a.gates ln u as us
  i_ : M i = some (.lst (vi a.ins))
  l_ : M l = some (.lst (vi a.loose))
  nil_ : i ≠ l
  b_ : hid2 M i l b = some (.lst (vi a.v))
  w_ : WhenAt (hid2 M i l) wv a
  ok : AbsOk a
  sz : a.ins.length + a.gates.length ≤ 100000
def Bd (t : Adr) (M : Hp) (p : Addr) (a : Kp149.Abs) : Prop := ∃ dx n i l b ln u wv as us fs, BoardAt t M p a dx n i l b ln u wv as us fs
theorem BoardAt.same {t : Adr} {M M' : Hp} {p : Addr} {a : Kp149.Abs} {dx n i l b ln u : Addr} {wv : V} {as us : List Addr} {fs : List (Str × V)} (s : Same M M') (h : BoardAt t M p a dx n i l b ln u wv as us fs) : BoardAt t M' p a dx n i l b ln u wv as us fs :=
  ⟨s _ _ h.ob, h.bf, h.net.same (hid2_mono s), s _ _ h.i_, s _ _ h.l_, h.nil_, hid2_mono s _ _ h.b_, h.w_.same (hid2_mono s), h.ok, h.sz⟩
theorem Bd.same {t : Adr} {M M' : Hp} {p : Addr} {a : Kp149.Abs} (s : Same M M') (h : Bd t M p a) : Bd t M' p a := by
  obtain ⟨dx, n, i, l, b, ln, u, wv, as, us, fs, h⟩ := h
  exact ⟨dx, n, i, l, b, ln, u, wv, as, us, fs, h.same s⟩
theorem rep_vi (k x : Nat) : (List.replicate k [V.int (x : Int)]).flatten = vi (List.replicate k x) := by
  induction k with
  | zero => rfl
  | succ k ih => rw [List.replicate_succ, List.flatten_cons, ih, List.replicate_succ]; rfl
/-- a net and an object of another class stand apart -/
theorem NetAt.off {t : Adr} {H H' : Hp} {p q : Addr} {n : Nat} {gs : List Kp148.Gate} {l u : Addr} {as us : List Addr} {C dx : Addr} {fs : List (Str × V)} (h : NetAt t H p n gs l u as us) (hq : H q = some (.ins C dx fs)) (hN : C ≠ t.N) (hG : C ≠ t.G)
    (k : ∀ b o, H b = some o → b ≠ q → H' b = some o) : NetAt t H' p n gs l u as us := by
  have ni : ∀ {b : Addr} {C' d' : Addr} {f' : List (Str × V)}, H b = some (.ins C' d' f') → C ≠ C' → b ≠ q := fun {b C' d' f'} e hc z => by
    subst z
    rw [hq] at e
    have e' := Option.some.inj e
    injection e' with e1 _ _
    exact hc e1
  have nl : ∀ {b : Addr} {xs : List V}, H b = some (.lst xs) → b ≠ q := fun e => ne_of e hq (by intro z; cases z)
  obtain ⟨d1, ho⟩ := h.ob
  refine ⟨⟨d1, k _ _ ho (ni ho hN)⟩, ⟨k _ _ h.gts.lst (nl h.gts.lst), h.gts.len, fun j a e => ?_⟩, k _ _ h.ul (nl h.ul), h.len, fun s a e => k _ _ (h.use s a e) (nl (h.use s a e))⟩
  obtain ⟨d2, hg⟩ := h.gts.at_ j a e
  exact ⟨d2, k _ _ hg (ni hg hG)⟩
section
variable {P : Program} {w : World} {K : PySem.W.Frag} {mg : Str → Option Value} {base : Heap} {t : Adr}
/-! ### board.begin(net) -/
def spBegin (t : Adr) : Sp := fun vs H Q _ => ∃ (p n dx ln u : Addr) (as us : List Addr) (fs : List (Str × V)) (m : Nat) (gs : List Kp148.Gate), vs = [.ref p, .ref n] ∧ H p = some (.ins t.B dx fs) ∧ Fresh fs ∧ NetAt t H n m gs ln u as us ∧ Kp149.goodStart gs m = true ∧ m + gs.length ≤ 100000 ∧
  ∀ (i l b : Addr) (fs' : List (Str × V)) (H' : Hp), H' p = some (.ins t.B dx fs') → Bf fs' n i l b .non 0 → H i = none → H l = none → H b = none → H' i = some (.lst (vi (List.replicate m 0))) → H' l = some (.lst (vi (List.replicate m 2))) → H' b = some (.lst (vi (List.replicate gs.length 2))) →
    i ≠ l → b ≠ i → b ≠ l → (∀ c o, H c = some o → c ≠ p → H' c = some o) → Q .non H'
theorem scBegin : FnScope ["self", "net"] ["self", "net"] (defScope sBegin) := ⟨rfl, rfl, rfl, by decide +kernel, rfl, by decide +kernel, by decide +kernel⟩
theorem ok_begin {f : Addr} {fd : FuncData} (F : Fun K "begin" "Board.begin" sBegin f fd) (T : Txt K mg t) : FnOk P w K mg base CX0 1 f fd ["self", "net"] (spBegin t) := by
  obtain ⟨uU, mU, rU⟩ := T.cUNSURE
  refine F.ok scBegin (fun vs H Q E h => ?_) (fun cdv A outer s H vs Q E hr h => ?_)
  · obtain ⟨p, n, dx, ln, u, as, us, fs, m, gs, rfl, _⟩ := h
    rfl
  · obtain ⟨p, n, dx, ln, u, as, us, fs, m, gs, rfl, hp, hfr, hN, hgs, hsz, k⟩ := h
    have hsl : (400000 : Nat) ≤ sizeLine := by decide
    have hf6 := hfr.le
    refine ⟨_, pss_cons (ps_fld (pv 0) (pv 1) rfl)
      (pss_cons (ps_fld (pv 0) (pe_op op_rep (pe_lst (pa_cons pe_int pa_nil)) (pe_fld (pv 1) rfl)) rfl)
      (pss_cons (ps_fld (pv 0) (pe_op op_rep (pe_lst (pa_cons (pe_glob rfl mU rU) pa_nil)) (pe_fld (pv 1) rfl)) rfl)
      (pss_cons (ps_fld (pv 0) (pe_op op_rep (pe_lst (pa_cons (pe_glob rfl mU rU) pa_nil)) (pe_callB call_len_seq (by rfl) T.bLen PySem.boot_len (pa_cons (pe_fld (pv 1) rfl) pa_nil))) rfl)
      (pss_cons (ps_fld (pv 0) pe_non rfl)
      (pss_one (ps_fld (pv 0) pe_int rfl)))))), ?_⟩
    -- self.net = net
    refine ⟨_, rfl, _, rfl, p, t.B, dx, _, rfl, hp, T.clB, T.tNet, by omega, ?_⟩
    have k1 : ∀ c o, H c = some o → c ≠ p → (upd H p (.ins t.B dx (putF "net" (.ref n) fs))) c = some o := fun c o e hc => by rw [upd_ne hc]; exact e
    have hp1 : (upd H p (.ins t.B dx (putF "net" (.ref n) fs))) p = some (.ins t.B dx (putF "net" (.ref n) fs)) := upd_same
    have f1 : ∀ c, (upd H p (.ins t.B dx (putF "net" (.ref n) fs))) c = none → H c = none := fun c e => by
      by_cases z : c = p
      · subst z; rw [upd_same] at e; cases e
      · rw [upd_ne z] at e; exact e
    generalize upd H p (.ins t.B dx (putF "net" (.ref n) fs)) = H1 at k1 hp1 f1
    have N1 := hN.off hp T.neBN T.neBG k1
    obtain ⟨dn1, hob1⟩ := N1.ob
    -- self.ins = [0] * net.inputs
    refine ⟨(by show 1 ≤ sizeLine; decide), fun c1 hc1 => ?_⟩
    have npc1 : n ≠ c1 := ne_of_none hob1 hc1
    refine ⟨_, rfl, n, t.N, dn1, _, _, rfl, (by rw [upd_ne npc1]; exact hob1), T.clN, T.nInputs, nf_inputs _ _ _ _, c1, _, _, rfl, rfl, upd_same, by omega, by omega, by simp only [List.length_cons, List.length_nil]; omega, fun i hi => ?_⟩
    rw [Int.toNat_natCast, show (V.int 0) = V.int ((0 : Nat) : Int) from rfl, rep_vi]
    have s1 : Same H1 (upd H1 c1 (.lst [V.int ((0 : Nat) : Int)])) := Same.new hc1
    have s2 := s1.trans (Same.new (o := .lst (vi (List.replicate m 0))) hi)
    have hi1 : H1 i = none := s1.free hi
    have hi2 : (upd (upd H1 c1 (.lst [V.int ((0 : Nat) : Int)])) i (.lst (vi (List.replicate m 0)))) i = some (.lst (vi (List.replicate m 0))) := upd_same
    have npi : p ≠ i := ne_of_none hp1 hi1
    refine ⟨_, rfl, p, t.B, dx, _, rfl, s2 _ _ hp1, T.clB, T.tIns, by have := putF_len (fs := fs) (g := "net") (v := .ref n); omega, ?_⟩
    generalize upd (upd H1 c1 (.lst [V.int ((0 : Nat) : Int)])) i (.lst (vi (List.replicate m 0))) = H2 at s2 hi2
    have hp2 := s2 _ _ hp1
    have k3 : ∀ c o, H2 c = some o → c ≠ p → (upd H2 p (.ins t.B dx (putF "ins" (.ref i) (putF "net" (.ref n) fs)))) c = some o := fun c o e hc => by rw [upd_ne hc]; exact e
    have hp3 : (upd H2 p (.ins t.B dx (putF "ins" (.ref i) (putF "net" (.ref n) fs)))) p = some (.ins t.B dx (putF "ins" (.ref i) (putF "net" (.ref n) fs))) := upd_same
    have f3 : ∀ c, (upd H2 p (.ins t.B dx (putF "ins" (.ref i) (putF "net" (.ref n) fs)))) c = none → H2 c = none := fun c e => by
      by_cases z : c = p
      · subst z; rw [upd_same] at e; cases e
      · rw [upd_ne z] at e; exact e
    generalize upd H2 p (.ins t.B dx (putF "ins" (.ref i) (putF "net" (.ref n) fs))) = H3 at k3 hp3 f3
    have N3 := (N1.same s2).off hp2 T.neBN T.neBG k3
    obtain ⟨dn3, hob3⟩ := N3.ob
    have hi3 := k3 _ _ hi2 npi.symm
    -- self.loose = [UNSURE] * net.inputs
    refine ⟨(by show 1 ≤ sizeLine; decide), fun c2 hc2 => ?_⟩
    have npc2 : n ≠ c2 := ne_of_none hob3 hc2
    refine ⟨_, rfl, n, t.N, dn3, _, _, rfl, (by rw [upd_ne npc2]; exact hob3), T.clN, T.nInputs, nf_inputs _ _ _ _, c2, _, _, rfl, rfl, upd_same, by omega, by omega, by simp only [List.length_cons, List.length_nil]; omega, fun l hl => ?_⟩
    rw [Int.toNat_natCast, show (V.int 2) = V.int ((2 : Nat) : Int) from rfl, rep_vi]
    have s3 : Same H3 (upd H3 c2 (.lst [V.int ((2 : Nat) : Int)])) := Same.new hc2
    have s4 := s3.trans (Same.new (o := .lst (vi (List.replicate m 2))) hl)
    have hl3 : H3 l = none := s3.free hl
    have hl4 : (upd (upd H3 c2 (.lst [V.int ((2 : Nat) : Int)])) l (.lst (vi (List.replicate m 2)))) l = some (.lst (vi (List.replicate m 2))) := upd_same
    have npl : p ≠ l := ne_of_none hp3 hl3
    have nil_ : i ≠ l := ne_of_none hi3 hl3
    refine ⟨_, rfl, p, t.B, dx, _, rfl, s4 _ _ hp3, T.clB, T.tLoose, by have h1 := putF_len (fs := fs) (g := "net") (v := .ref n); have h2 := putF_len (fs := putF "net" (.ref n) fs) (g := "ins") (v := .ref i); omega, ?_⟩
    generalize upd (upd H3 c2 (.lst [V.int ((2 : Nat) : Int)])) l (.lst (vi (List.replicate m 2))) = H4 at s4 hl4
    have hp4 := s4 _ _ hp3
    have k5 : ∀ c o, H4 c = some o → c ≠ p → (upd H4 p (.ins t.B dx (putF "loose" (.ref l) (putF "ins" (.ref i) (putF "net" (.ref n) fs))))) c = some o := fun c o e hc => by rw [upd_ne hc]; exact e
    have hp5 : (upd H4 p (.ins t.B dx (putF "loose" (.ref l) (putF "ins" (.ref i) (putF "net" (.ref n) fs))))) p = some (.ins t.B dx (putF "loose" (.ref l) (putF "ins" (.ref i) (putF "net" (.ref n) fs)))) := upd_same
    have f5 : ∀ c, (upd H4 p (.ins t.B dx (putF "loose" (.ref l) (putF "ins" (.ref i) (putF "net" (.ref n) fs))))) c = none → H4 c = none := fun c e => by
      by_cases z : c = p
      · subst z; rw [upd_same] at e; cases e
      · rw [upd_ne z] at e; exact e
    generalize upd H4 p (.ins t.B dx (putF "loose" (.ref l) (putF "ins" (.ref i) (putF "net" (.ref n) fs)))) = H5 at k5 hp5 f5
    have N5 := (N3.same s4).off hp4 T.neBN T.neBG k5
    obtain ⟨dn5, hob5⟩ := N5.ob
    have hi5 := k5 _ _ (s4 _ _ hi3) npi.symm
    have hl5 := k5 _ _ hl4 npl.symm
    -- self.before = [UNSURE] * len(net.gates)
    refine ⟨(by show 1 ≤ sizeLine; decide), fun c3 hc3 => ?_⟩
    have s5 : Same H5 (upd H5 c3 (.lst [V.int ((2 : Nat) : Int)])) := Same.new hc3
    refine ⟨_, rfl, n, t.N, dn5, _, _, rfl, s5 _ _ hob5, T.clN, T.nGates, nf_gates _ _ _ _, ln, _, rfl, .inl (SqL.of (s5 _ _ N5.gts.lst)), c3, _, _, rfl, rfl, upd_same, by omega, ?_, ?_, fun b hb => ?_⟩
    · rw [List.length_map, N5.gts.len]; omega
    · rw [List.length_map, N5.gts.len]; simp only [List.length_cons, List.length_nil]; omega
    rw [Int.toNat_natCast, rep_vi, List.length_map, N5.gts.len]
    have s6 := s5.trans (Same.new (o := .lst (vi (List.replicate gs.length 2))) hb)
    have hb5 : H5 b = none := s5.free hb
    have hb6 : (upd (upd H5 c3 (.lst [V.int ((2 : Nat) : Int)])) b (.lst (vi (List.replicate gs.length 2)))) b = some (.lst (vi (List.replicate gs.length 2))) := upd_same
    have npb : p ≠ b := ne_of_none hp5 hb5
    have nib : i ≠ b := ne_of_none hi5 hb5
    have nlb : l ≠ b := ne_of_none hl5 hb5
    have hq1 := putF_len (fs := fs) (g := "net") (v := .ref n)
    have hq2 := putF_len (fs := putF "net" (.ref n) fs) (g := "ins") (v := .ref i)
    have hq3 := putF_len (fs := putF "ins" (.ref i) (putF "net" (.ref n) fs)) (g := "loose") (v := .ref l)
    have hq4 := putF_len (fs := putF "loose" (.ref l) (putF "ins" (.ref i) (putF "net" (.ref n) fs))) (g := "before") (v := .ref b)
    have hq5 := putF_len (fs := putF "before" (.ref b) (putF "loose" (.ref l) (putF "ins" (.ref i) (putF "net" (.ref n) fs)))) (g := "when") (v := .non)
    refine ⟨_, rfl, p, t.B, dx, _, rfl, s6 _ _ hp5, T.clB, T.tBefore, by omega, ?_⟩
    generalize upd (upd H5 c3 (.lst [V.int ((2 : Nat) : Int)])) b (.lst (vi (List.replicate gs.length 2))) = H6 at s6 hb6
    -- self.when = None; self.longest = 0
    refine ⟨_, rfl, p, t.B, dx, _, rfl, upd_same, T.clB, T.tWhen, by omega, _, rfl, p, t.B, dx, _, rfl, upd_same, T.clB, T.tLongest, by omega, ?_⟩
    rw [upd_upd, upd_upd]
    have k7 : ∀ c o, H6 c = some o → c ≠ p → (upd H6 p (.ins t.B dx (bput n i l b .non 0 fs))) c = some o := fun c o e hc => by rw [upd_ne hc]; exact e
    exact k i l b _ _ upd_same (hfr.bf n i l b .non 0) (f1 _ hi1) (f1 _ (s2.free (f3 _ hl3))) (f1 _ (s2.free (f3 _ (s4.free (f5 _ hb5))))) (k7 _ _ (s6 _ _ hi5) npi.symm) (k7 _ _ (s6 _ _ hl5) npl.symm) (k7 _ _ hb6 npb.symm) nil_ nib.symm nlb.symm
      fun c o e hc => k7 c o (s6 c o (k5 c o (s4 c o (k3 c o (s2 c o (k1 c o e hc)) hc)) hc)) hc
end
end Wb

namespace Wb
open PySem L2
/-- what begin leaves is a board at its start -/
theorem bd_start {t : Adr} {H H' B : Hp} {p n dx ln u i l b : Addr} {as us : List Addr} {fs fs' : List (Str × V)} {m : Nat} {gs : List Kp148.Gate} (hN : NetAt t (Off H B) n m gs ln u as us) (hp : Off H B p = some (.ins t.B dx fs)) (n1 : t.B ≠ t.N) (n2 : t.B ≠ t.G) (sB : Same B H)
    (hg : Kp149.goodStart gs m = true) (hsz : m + gs.length ≤ 100000)
    (hp' : H' p = some (.ins t.B dx fs')) (hf : Bf fs' n i l b .non 0) (hi : H i = none) (hl : H l = none) (hb : H b = none) (hi' : H' i = some (.lst (vi (List.replicate m 0)))) (hl' : H' l = some (.lst (vi (List.replicate m 2)))) (hb' : H' b = some (.lst (vi (List.replicate gs.length 2))))
    (nil_ : i ≠ l) (nbi : b ≠ i) (nbl : b ≠ l) (k : ∀ c o, H c = some o → c ≠ p → H' c = some o) : Bd t (Off H' B) p (Kp149.start gs m) ∧ Same B H' := by
  have hpB := off_no hp
  refine ⟨⟨dx, n, i, l, b, ln, u, .non, as, us, fs', off_of hp' hpB, hf, ?_, off_of hi' (sB.free hi), off_of hl' (sB.free hl), nil_, hid2_of (off_of hb' (sB.free hb)) nbi nbl, .inl ⟨rfl, rfl⟩, AbsOk.start hg, ?_⟩, fun c o e => k c o (sB c o e) (fun z => by rw [z, hpB] at e; cases e)⟩
  · show NetAt t (hid2 (Off H' B) i l) n (List.replicate m 0).length gs ln u as us
    rw [List.length_replicate]
    exact hN.off hp n1 n2 fun c o e hc => hid2_of (off_of (k c o (off_same _ _ c o e) hc) (off_no e)) (ne_of_none (off_same _ _ c o e) hi) (ne_of_none (off_same _ _ c o e) hl)
  · show (List.replicate m 0).length + gs.length ≤ 100000
    rw [List.length_replicate]; exact hsz
/-- how a call on the board ends: its list is new -/
def Ends' (t : Adr) (B : Hp) (p : Addr) (a : Kp149.Abs) (out : List Int) (Q : VK) : Prop := ∀ (r : Addr) (H' : Hp), Same B H' → Bd t (Off H' B) p a → H' r = some (.lst (vz out)) → B r = none → Q (.ref r) H'
/-- an answer told, nothing else changed -/
theorem Ends'.tell {t : Adr} {B H : Hp} {p : Addr} {a : Kp149.Abs} {out : List Int} {Q : VK} (e : Ends' t B p a out Q) (sB : Same B H) (bd : Bd t (Off H B) p a) {r : Addr} (hr : H r = none) : Q (.ref r) (upd H r (.lst (vz out))) :=
  e r _ (sB.trans (Same.new hr)) (bd.same (Same.off (Same.new hr))) upd_same (sB.free hr)
theorem same_made {H : Hp} {x dx C : Addr} (nx : H x = none) (nd : H dx = none) (ne : dx ≠ x) : Same H (upd (upd H dx (.own x)) x (.ins C dx [])) := (Same.new nd).trans (Same.new (by rw [upd_ne ne.symm]; exact nx))
section
variable {P : Program} {w : World} {K : PySem.W.Frag} {mg : Str → Option Value} {base : Heap} {t : Adr}
/-! ### Board() -/
def spBoard (t : Adr) : Sp := fun vs H Q _ => ∃ (p dx : Addr) (B : Hp), vs = [.ref p] ∧ H p = some (.ins t.B dx []) ∧ Same B H ∧ B p = none ∧ ∀ H', Same B H' → Bd t (Off H' B) p Kp149Neutral.dummy → Q .non H'
theorem scBoard : FnScope ["self"] ["self"] (defScope sBoard) := ⟨rfl, rfl, rfl, by decide +kernel, rfl, by decide +kernel, by decide +kernel⟩
theorem fresh_nil : Fresh [] := ⟨fun m _ => rfl, .inl rfl⟩
theorem ok_board {f fB fN fU fS : Addr} {fd fdB fdN fdU fdS : FuncData} (F : Fun K "__init__" "Board.__init__" sBoard f fd) (T : Txt K mg t) (MB : Mf K t.B "begin" "Board.begin" sBegin ["self", "net"] fB fdB)
    (MN : Mk K t.N fN) (FN : Fun K "__init__" "Net.__init__" sNet fN fdN) (bN : Binds K fdN ["self", "inputs", "gates"] []) (DU : Df K mg "find_users" sUsers ["inputs", "gates"] fU fdU) (DS : Df K mg "sources" sSources ["gate"] fS fdS) :
    FnOk P w K mg base CX0 5 f fd ["self"] (spBoard t) := by
  have GB : FnOk P w K mg base CX0 1 fB fdB ["self", "net"] (spBegin t) := ok_begin MB.F T
  have GN : FnOk P w K mg base CX0 3 fN fdN ["self", "inputs", "gates"] (spNet t) := ok_net FN T DU DS
  refine F.ok scBoard (fun vs H Q E h => ?_) (fun cdv A outer s H vs Q E hr h => ?_)
  · obtain ⟨p, dx, B, rfl, _⟩ := h
    rfl
  · obtain ⟨p, dx, B, rfl, hp, sB, hpB, k⟩ := h
    have hr1 : Room 1 _ := hr.mono (by decide)
    refine ⟨_, pss_one (ps_expr (pe_meth (pv 0) T.clB MB.m GB hr1 MB.b .nil pass0 (pa_cons (pe_make MN GN hr rfl T.mgN bN .nil pass0 (pa_cons pe_int (pa_cons (pe_lst pa_nil) pa_nil))) pa_nil))), ?_⟩
    refine ⟨_, rfl, p, dx, _, rfl, hp, rfl, (by show 0 ≤ sizeLine; decide), fun l hl => ?_⟩
    intro x dn hx hdn nx
    have s1 : Same H (upd H l (.lst [])) := Same.new hl
    have nlx : l ≠ x := ne_of_none (upd_same (H := H) (a := l) (o := .lst [])) hx
    have nld : l ≠ dn := ne_of_none (upd_same (H := H) (a := l) (o := .lst [])) hdn
    refine ⟨x, dn, 0, l, [], [], rfl, upd_same, ⟨by rw [upd_ne nlx, upd_ne nld, upd_same]; rfl, rfl, fun j a e => by simp at e⟩, fun y hy => by simp at hy, by simp, fun u us H2 hN hu hus kp => ⟨rfl, ?_⟩⟩
    have s2 : Same (upd H l (.lst [])) H2 := Same.made hx hdn kp
    have s12 := s1.trans s2
    have hp2 := s12 _ _ hp
    have sB2 := sB.trans s12
    have hxH : H x = none := s1.free hx
    have hdnH : H dn = none := s1.free hdn
    -- all of the net is new
    have N2 : NetAt t (Off H2 B) x 0 [] l u [] us := by
      obtain ⟨d1, ho⟩ := hN.ob
      refine ⟨⟨d1, off_of ho (sB.free hxH)⟩, ⟨off_of hN.gts.lst (sB.free hl), rfl, fun j a e => by simp at e⟩, off_of hN.ul ?_, hN.len, fun s a e => ?_⟩
      · exact sB.free ((s1.trans (same_made hx hdn nx)).free hu)
      · exact off_of (hN.use s a e) (sB.free ((s1.trans (same_made hx hdn nx)).free (hus a (List.mem_of_getElem? e))))
    refine ⟨p, x, dx, l, u, [], us, [], 0, [], rfl, hp2, fresh_nil, hN, rfl, by simp, fun i l' b fs' H' hp' hf hi hl2 hb hi' hl' hb' q1 q2 q3 kk => ?_⟩
    obtain ⟨h1, h2⟩ := bd_start N2 (off_of hp2 hpB) T.neBN T.neBG sB2 rfl (by simp) hp' hf hi hl2 hb hi' hl' hb' q1 q2 q3 kk
    exact k H' h2 h1
end
end Wb

namespace Wb
open PySem L2
section
variable {P : Program} {w : World} {K : PySem.W.Frag} {mg : Str → Option Value} {base : Heap} {t : Adr}
/-! ### board.tk_start(g, inputs) -/
def GvAt (t : Adr) (M : Hp) (gv : V) (g : Option (List Kp148.Gate)) : Prop := (g = none ∧ gv = .non) ∨ ∃ (gs : List Kp148.Gate) (l : Addr) (as : List Addr), g = some gs ∧ gv = .ref l ∧ GatesAt t M l as gs
def spStart (t : Adr) : Sp := fun vs H Q _ => ∃ (p : Addr) (B : Hp) (a : Kp149.Abs) (gv : V) (g : Option (List Kp148.Gate)) (n : Nat), vs = [.ref p, gv, .int (n : Int)] ∧ Same B H ∧ Bd t (Off H B) p a ∧ GvAt t (Off H B) gv g ∧ Kp149.Pre (.start g n) ∧
  Ends' t B p (Kp149.act a (.start g n)).1 (Kp149Neutral.wrKp149_Ans (Kp149.act a (.start g n)).2) Q
theorem scStart : FnScope ["self", "g", "inputs", "signals", "gate"] ["self", "g", "inputs"] (defScope sStart) := ⟨rfl, rfl, rfl, by decide +kernel, rfl, by decide +kernel, by decide +kernel⟩
theorem good_all {gs : List Kp148.Gate} {n : Nat} (h : ∀ j, j < gs.length → Kp148.goodGate (n + gs.length) (gt gs j) = true) : Kp149.goodStart gs n = true := by
  unfold Kp149.goodStart
  rw [List.all_eq_true]
  intro x hx
  obtain ⟨j, hj, e⟩ := List.getElem_of_mem hx
  have := h j hj
  have e2 : gt gs j = x := gt_of (by rw [List.getElem?_eq_getElem hj, e])
  rw [e2] at this; exact this
theorem good_not {gs : List Kp148.Gate} {n j : Nat} (hj : j < gs.length) (h : Kp148.goodGate (n + gs.length) (gt gs j) = false) : Kp149.goodStart gs n = false := by
  cases e : Kp149.goodStart gs n with
  | false => rfl
  | true =>
    unfold Kp149.goodStart at e
    rw [List.all_eq_true] at e
    rw [e _ (gt_mem hj)] at h; cases h
theorem ok_start {f fF fB fN fU fS : Addr} {fd fdF fdB fdN fdU fdS : FuncData} (F : Fun K "tk_start" "Board.tk_start" sStart f fd) (T : Txt K mg t) (DF : Df K mg "gate_fits" sFits ["gate", "signals"] fF fdF) (MB : Mf K t.B "begin" "Board.begin" sBegin ["self", "net"] fB fdB)
    (MN : Mk K t.N fN) (FN : Fun K "__init__" "Net.__init__" sNet fN fdN) (bN : Binds K fdN ["self", "inputs", "gates"] []) (DU : Df K mg "find_users" sUsers ["inputs", "gates"] fU fdU) (DS : Df K mg "sources" sSources ["gate"] fS fdS) :
    FnOk P w K mg base CX0 5 f fd ["self", "g", "inputs"] (spStart t) := by
  have GB : FnOk P w K mg base CX0 1 fB fdB ["self", "net"] (spBegin t) := ok_begin MB.F T
  have GN : FnOk P w K mg base CX0 3 fN fdN ["self", "inputs", "gates"] (spNet t) := ok_net FN T DU DS
  have GF : FnOk P w K mg base CX0 2 fF fdF ["gate", "signals"] (spFits t) := ok_fits DF.F T DS
  obtain ⟨u1, m1, r1⟩ := T.cMOST_GATES
  obtain ⟨u2, m2, r2⟩ := T.cMOST_INPUTS
  obtain ⟨u3, m3, r3⟩ := T.cFORM_NUMBER
  obtain ⟨u4, m4, r4⟩ := T.cNOT_VALID
  obtain ⟨u5, m5, r5⟩ := T.cDONE
  refine F.ok scStart (fun vs H Q E h => ?_) (fun cdv A outer s H vs Q E hr h => ?_)
  · obtain ⟨p, B, a, gv, g, n, rfl, _⟩ := h
    rfl
  · obtain ⟨p, B, a, gv, g, n, rfl, sB, bd, hg, hpre, k⟩ := h
    have hr1 : Room 1 _ := hr.mono (by decide)
    have hr2 : Room 2 _ := hr.mono (by decide)
    refine ⟨_, pss_cons (ps_if (PW.pt (pw_or (pt_cmp (pc_isN (pv 1))) (pw_or (pt_cmp (pc_gt (pe_callB call_len_seq (by rfl) T.bLen PySem.boot_len (pa_cons (pv 1) pa_nil)) (pe_glob rfl m1 r1))) (pw_or1 (pt_cmp (pc_gt (pv 2) (pe_glob rfl m2 r2)))))))
        (pss_one (ps_ret (pe_lst (pa_cons (pe_glob rfl m3 r3) (pa_cons (pe_glob rfl m4 r4) pa_nil))))) pss_nil)
      (pss_cons (ps_set (i := 3) scStart.nd rfl (Or.inl rfl) (pe_add (pv 2) (pe_callB call_len_seq (by rfl) T.bLen PySem.boot_len (pa_cons (pv 1) pa_nil))))
      (pss_cons (ps_for PassesOwn.never rfl (pi_list (pv 1)) (pg_name (i := 4) scStart.nd rfl (Or.inl rfl))
        (pss_one (ps_if (pt_not (pt_val (pe_call GF hr2 rfl DF.g DF.F.kp DF.b .nil pass0 (pa_cons (pv 4) (pa_cons (pv 3) pa_nil))))) (pss_one (ps_ret (pe_lst (pa_cons (pe_glob rfl m3 r3) (pa_cons (pe_glob rfl m4 r4) pa_nil))))) pss_nil)))
      (pss_cons (ps_expr (pe_meth (pv 0) T.clB MB.m GB hr1 MB.b .nil pass0 (pa_cons (pe_make MN GN hr rfl T.mgN bN .nil pass0 (pa_cons (pv 2) (pa_cons (pv 1) pa_nil))) pa_nil)))
      (pss_one (ps_ret (pe_lst (pa_cons (pe_glob rfl m3 r3) (pa_cons (pe_glob rfl m5 r5) pa_nil)))))))), ?_⟩
    rcases hg with ⟨rfl, rfl⟩ | ⟨gs, l, as, rfl, rfl, hG⟩
    · -- nothing
      refine ⟨_, rfl, _, rfl, iteT (iteT ?_)⟩
      refine ⟨(by show 2 ≤ sizeLine; decide), fun r hr0 => ?_⟩
      exact Ends'.tell k sB bd hr0
    · have hpre' := hpre gs rfl
      obtain ⟨hlen, hin, hmost⟩ := hpre'
      have hlen : gs.length ≤ 16384 := hlen
      have hin : n ≤ 1024 := hin
      have so := off_same H B
      have hGH := hG.same so
      have hasl : (((vr as).length : Nat) : Int) = (gs.length : Int) := by rw [List.length_map, hG.len]
      refine ⟨_, rfl, _, rfl, iteF ?_⟩
      refine ⟨_, rfl, l, _, rfl, .inl (SqL.of hGH.lst), _, _, rfl, rfl, _, rfl, ?_⟩
      refine ite2 (fun c => ?_) fun c => ?_
      · have c : (16384 : Int) < (((vr as).length : Nat) : Int) := of_decide_eq_true c
        omega
      refine ⟨_, rfl, _, _, rfl, rfl, _, rfl, ?_⟩
      refine ite2 (fun c => ?_) fun c => ?_
      · have c : (1024 : Int) < (n : Int) := of_decide_eq_true c
        omega
      -- signals = inputs + len(g)
      refine ⟨_, rfl, _, rfl, l, _, rfl, .inl (SqL.of hGH.lst), _, _, rfl, rfl, ?_⟩
      have esig : (n : Int) + (((vr as).length : Nat) : Int) = ((n + gs.length : Nat) : Int) := by rw [hasl]; omega
      show tSeq _ _ _ (List.set _ 3 (some (V.int ((n : Int) + (((vr as).length : Nat) : Int))))) _
      rw [esig]
      refine ⟨_, rfl, l, rfl, ⟨_, SqL.of hGH.lst⟩, for_list (K := K) (a := l) (xs := vr as) (fun i σ H' => ∃ x4 : Option V, σ = [some (.ref p), some (.ref l), some (.int (n : Int)), some (.int ((n + gs.length : Nat) : Int)), x4] ∧ Same H H' ∧ ∀ j, j < i → Kp148.goodGate (n + gs.length) (gt gs j) = true)
        ⟨none, rfl, Same.refl H, fun j hj => by omega⟩ (fun i σ H' _ ⟨_, _, sm, _⟩ => SqL.of (sm _ _ hGH.lst)) (fun i x σ H' hx hP => ?_) (fun σ H' hP => ?_)⟩
      · obtain ⟨x4, rfl, sm, hall⟩ := hP
        obtain ⟨ga, hga, rfl⟩ : ∃ ga, as[i]? = some ga ∧ V.ref ga = x := by
          rw [List.getElem?_map] at hx
          cases e : as[i]? with
          | none => rw [e] at hx; cases hx
          | some a => rw [e] at hx; exact ⟨a, rfl, Option.some.inj hx⟩
        have hil : i < gs.length := by rw [← hG.len]; exact (List.getElem?_eq_some_iff.mp hga).1
        refine ⟨_, rfl, _, rfl, ga, gt gs i, n + gs.length, rfl, (hGH.at_ i ga hga).same sm, fun H2 s2 => ⟨_, rfl, ?_⟩⟩
        cases e : Kp148.goodGate (n + gs.length) (gt gs i) with
        | true =>
          refine iteF ?_
          refine ⟨_, rfl, sm.trans s2, fun j hj => ?_⟩
          by_cases z : j = i
          · subst z; exact e
          · exact hall j (by omega)
        | false =>
          refine iteT ?_
          refine ⟨(by show 2 ≤ sizeLine; decide), fun r hr0 => ?_⟩
          have hbad := good_not hil e
          have hact : Kp149.act a (.start (some gs) n) = (a, .num (-22)) := by
            show (if Kp149.goodStart gs n = false then (a, Kp149.Ans.num (-22)) else (Kp149.start gs n, Kp149.Ans.num 0)) = _
            rw [if_pos hbad]
          rw [hact] at k
          have S2 := sm.trans s2
          exact Ends'.tell k (sB.trans S2) (bd.same (Same.off S2)) hr0
      · obtain ⟨x4, rfl, sm, hall⟩ := hP
        have hgood : Kp149.goodStart gs n = true := good_all fun j hj => hall j (by rw [List.length_map, hG.len]; exact hj)
        have hact : Kp149.act a (.start (some gs) n) = (Kp149.start gs n, .num 0) := by
          show (if Kp149.goodStart gs n = false then (a, Kp149.Ans.num (-22)) else (Kp149.start gs n, Kp149.Ans.num 0)) = _
          rw [if_neg (by rw [hgood]; simp)]
        rw [hact] at k
        obtain ⟨dx, nn, ii, ll, bb, ln, uu, wv, as0, us0, fs, hbd⟩ := bd
        have sB1 := sB.trans sm
        have bd1 := hbd.same (Same.off sm)
        have hpM := bd1.ob
        have hp1 := off_same _ _ _ _ hpM
        have hG1 := hG.same (Same.off sm)
        have hG1H := hG1.same (off_same _ _)
        refine ⟨_, rfl, p, dx, _, rfl, hp1, bd1.bf.no _ (by decide +kernel), _, rfl, _, rfl, ?_⟩
        intro x dn hx hdn nx
        have sM := same_made (C := t.N) hx hdn nx
        refine ⟨x, dn, n, l, as, gs, rfl, upd_same, hG1H.same sM, goodStart_iff.mp hgood, by omega, fun u us H2 hN hu hus kp => ⟨rfl, ?_⟩⟩
        have s2 : Same H' H2 := Same.made hx hdn kp
        have sB2 := sB1.trans s2
        have hp2 := s2 _ _ hp1
        have hp2M : Off H2 B p = some (.ins t.B dx fs) := off_of hp2 (off_no hpM)
        have hG2 := hG1.same (Same.off s2)
        have N2 : NetAt t (Off H2 B) x n gs l u as us := by
          obtain ⟨d1, ho⟩ := hN.ob
          exact ⟨⟨d1, off_of ho (sB1.free hx)⟩, hG2, off_of hN.ul (sB1.free (sM.free hu)), hN.len, fun s a e => off_of (hN.use s a e) (sB1.free (sM.free (hus a (List.mem_of_getElem? e))))⟩
        refine ⟨p, x, dx, l, u, as, us, fs, n, gs, rfl, hp2, bd1.bf.fresh, hN, hgood, by omega, fun i l' b fs' H3 hp' hf hi hl2 hb hi' hl' hb' q1 q2 q3 kk => ?_⟩
        obtain ⟨h1, h2⟩ := bd_start N2 hp2M T.neBN T.neBG sB2 hgood (by omega) hp' hf hi hl2 hb hi' hl' hb' q1 q2 q3 kk
        refine ⟨(by show 2 ≤ sizeLine; decide), fun r hr0 => ?_⟩
        exact Ends'.tell k h2 h1 hr0
/-! ### board.tk_set(signal, bit) -/
def spSet (t : Adr) : Sp := fun vs H Q _ => ∃ (p : Addr) (B : Hp) (a : Kp149.Abs) (i b : Nat), vs = [.ref p, .int (i : Int), .int (b : Int)] ∧ Same B H ∧ Bd t (Off H B) p a ∧
  Ends' t B p (Kp149.act a (.set_ i b)).1 (Kp149Neutral.wrKp149_Ans (Kp149.act a (.set_ i b)).2) Q
theorem scSet : FnScope ["self", "signal", "bit"] ["self", "signal", "bit"] (defScope sSet) := ⟨rfl, rfl, rfl, by decide +kernel, rfl, by decide +kernel, by decide +kernel⟩
theorem vi_set1 {l : List Nat} {k x : Nat} : (vi l).set k (V.int (x : Int)) = vi (l.set k x) := by
  unfold vi
  rw [← List.map_set (f := fun n : Nat => V.int (n : Int)) (a := x)]
theorem ok_set {f : Addr} {fd : FuncData} (F : Fun K "tk_set" "Board.tk_set" sSet f fd) (T : Txt K mg t) : FnOk P w K mg base CX0 1 f fd ["self", "signal", "bit"] (spSet t) := by
  obtain ⟨u3, m3, r3⟩ := T.cFORM_NUMBER
  obtain ⟨u4, m4, r4⟩ := T.cNOT_VALID
  obtain ⟨u5, m5, r5⟩ := T.cDONE
  obtain ⟨uU, mU, rU⟩ := T.cUNSURE
  refine F.ok scSet (fun vs H Q E h => ?_) (fun cdv A outer s H vs Q E hr h => ?_)
  · obtain ⟨p, B, a, i, b, rfl, _⟩ := h
    rfl
  · obtain ⟨p, B, a, i, b, rfl, sB, bd, k⟩ := h
    refine ⟨_, pss_cons (ps_if (PW.pt (pw_or (pt_cmp (pc_ge (pv 1) (pe_fld (pe_fld (pv 0) rfl) rfl))) (pw_or1 (pt_cmp (pc_gt (pv 2) pe_int))))) (pss_one (ps_ret (pe_lst (pa_cons (pe_glob rfl m3 r3) (pa_cons (pe_glob rfl m4 r4) pa_nil))))) pss_nil)
      (pss_cons (ps_asg (pv 2) (pg_sub (pe_fld (pv 0) rfl) (pv 1) set_list))
      (pss_cons (ps_asg (pe_glob rfl mU rU) (pg_sub (pe_fld (pv 0) rfl) (pv 1) set_list))
      (pss_one (ps_ret (pe_lst (pa_cons (pe_glob rfl m3 r3) (pa_cons (pe_glob rfl m5 r5) pa_nil))))))), ?_⟩
    obtain ⟨dx, nn, ii, ll, bb, ln, uu, wv, as, us, fs, hb⟩ := id bd
    have so := off_same H B
    have hp := so _ _ hb.ob
    obtain ⟨dn, hob⟩ := hb.net.ob
    have hobH := so _ _ (hid2_same _ _ _ _ _ hob)
    have bad : (a.ins.length ≤ i ∨ 1 < b) → ∀ r, H r = none → Q (.ref r) (upd H r (.lst [V.int 0, V.int (-22)])) := fun c r hr0 => by
      have hact : Kp149.act a (.set_ i b) = (a, .num (-22)) := if_pos c
      rw [hact] at k
      exact Ends'.tell k sB bd hr0
    refine ⟨_, rfl, _, rfl, p, t.B, dx, _, _, rfl, hp, T.clB, T.tNet, hb.bf.net, nn, t.N, dn, _, _, rfl, hobH, T.clN, T.nInputs, nf_inputs _ _ _ _, _, _, rfl, rfl, _, rfl, ?_⟩
    refine ite2 (fun c => ?_) fun c => ?_
    · have c : (a.ins.length : Int) ≤ (i : Int) := of_decide_eq_true c
      refine iteT ⟨(by show 2 ≤ sizeLine; decide), fun r hr0 => bad (.inl (by omega)) r hr0⟩
    have c : ¬ (a.ins.length : Int) ≤ (i : Int) := fun z => c (decide_eq_true z)
    refine ⟨_, rfl, _, _, rfl, rfl, _, rfl, ?_⟩
    refine ite2 (fun c2 => ?_) fun c2 => ?_
    · have c2 : (1 : Int) < (b : Int) := of_decide_eq_true c2
      exact ⟨(by show 2 ≤ sizeLine; decide), fun r hr0 => bad (.inr (by omega)) r hr0⟩
    have c2 : ¬ (1 : Int) < (b : Int) := fun z => c2 (decide_eq_true z)
    have hi : i < a.ins.length := by omega
    have hb1 : b ≤ 1 := by omega
    have hil : i < a.loose.length := by rw [hb.ok.nl]; exact hi
    have hiH := so _ _ hb.i_
    have hlH := so _ _ hb.l_
    have npi : p ≠ ii := ne_of hb.ob hb.i_ (by intro q; cases q)
    have npl : p ≠ ll := ne_of hb.ob hb.l_ (by intro q; cases q)
    -- self.ins[signal] = bit
    refine ⟨_, rfl, _, rfl, p, t.B, dx, _, _, rfl, hp, T.clB, T.tIns, hb.bf.ins, _, rfl, ii, _, _, i, rfl, rfl, hiH, ixN_nat (by rw [List.length_map]; exact hi), ?_⟩
    rw [vi_set1]
    -- self.loose[signal] = UNSURE
    refine ⟨_, rfl, p, t.B, dx, _, _, rfl, (by rw [upd_ne npi]; exact hp), T.clB, T.tLoose, hb.bf.loose, _, rfl, ll, _, _, i, rfl, rfl, (by rw [upd_ne hb.nil_.symm]; exact hlH), ixN_nat (by rw [List.length_map]; exact hil), ?_⟩
    rw [show (V.int 2) = V.int ((2 : Nat) : Int) from rfl, vi_set1]
    have hact : Kp149.act a (.set_ i b) = ({ a with ins := a.ins.set i b, loose := a.loose.set i 2 }, .num 0) := if_neg (by omega)
    rw [hact] at k
    have hiB := off_no hb.i_
    have hlB := off_no hb.l_
    have kp : ∀ c o, H c = some o → c ≠ ii → c ≠ ll → (upd (upd H ii (.lst (vi (a.ins.set i b)))) ll (.lst (vi (a.loose.set i 2)))) c = some o := fun c o e h1 h2 => by rw [upd_ne h2, upd_ne h1]; exact e
    have hi2 : (upd (upd H ii (.lst (vi (a.ins.set i b)))) ll (.lst (vi (a.loose.set i 2)))) ii = some (.lst (vi (a.ins.set i b))) := by rw [upd_ne hb.nil_, upd_same]
    have hl2 : (upd (upd H ii (.lst (vi (a.ins.set i b)))) ll (.lst (vi (a.loose.set i 2)))) ll = some (.lst (vi (a.loose.set i 2))) := upd_same
    generalize upd (upd H ii (.lst (vi (a.ins.set i b)))) ll (.lst (vi (a.loose.set i 2))) = H2 at kp hi2 hl2
    have sB2 : Same B H2 := fun c o e => kp c o (sB c o e) (fun z => by rw [z, hiB] at e; cases e) (fun z => by rw [z, hlB] at e; cases e)
    have sH : Same (hid2 (Off H B) ii ll) (hid2 (Off H2 B) ii ll) := fun c o e => by
      obtain ⟨n1, n2⟩ := hid2_ne e
      have e1 := hid2_same _ _ _ c o e
      exact hid2_of (off_of (kp c o (so c o e1) n1 n2) (off_no e1)) n1 n2
    have bd2 : Bd t (Off H2 B) p { a with ins := a.ins.set i b, loose := a.loose.set i 2 } := by
      refine ⟨dx, nn, ii, ll, bb, ln, uu, wv, as, us, fs, off_of (kp p _ hp npi npl) (off_no hb.ob), hb.bf, ?_, off_of hi2 hiB, off_of hl2 hlB, hb.nil_, sH _ _ hb.b_, ?_, hb.ok.set hi hb1, ?_⟩
      · show NetAt t (hid2 (Off H2 B) ii ll) nn (a.ins.set i b).length a.gates ln uu as us
        rw [List.length_set]
        exact hb.net.same sH
      · rcases hb.w_ with ⟨h1, h2⟩ | ⟨tt, lw, h1, h2, h3⟩
        · exact .inl ⟨h1, h2⟩
        · refine .inr ⟨tt, lw, h1, h2, ?_⟩
          show hid2 (Off H2 B) ii ll lw = some (.lst (vz (wz (a.ins.set i b).length tt)))
          rw [List.length_set]
          exact sH _ _ h3
      · show (a.ins.set i b).length + a.gates.length ≤ 100000
        rw [List.length_set]; exact hb.sz
    refine ⟨(by show 2 ≤ sizeLine; decide), fun r hr0 => ?_⟩
    exact Ends'.tell k sB2 bd2 hr0
end
end Wb

namespace Wb
open PySem L2
theorem count_vi : ∀ v : List Nat, (vi v).countP (fun z => eqV z (V.int 2)) = Kp149.unsure v
  | [] => rfl
  | x :: r => by
    have ih := count_vi r
    unfold Kp149.unsure at ih ⊢
    show ((V.int (x : Int)) :: vi r).countP _ = _
    rw [List.countP_cons, ih, List.filter_cons]
    have e : eqV (V.int (x : Int)) (V.int 2) = (x == 2) := by
      by_cases q : x = 2
      · subst q; rfl
      · have h1 : (x == 2) = false := by simpa using q
        rw [h1]
        show decide ((x : Int) = 2) = false
        exact decide_eq_false (by omega)
    rw [e]
    cases (x == 2) <;> simp
theorem flat_vi (v : List Nat) : (vi v).all flatV = true := by
  rw [List.all_eq_true]
  intro x hx
  obtain ⟨n, _, rfl⟩ := List.mem_map.mp hx
  rfl
section
variable {P : Program} {w : World} {K : PySem.W.Frag} {mg : Str → Option Value} {base : Heap} {t : Adr}
/-! ### board.tk_wait() -/
def spWait (t : Adr) : Sp := fun vs H Q _ => ∃ (p : Addr) (B : Hp) (a : Kp149.Abs), vs = [.ref p] ∧ Same B H ∧ Bd t (Off H B) p a ∧
  Ends' t B p (Kp149.act a .wait).1 (Kp149Neutral.wrKp149_Ans (Kp149.act a .wait).2) Q
theorem scWait : FnScope ["self", "always", "rest", "time"] ["self"] (defScope sWait) := ⟨rfl, rfl, rfl, by decide +kernel, rfl, by decide +kernel, by decide +kernel⟩
/-- the fields behind a wait -/
theorem Bf.wait {fs : List (Str × V)} {n i l b : Addr} {wv : V} {g : Nat} (h : Bf fs n i l b wv g) (l' b' : Addr) (wv' : V) (g' : Nat) :
    Bf (putF "longest" (.int (g' : Int)) (putF "when" wv' (putF "loose" (.ref l') (putF "before" (.ref b') fs)))) n i l' b' wv' g' := by
  refine ⟨?_, ?_, ?_, ?_, ?_, look_same, fun m hm => ?_, ?_⟩
  · rw [look_put (by decide +kernel), look_put (by decide +kernel), look_put (by decide +kernel), look_put (by decide +kernel)]; exact h.net
  · rw [look_put (by decide +kernel), look_put (by decide +kernel), look_put (by decide +kernel), look_put (by decide +kernel)]; exact h.ins
  · rw [look_put (by decide +kernel), look_put (by decide +kernel), look_same]
  · rw [look_put (by decide +kernel), look_put (by decide +kernel), look_put (by decide +kernel), look_same]
  · rw [look_put (by decide +kernel), look_same]
  · rw [look_put (six_no hm (by decide +kernel)), look_put (six_no hm (by decide +kernel)), look_put (six_no hm (by decide +kernel)), look_put (six_no hm (by decide +kernel))]
    exact h.no m hm
  · rw [putF_old (x := .int (g : Int)), putF_old (x := wv), putF_old (x := .ref l), putF_old h.before]
    · exact h.len
    · rw [look_put (by decide +kernel)]; exact h.loose
    · rw [look_put (by decide +kernel), look_put (by decide +kernel)]; exact h.when_
    · rw [look_put (by decide +kernel), look_put (by decide +kernel), look_put (by decide +kernel)]; exact h.longest
theorem ok_wait {f fA fE fC : Addr} {fd fdA fdE fdC : FuncData} (F : Fun K "tk_wait" "Board.tk_wait" sWait f fd) (T : Txt K mg t) (DA : Df K mg "always_so" sAlways ["net", "loose", "before"] fA fdA) (DE : Df K mg "in_the_end" sEnd ["net", "ins", "always"] fE fdE)
    (DC : Df K mg "comes_to" sComes ["gate", "on"] fC fdC) (GE : FnOk P w K mg base CX0 4 fE fdE ["net", "ins", "always"] (spEnd t)) :
    FnOk P w K mg base CX0 5 f fd ["self"] (spWait t) := by
  have GA : FnOk P w K mg base CX0 2 fA fdA ["net", "loose", "before"] (spAlways t) := ok_always DA.F T DC
  obtain ⟨u3, m3, r3⟩ := T.cFORM_TIME
  obtain ⟨uU, mU, rU⟩ := T.cUNSURE
  refine F.ok scWait (fun vs H Q E h => ?_) (fun cdv A outer s H vs Q E hr h => ?_)
  · obtain ⟨p, B, a, rfl, _⟩ := h
    rfl
  · obtain ⟨p, B, a, rfl, sB, bd, k⟩ := h
    have hsl : (400000 : Nat) ≤ sizeLine := by decide
    have hr2 : Room 2 _ := hr.mono (by decide)
    refine ⟨_, pss_cons (ps_set (i := 1) scWait.nd rfl (Or.inl rfl) (pe_call GA hr2 rfl DA.g DA.F.kp DA.b .nil pass0 (pa_cons (pe_fld (pv 0) rfl) (pa_cons (pe_fld (pv 0) rfl) (pa_cons (pe_fld (pv 0) rfl) pa_nil)))))
      (pss_cons (ps_set (i := 2) scWait.nd rfl (Or.inl rfl) (pe_call GE hr rfl DE.g DE.F.kp DE.b .nil pass0 (pa_cons (pe_fld (pv 0) rfl) (pa_cons (pe_fld (pv 0) rfl) (pa_cons (pv 1) pa_nil)))))
      (pss_cons (ps_fld (pv 0) (pe_slice sl_list (pe_fld (pv 2) rfl) (po_some (pe_fld (pe_fld (pv 0) rfl) rfl)) po_none) rfl)
      (pss_cons (ps_fld (pv 0) (pe_callTy call_list_of (by rfl) T.bList PyProof.Rows.boot_list (pa_cons (pe_fld (pv 0) rfl) pa_nil)) rfl)
      (pss_cons (ps_fld (pv 0) (pe_fld (pv 2) rfl) rfl)
      (pss_cons (ps_set (i := 3) scWait.nd rfl (Or.inl rfl) (pe_callB (cr_max rfl) (by rfl) T.bMax PyProof.Rows.boot_max (pa_cons (pe_op op_cat (pe_lst (pa_cons pe_int pa_nil)) (pe_fld (pv 2) rfl)) pa_nil)))
      (pss_cons (ps_fld (pv 0) (pe_callB (cr_max2 rfl) (by rfl) T.bMax PyProof.Rows.boot_max (pa_cons (pe_fld (pv 0) rfl) (pa_cons (pv 3) pa_nil))) rfl)
      (pss_one (ps_ret (pe_lst (pa_cons (pe_glob rfl m3 r3) (pa_cons (pe_bm PySem.F.plainAttrs_list PySem.F.slot_list_count PySem.F.type_list_count mt_count_ls (pe_fld (pv 0) rfl) (pa_cons (pe_glob rfl mU rU) pa_nil)) (pa_cons (pv 3) pa_nil)))))))))))), ?_⟩
    obtain ⟨dx, nn, ii, ll, bb, ln, uu, wv, as, us, fs, hb⟩ := id bd
    have so := off_same H B
    have hp := so _ _ hb.ob
    have hNM := hb.net.same (hid2_same _ _ _)
    have hN := hNM.same so
    have hiH := so _ _ hb.i_
    have hlH := so _ _ hb.l_
    have hbM := hid2_same _ _ _ _ _ hb.b_
    have hbH := so _ _ hbM
    have A0 := hb.ok
    have hpB := off_no hb.ob
    -- always = always_so(self.net, self.loose, self.before)
    refine ⟨_, rfl, p, t.B, dx, _, _, rfl, hp, T.clB, T.tNet, hb.bf.net, _, rfl, p, t.B, dx, _, _, rfl, hp, T.clB, T.tLoose, hb.bf.loose, _, rfl, p, t.B, dx, _, _, rfl, hp, T.clB, T.tBefore, hb.bf.before, ?_⟩
    refine ⟨nn, ll, bb, ln, uu, as, us, a.ins.length, a.gates, a.loose, a.v, rfl, hN, hlH, hbH, A0.nl, A0.nv, A0.fit, A0.l2, A0.v2, hb.sz, fun r H1 hr0 hr1 s1 => ?_⟩
    have hp1 := s1 _ _ hp
    -- rest = in_the_end(self.net, self.ins, always)
    refine ⟨_, rfl, p, t.B, dx, _, _, rfl, hp1, T.clB, T.tNet, hb.bf.net, _, rfl, p, t.B, dx, _, _, rfl, hp1, T.clB, T.tIns, hb.bf.ins, _, rfl, ?_⟩
    refine ⟨nn, ii, r, ln, uu, as, us, a.gates, a.loose, a.ins, Kp148.always a.gates a.loose a.v, Kp148.atRest a.gates a.loose a.ins a.v, rfl, hN.same s1, s1 _ _ hiH, hr1, A0.nl, A0.stat, A0.fit, hb.sz, fun rp dr lo lw v tt now H2 I hrp hlo hlw nlw hrp0 hlo0 hlw0 s2 => ?_⟩
    obtain ⟨e1, e2, hW⟩ := A0.wait I
    have hrp0 : H rp = none := s1.free hrp0
    have hlw0 : H lw = none := s1.free hlw0
    have hsz := hb.sz
    have s12 := s1.trans s2
    have hp2 := s12 _ _ hp
    have N2 := hN.same s12
    obtain ⟨dn2, hob2⟩ := N2.ob
    have hvl : v.length = a.gates.length := I.lv
    have htl : tt.length = a.gates.length := I.lt
    -- self.before = rest.on[self.net.inputs:]
    refine ⟨_, rfl, rp, t.R, dr, _, _, rfl, hrp, T.clR, T.rOn, rf_on _ _, _, rfl, p, t.B, dx, _, _, rfl, hp2, T.clB, T.tNet, hb.bf.net, nn, t.N, dn2, _, _, rfl, hob2, T.clN, T.nInputs, nf_inputs _ _ _ _, _, rfl, lo, _, rfl, SqL.of hlo, fun b2 hb2 => ?_⟩
    rw [cut_from]
    have s3 : Same H2 (upd H2 b2 (.lst (vi v))) := Same.new hb2
    have hb3 : (upd H2 b2 (.lst (vi v))) b2 = some (.lst (vi v)) := upd_same
    have hl6 := hb.bf.len
    refine ⟨_, rfl, p, t.B, dx, _, rfl, s3 _ _ hp2, T.clB, T.tBefore, by omega, ?_⟩
    generalize upd H2 b2 (.lst (vi v)) = H3 at s3 hb3
    have npb2 : p ≠ b2 := ne_of_none hp2 hb2
    have k4 : ∀ c o, H3 c = some o → c ≠ p → (upd H3 p (.ins t.B dx (putF "before" (.ref b2) fs))) c = some o := fun c o e hc => by rw [upd_ne hc]; exact e
    have hp4 : (upd H3 p (.ins t.B dx (putF "before" (.ref b2) fs))) p = some (.ins t.B dx (putF "before" (.ref b2) fs)) := upd_same
    have f4 : ∀ c, (upd H3 p (.ins t.B dx (putF "before" (.ref b2) fs))) c = none → H3 c = none := fun c e => by
      by_cases z : c = p
      · subst z; rw [upd_same] at e; cases e
      · rw [upd_ne z] at e; exact e
    generalize upd H3 p (.ins t.B dx (putF "before" (.ref b2) fs)) = H4 at k4 hp4 f4
    have npi : p ≠ ii := ne_of hp hiH (by intro q; cases q)
    have hi4 := k4 _ _ (s3 _ _ (s12 _ _ hiH)) npi.symm
    have hq1 := putF_len (fs := fs) (g := "before") (v := .ref b2)
    -- self.loose = list(self.ins)
    have eins : (putF "before" (.ref b2) fs).lookup ("ins" : Str) = some (.ref ii) := by rw [look_put (by decide +kernel)]; exact hb.bf.ins
    refine ⟨_, rfl, p, t.B, dx, _, _, rfl, hp4, T.clB, T.tIns, eins, ii, _, rfl, .inl (SqL.of hi4), fun l2 hl2 => ?_⟩
    have s5 : Same H4 (upd H4 l2 (.lst (vi a.ins))) := Same.new hl2
    have hl5 : (upd H4 l2 (.lst (vi a.ins))) l2 = some (.lst (vi a.ins)) := upd_same
    refine ⟨_, rfl, p, t.B, dx, _, rfl, s5 _ _ hp4, T.clB, T.tLoose, by omega, ?_⟩
    generalize upd H4 l2 (.lst (vi a.ins)) = H5 at s5 hl5
    have npl2 : p ≠ l2 := ne_of_none hp4 hl2
    have hq2 := putF_len (fs := putF "before" (.ref b2) fs) (g := "loose") (v := .ref l2)
    -- self.when = rest.when
    have nrp : rp ≠ p := fun z => by rw [z, hp] at hrp0; cases hrp0
    have k6 : ∀ c o, H5 c = some o → c ≠ p → (upd H5 p (.ins t.B dx (putF "loose" (.ref l2) (putF "before" (.ref b2) fs)))) c = some o := fun c o e hc => by rw [upd_ne hc]; exact e
    have hp6 : (upd H5 p (.ins t.B dx (putF "loose" (.ref l2) (putF "before" (.ref b2) fs)))) p = some (.ins t.B dx (putF "loose" (.ref l2) (putF "before" (.ref b2) fs))) := upd_same
    have f6 : ∀ c, (upd H5 p (.ins t.B dx (putF "loose" (.ref l2) (putF "before" (.ref b2) fs)))) c = none → H5 c = none := fun c e => by
      by_cases z : c = p
      · subst z; rw [upd_same] at e; cases e
      · rw [upd_ne z] at e; exact e
    generalize upd H5 p (.ins t.B dx (putF "loose" (.ref l2) (putF "before" (.ref b2) fs))) = H6 at k6 hp6 f6
    have up26 : ∀ c o, H2 c = some o → c ≠ p → H6 c = some o := fun c o e hc => k6 c o (s5 c o (k4 c o (s3 c o e) hc)) hc
    have hrp6 := up26 _ _ hrp nrp
    have hq3 := putF_len (fs := putF "loose" (.ref l2) (putF "before" (.ref b2) fs)) (g := "when") (v := .ref lw)
    refine ⟨_, rfl, rp, t.R, dr, _, _, rfl, hrp6, T.clR, T.rWhen, rf_when _ _, _, rfl, p, t.B, dx, _, rfl, hp6, T.clB, T.tWhen, by omega, ?_⟩
    have k7 : ∀ c o, H6 c = some o → c ≠ p → (upd H6 p (.ins t.B dx (putF "when" (.ref lw) (putF "loose" (.ref l2) (putF "before" (.ref b2) fs))))) c = some o := fun c o e hc => by rw [upd_ne hc]; exact e
    have hp7 : (upd H6 p (.ins t.B dx (putF "when" (.ref lw) (putF "loose" (.ref l2) (putF "before" (.ref b2) fs))))) p = some (.ins t.B dx (putF "when" (.ref lw) (putF "loose" (.ref l2) (putF "before" (.ref b2) fs)))) := upd_same
    generalize upd H6 p (.ins t.B dx (putF "when" (.ref lw) (putF "loose" (.ref l2) (putF "before" (.ref b2) fs)))) = H7 at k7 hp7
    have up27 : ∀ c o, H2 c = some o → c ≠ p → H7 c = some o := fun c o e hc => k7 c o (up26 c o e hc) hc
    have nlwp : lw ≠ p := fun z => by rw [z, hp] at hlw0; cases hlw0
    have hrp7 := up27 _ _ hrp nrp
    have hlw7 := up27 _ _ hlw nlwp
    -- time = max([0] + rest.when)
    refine ⟨(by show 1 ≤ sizeLine; decide), fun c1 hc1 => ?_⟩
    have s8 : Same H7 (upd H7 c1 (.lst [V.int 0])) := Same.new hc1
    refine ⟨_, rfl, rp, t.R, dr, _, _, rfl, s8 _ _ hrp7, T.clR, T.rWhen, rf_when _ _, c1, lw, _, _, rfl, rfl, upd_same, s8 _ _ hlw7, ?_, fun c2 hc2 => ?_⟩
    · simp only [vz, List.length_map, wz_len, List.length_cons, List.length_nil]; omega
    have s9 := s8.trans (Same.new (o := .lst ([V.int 0] ++ vz (wz a.ins.length tt))) hc2)
    refine ⟨c2, (0 : Int) :: wz a.ins.length tt, rfl, SqL.of (by rw [upd_same]; rfl), by simp, fun mx h1 h2 => ?_⟩
    have emx := longest_of h1 h2
    subst emx
    generalize upd (upd H7 c1 (.lst [V.int 0])) c2 (.lst ([V.int 0] ++ vz (wz a.ins.length tt))) = H9 at s9
    have hp9 := s9 _ _ hp7
    have hq4 := putF_len (fs := putF "when" (.ref lw) (putF "loose" (.ref l2) (putF "before" (.ref b2) fs))) (g := "longest") (v := .int (max (a.longest : Int) (Kp149.longestOf tt : Int)))
    -- self.longest = max(self.longest, time)
    have elong : (putF "when" (.ref lw) (putF "loose" (.ref l2) (putF "before" (.ref b2) fs))).lookup ("longest" : Str) = some (.int (a.longest : Int)) := by
      rw [look_put (by decide +kernel), look_put (by decide +kernel), look_put (by decide +kernel)]; exact hb.bf.longest
    refine ⟨_, rfl, p, t.B, dx, _, _, rfl, hp9, T.clB, T.tLongest, elong, _, rfl, _, _, rfl, _, rfl, p, t.B, dx, _, rfl, hp9, T.clB, T.tLongest, by omega, ?_⟩
    have emax : max (a.longest : Int) (Kp149.longestOf tt : Int) = ((max a.longest (Kp149.longestOf tt) : Nat) : Int) := by omega
    rw [emax]
    have hbf := hb.bf.wait l2 b2 (.ref lw) (max a.longest (Kp149.longestOf tt))
    have k10 : ∀ c o, H9 c = some o → c ≠ p → (upd H9 p (.ins t.B dx (putF "longest" (.int ((max a.longest (Kp149.longestOf tt) : Nat) : Int)) (putF "when" (.ref lw) (putF "loose" (.ref l2) (putF "before" (.ref b2) fs)))))) c = some o := fun c o e hc => by rw [upd_ne hc]; exact e
    have hp10 : (upd H9 p (.ins t.B dx (putF "longest" (.int ((max a.longest (Kp149.longestOf tt) : Nat) : Int)) (putF "when" (.ref lw) (putF "loose" (.ref l2) (putF "before" (.ref b2) fs)))))) p = some (.ins t.B dx (putF "longest" (.int ((max a.longest (Kp149.longestOf tt) : Nat) : Int)) (putF "when" (.ref lw) (putF "loose" (.ref l2) (putF "before" (.ref b2) fs))))) := upd_same
    generalize upd H9 p (.ins t.B dx (putF "longest" (.int ((max a.longest (Kp149.longestOf tt) : Nat) : Int)) (putF "when" (.ref lw) (putF "loose" (.ref l2) (putF "before" (.ref b2) fs))))) = H10 at k10 hp10
    generalize putF "longest" (.int ((max a.longest (Kp149.longestOf tt) : Nat) : Int)) (putF "when" (.ref lw) (putF "loose" (.ref l2) (putF "before" (.ref b2) fs))) = fs' at hbf hp10
    have up : ∀ c o, H2 c = some o → c ≠ p → H10 c = some o := fun c o e hc => k10 c o (s9 c o (up27 c o e hc)) hc
    have hb10 : H10 b2 = some (.lst (vi v)) := k10 _ _ (s9 _ _ (k7 _ _ (k6 _ _ (s5 _ _ (k4 _ _ hb3 npb2.symm)) npb2.symm) npb2.symm)) npb2.symm
    have hl10 : H10 l2 = some (.lst (vi a.ins)) := k10 _ _ (s9 _ _ (k7 _ _ (k6 _ _ hl5 npl2.symm) npl2.symm)) npl2.symm
    have hi10 := up _ _ (s12 _ _ hiH) npi.symm
    have hlw10 := up _ _ hlw nlwp
    have sB10 : Same B H10 := fun c o e => up c o (s12 c o (sB c o e)) (fun z => by rw [z, hpB] at e; cases e)
    have hl2H : H l2 = none := s12.free (s3.free (f4 _ hl2))
    have hb2H : H b2 = none := s12.free hb2
    have nil2 : ii ≠ l2 := ne_of_none hiH hl2H
    have nbi : b2 ≠ ii := (ne_of_none hiH hb2H).symm
    have nbl : b2 ≠ l2 := by
      have : H4 b2 = some (.lst (vi v)) := k4 _ _ hb3 npb2.symm
      exact ne_of_none this hl2
    have nwi : lw ≠ ii := (ne_of_none hiH hlw0).symm
    have nwl : lw ≠ l2 := by
      have : H4 lw = some (.lst (vz (wz a.ins.length tt))) := k4 _ _ (s3 _ _ hlw) nlwp
      exact ne_of_none this hl2
    have nNi : NetAt t (hid2 (Off H10 B) ii l2) nn a.ins.length a.gates ln uu as us := by
      have hpI : hid2 (Off H B) ii ll p = some (.ins t.B dx fs) := hid2_of hb.ob npi (ne_of hp hlH (by intro q; cases q))
      refine hb.net.off hpI T.neBN T.neBG fun c o e hc => ?_
      obtain ⟨n1, n2⟩ := hid2_ne e
      have e1 := hid2_same _ _ _ c o e
      have e2 := so c o e1
      exact hid2_of (off_of (up c o (s12 c o e2) hc) (off_no e1)) n1 (ne_of_none e2 hl2H)
    have bd10 : Bd t (Off H10 B) p (Kp149.waited a) := by
      refine ⟨dx, nn, ii, l2, b2, ln, uu, .ref lw, as, us, fs', off_of hp10 hpB, ?_, nNi, off_of hi10 (off_no hb.i_), off_of hl10 (sB.free hl2H), nil2, hid2_of (off_of ?_ (sB.free hb2H)) nbi nbl, ?_, hW, hb.sz⟩
      · show Bf fs' nn ii l2 b2 (.ref lw) (max a.longest (Kp149.longestOf (Kp149.timesNow a)))
        rw [← e2]; exact hbf
      · show H10 b2 = some (.lst (vi (Kp149.restNow a)))
        rw [← e1]; exact hb10
      · refine .inr ⟨tt, lw, ?_, rfl, hid2_of (off_of hlw10 (sB.free hlw0)) nwi nwl⟩
        show some (Kp149.timesNow a) = some tt
        rw [e2]
    -- return [FORM_TIME, self.before.count(UNSURE), time]
    have hp10' := hp10
    refine ⟨_, rfl, p, t.B, dx, _, _, rfl, hp10, T.clB, T.tBefore, hbf.before, .inl ⟨rfl, _, SqL.of hb10⟩, b2, _, _, rfl, rfl, SqL.of hb10, rfl, flat_vi _, _, rfl, (by show 3 ≤ sizeLine; decide), fun r2 hr2' => ?_⟩
    rw [count_vi]
    have hact : Kp149.act a .wait = (Kp149.waited a, .time (Kp149.unsure (Kp149.restNow a) : Nat) (Kp149.longestOf (Kp149.timesNow a))) := rfl
    rw [hact, ← e1, ← e2] at k
    exact Ends'.tell k sB10 bd10 hr2'
end
end Wb

namespace Wb
open PySem L2
/-- why there is no time to go by -/
def refuse (a : Kp149.Abs) (k : Nat) : Int := if Kp149.signals a ≤ k then -22 else match a.when_ with
  | none => -11
  | some t => match Kp148.timeOf a.ins t k with
    | none => -2
    | some _ => 0
theorem wr_out (l : List Nat) : Kp149Neutral.wrKp149_Ans (.out l) = (2 : Int) :: (l.length : Int) :: l.map fun n : Nat => (n : Int) := by
  show [2] ++ ((l.length : Int) :: l.flatMap Kp149Neutral.wrNat) = _
  have e : l.flatMap Kp149Neutral.wrNat = l.map fun n : Nat => (n : Int) := by
    induction l with
    | nil => rfl
    | cons x r ih => rw [List.flatMap_cons, ih]; rfl
  rw [e]; rfl
section
variable {P : Program} {w : World} {K : PySem.W.Frag} {mg : Str → Option Value} {base : Heap} {t : Adr}
/-! ### board.tk_get(signal) -/
def spGet (t : Adr) : Sp := fun vs H Q _ => ∃ (p : Addr) (B : Hp) (a : Kp149.Abs) (k : Nat), vs = [.ref p, .int (k : Int)] ∧ Same B H ∧ Bd t (Off H B) p a ∧
  Ends' t B p (Kp149.act a (.get k)).1 (Kp149Neutral.wrKp149_Ans (Kp149.act a (.get k)).2) Q
theorem scGet : FnScope ["self", "signal"] ["self", "signal"] (defScope sGet) := ⟨rfl, rfl, rfl, by decide +kernel, rfl, by decide +kernel, by decide +kernel⟩
theorem ok_get {f fA fC : Addr} {fd fdA fdC : FuncData} (F : Fun K "tk_get" "Board.tk_get" sGet f fd) (T : Txt K mg t) (DA : Df K mg "always_so" sAlways ["net", "loose", "before"] fA fdA) (DC : Df K mg "comes_to" sComes ["gate", "on"] fC fdC) :
    FnOk P w K mg base CX0 3 f fd ["self", "signal"] (spGet t) := by
  have GA : FnOk P w K mg base CX0 2 fA fdA ["net", "loose", "before"] (spAlways t) := ok_always DA.F T DC
  obtain ⟨u3, m3, r3⟩ := T.cFORM_NUMBER
  obtain ⟨u4, m4, r4⟩ := T.cNOT_VALID
  refine F.ok scGet (fun vs H Q E h => ?_) (fun cdv A outer s H vs Q E hr h => ?_)
  · obtain ⟨p, B, a, k, rfl, _⟩ := h
    rfl
  · obtain ⟨p, B, a, q, rfl, sB, bd, k⟩ := h
    refine ⟨_, pss_cons (ps_if (pt_cmp (pc_ge (pv 1) (pe_fld (pe_fld (pv 0) rfl) rfl))) (pss_one (ps_ret (pe_lst (pa_cons (pe_glob rfl m3 r3) (pa_cons (pe_glob rfl m4 r4) pa_nil))))) pss_nil)
      (pss_cons (ps_if (pt_cmp (pc_lt (pv 1) (pe_fld (pe_fld (pv 0) rfl) rfl))) (pss_one (ps_ret (pe_lst (pa_cons (pe_glob rfl m3 r3) (pa_cons (pe_ix ix_list (pe_fld (pv 0) rfl) (pv 1) (fun _ _ => rfl)) pa_nil))))) pss_nil)
      (pss_one (ps_ret (pe_lst (pa_cons (pe_glob rfl m3 r3) (pa_cons (pe_ix ix_list (pe_call GA hr rfl DA.g DA.F.kp DA.b .nil pass0 (pa_cons (pe_fld (pv 0) rfl) (pa_cons (pe_fld (pv 0) rfl) (pa_cons (pe_fld (pv 0) rfl) pa_nil)))) (pv 1) (fun _ _ => rfl)) pa_nil)))))), ?_⟩
    obtain ⟨dx, nn, ii, ll, bb, ln, uu, wv, as, us, fs, hb⟩ := id bd
    have so := off_same H B
    have hp := so _ _ hb.ob
    have hN := (hb.net.same (hid2_same _ _ _)).same so
    obtain ⟨dn, hob⟩ := hN.ob
    have A0 := hb.ok
    refine ⟨_, rfl, _, rfl, p, t.B, dx, _, _, rfl, hp, T.clB, T.tNet, hb.bf.net, nn, t.N, dn, _, _, rfl, hob, T.clN, T.nSignals, nf_signals _ _ _ _, _, _, rfl, rfl, _, rfl, ?_⟩
    refine ite2 (fun c => ?_) fun c => ?_
    · have c : ((a.ins.length + a.gates.length : Nat) : Int) ≤ (q : Int) := of_decide_eq_true c
      have hact : Kp149.act a (.get q) = (a, .num (-22)) := by
        show (a, Kp149.Ans.num (if a.ins.length + a.gates.length ≤ q then -22 else _)) = _
        rw [if_pos (by omega)]
      rw [hact] at k
      exact ⟨(by show 2 ≤ sizeLine; decide), fun r hr0 => Ends'.tell k sB bd hr0⟩
    have c : ¬ ((a.ins.length + a.gates.length : Nat) : Int) ≤ (q : Int) := fun z => c (decide_eq_true z)
    have hact : Kp149.act a (.get q) = (a, .num (Kp149.now a q : Nat)) := by
      show (a, Kp149.Ans.num (if a.ins.length + a.gates.length ≤ q then -22 else _)) = _
      rw [if_neg (by omega)]
    rw [hact] at k
    refine ⟨_, rfl, _, rfl, p, t.B, dx, _, _, rfl, hp, T.clB, T.tNet, hb.bf.net, nn, t.N, dn, _, _, rfl, hob, T.clN, T.nInputs, nf_inputs _ _ _ _, _, _, rfl, rfl, _, rfl, ?_⟩
    refine ite2 (fun c2 => ?_) fun c2 => ?_
    · have c2 : (q : Int) < (a.ins.length : Int) := of_decide_eq_true c2
      have hq : q < a.ins.length := by omega
      have en : Kp149.now a q = Kp148.on a.ins q := if_pos hq
      rw [en] at k
      refine ⟨_, rfl, p, t.B, dx, _, _, rfl, hp, T.clB, T.tIns, hb.bf.ins, _, rfl, ii, _, _, _, rfl, rfl, SqL.of (so _ _ hb.i_), atI_nat (vi_at hq), (by show 2 ≤ sizeLine; decide), fun r hr0 => ?_⟩
      exact Ends'.tell k sB bd hr0
    · have c2 : ¬ (q : Int) < (a.ins.length : Int) := fun z => c2 (decide_eq_true z)
      have en : Kp149.now a q = Kp148.on (Kp148.always a.gates a.loose a.v) (q - a.ins.length) := if_neg (by omega)
      rw [en] at k
      refine ⟨_, rfl, p, t.B, dx, _, _, rfl, hp, T.clB, T.tNet, hb.bf.net, _, rfl, p, t.B, dx, _, _, rfl, hp, T.clB, T.tLoose, hb.bf.loose, _, rfl, p, t.B, dx, _, _, rfl, hp, T.clB, T.tBefore, hb.bf.before, ?_⟩
      refine ⟨nn, ll, bb, ln, uu, as, us, a.ins.length, a.gates, a.loose, a.v, rfl, hN, so _ _ hb.l_, so _ _ (hid2_same _ _ _ _ _ hb.b_), A0.nl, A0.nv, A0.fit, A0.l2, A0.v2, hb.sz, fun r H1 hr0 hr1 s1 => ?_⟩
      have hal : (Kp148.always a.gates a.loose a.v).length = a.gates.length := always_len A0.nv
      have eon : Kp148.on (a.loose ++ Kp148.always a.gates a.loose a.v) q = Kp148.on (Kp148.always a.gates a.loose a.v) (q - a.ins.length) := by
        rw [on_app, if_neg (by rw [A0.nl]; omega), A0.nl]
      refine ⟨_, rfl, r, _, _, V.int (Kp148.on (a.loose ++ Kp148.always a.gates a.loose a.v) q : Nat), rfl, rfl, SqL.of hr1, atI_nat (vi_at (by rw [List.length_append, hal, A0.nl]; omega)), (by show 2 ≤ sizeLine; decide), fun r2 hr2 => ?_⟩
      rw [eon]
      exact Ends'.tell k (sB.trans s1) (bd.same (Same.off s1)) hr2
/-! ### board.time_refusal(signal) -/
def spRefusal (t : Adr) : Sp := fun vs H Q _ => ∃ (p : Addr) (B : Hp) (a : Kp149.Abs) (k : Nat), vs = [.ref p, .int (k : Int)] ∧ Bd t (Off H B) p a ∧ Q (.int (refuse a k)) H
theorem scRefusal : FnScope ["self", "signal"] ["self", "signal"] (defScope sRefusal) := ⟨rfl, rfl, rfl, by decide +kernel, rfl, by decide +kernel, by decide +kernel⟩
theorem ok_refusal {f : Addr} {fd : FuncData} (F : Fun K "time_refusal" "Board.time_refusal" sRefusal f fd) (T : Txt K mg t) : FnOk P w K mg base CX0 1 f fd ["self", "signal"] (spRefusal t) := by
  obtain ⟨u1, m1, r1⟩ := T.cNOT_VALID
  obtain ⟨u2, m2, r2⟩ := T.cNO_WAIT
  obtain ⟨u3, m3, r3⟩ := T.cNOT_TOLD
  obtain ⟨u4, m4, r4⟩ := T.cDONE
  obtain ⟨uV, mV, rV⟩ := T.cNEVER
  refine F.ok scRefusal (fun vs H Q E h => ?_) (fun cdv A outer s H vs Q E hr h => ?_)
  · obtain ⟨p, B, a, k, rfl, _⟩ := h
    rfl
  · obtain ⟨p, B, a, q, rfl, bd, k⟩ := h
    refine ⟨_, pss_cons (ps_if (pt_cmp (pc_ge (pv 1) (pe_fld (pe_fld (pv 0) rfl) rfl))) (pss_one (ps_ret (pe_glob rfl m1 r1))) pss_nil)
      (pss_cons (ps_if (pt_cmp (pc_isN (pe_fld (pv 0) rfl))) (pss_one (ps_ret (pe_glob rfl m2 r2))) pss_nil)
      (pss_cons (ps_if (pt_cmp (pc_eqI (pe_ix ix_list (pe_fld (pv 0) rfl) (pv 1) (fun _ _ => rfl)) (pe_glob rfl mV rV))) (pss_one (ps_ret (pe_glob rfl m3 r3))) pss_nil)
      (pss_one (ps_ret (pe_glob rfl m4 r4))))), ?_⟩
    obtain ⟨dx, nn, ii, ll, bb, ln, uu, wv, as, us, fs, hb⟩ := id bd
    have so := off_same H B
    have hp := so _ _ hb.ob
    have hN := (hb.net.same (hid2_same _ _ _)).same so
    obtain ⟨dn, hob⟩ := hN.ob
    have A0 := hb.ok
    refine ⟨_, rfl, _, rfl, p, t.B, dx, _, _, rfl, hp, T.clB, T.tNet, hb.bf.net, nn, t.N, dn, _, _, rfl, hob, T.clN, T.nSignals, nf_signals _ _ _ _, _, _, rfl, rfl, _, rfl, ?_⟩
    refine ite2 (fun c => ?_) fun c => ?_
    · have c : ((a.ins.length + a.gates.length : Nat) : Int) ≤ (q : Int) := of_decide_eq_true c
      have e : refuse a q = -22 := if_pos (show a.ins.length + a.gates.length ≤ q by omega)
      rw [e] at k; exact k
    have c : ¬ ((a.ins.length + a.gates.length : Nat) : Int) ≤ (q : Int) := fun z => c (decide_eq_true z)
    have hql : q < a.ins.length + a.gates.length := by omega
    unfold refuse at k
    rw [if_neg (show ¬ Kp149.signals a ≤ q from fun z => by have z : a.ins.length + a.gates.length ≤ q := z; omega)] at k
    refine ⟨_, rfl, p, t.B, dx, _, _, rfl, hp, T.clB, T.tWhen, hb.bf.when_, _, rfl, ?_⟩
    rcases hb.w_ with ⟨h1, rfl⟩ | ⟨tt, lw, h1, rfl, h3⟩
    · rw [h1] at k
      exact iteT k
    · rw [h1] at k
      refine iteF ?_
      have htl := (A0.tms tt h1).1
      have hlw := so _ _ (hid2_same _ _ _ _ _ h3)
      have hat : atI (vz (wz a.ins.length tt)) (q : Int) = some (V.int (tz (Kp148.timeOf a.ins tt q))) := by
        refine atI_nat ?_
        rw [List.getElem?_map, wz_at A0.bits (by omega)]; rfl
      refine ⟨_, rfl, p, t.B, dx, _, _, rfl, hp, T.clB, T.tWhen, hb.bf.when_, _, rfl, lw, _, _, _, rfl, rfl, SqL.of hlw, hat, _, _, rfl, rfl, _, rfl, ?_⟩
      refine ite2 (fun c2 => ?_) fun c2 => ?_
      · have c2 : tz (Kp148.timeOf a.ins tt q) = -1 := of_decide_eq_true c2
        have e := tz_neg.mp c2
        simp only [e] at k
        exact k
      · have c2 : ¬ tz (Kp148.timeOf a.ins tt q) = -1 := fun z => c2 (decide_eq_true z)
        cases e : Kp148.timeOf a.ins tt q with
        | none => exact absurd (tz_neg.mpr e) c2
        | some y =>
          simp only [e] at k
          exact k
/-- with no refusal there is a time -/
theorem refuse_zero {a : Kp149.Abs} {k : Nat} (h : refuse a k = 0) : k < a.ins.length + a.gates.length ∧ ∃ tt y, a.when_ = some tt ∧ Kp148.timeOf a.ins tt k = some y := by
  unfold refuse at h
  by_cases c : Kp149.signals a ≤ k
  · rw [if_pos c] at h; cases h
  · rw [if_neg c] at h
    have c : ¬ a.ins.length + a.gates.length ≤ k := c
    refine ⟨by omega, ?_⟩
    cases e : a.when_ with
    | none => rw [e] at h; cases h
    | some tt =>
      rw [e] at h
      cases e2 : Kp148.timeOf a.ins tt k with
      | none => simp only [e2] at h; cases h
      | some y => exact ⟨tt, y, rfl, e2⟩
theorem act_when_no {a : Kp149.Abs} {k : Nat} (h : refuse a k ≠ 0) : Kp149.act a (.when_ k) = (a, .num (refuse a k)) ∧ ∀ r, Kp149.act a (.why k r) = (a, .num (refuse a k)) := by
  unfold refuse at h ⊢
  unfold Kp149.act
  by_cases c : Kp149.signals a ≤ k
  · simp only [if_pos c]; exact ⟨trivial, fun _ => trivial⟩
  · simp only [if_neg c] at h ⊢
    cases e : a.when_ with
    | none => exact ⟨rfl, fun _ => rfl⟩
    | some tt =>
      simp only [e] at h ⊢
      have ew : Kp149.whenOf a tt k = Kp148.timeOf a.ins tt k := rfl
      simp only [ew]
      cases e2 : Kp148.timeOf a.ins tt k with
      | none => exact ⟨rfl, fun _ => rfl⟩
      | some y => simp only [e2] at h; exact absurd rfl h
theorem act_when_yes {a : Kp149.Abs} {k y : Nat} {tt : Kp148.Times} (hk : k < a.ins.length + a.gates.length) (h1 : a.when_ = some tt) (h2 : Kp148.timeOf a.ins tt k = some y) :
    Kp149.act a (.when_ k) = (a, .time 0 y) ∧ ∀ r, Kp149.act a (.why k r) = (a, if r < (Kp149.way a tt a.gates.length k).length then .num (-28) else .out (Kp149.way a tt a.gates.length k)) := by
  have c : ¬ Kp149.signals a ≤ k := fun z => by have z : a.ins.length + a.gates.length ≤ k := z; omega
  unfold Kp149.act
  have ew : Kp149.whenOf a tt k = some y := h2
  simp only [if_neg c, h1, ew]
  exact ⟨trivial, fun _ => trivial⟩
/-! ### board.tk_when(signal) -/
def spWhen (t : Adr) : Sp := fun vs H Q _ => ∃ (p : Addr) (B : Hp) (a : Kp149.Abs) (k : Nat), vs = [.ref p, .int (k : Int)] ∧ Same B H ∧ Bd t (Off H B) p a ∧
  Ends' t B p (Kp149.act a (.when_ k)).1 (Kp149Neutral.wrKp149_Ans (Kp149.act a (.when_ k)).2) Q
theorem scWhen : FnScope ["self", "signal", "refusal"] ["self", "signal"] (defScope sWhen) := ⟨rfl, rfl, rfl, by decide +kernel, rfl, by decide +kernel, by decide +kernel⟩
theorem ok_when {f fR : Addr} {fd fdR : FuncData} (F : Fun K "tk_when" "Board.tk_when" sWhen f fd) (T : Txt K mg t) (MR : Mf K t.B "time_refusal" "Board.time_refusal" sRefusal ["self", "signal"] fR fdR) : FnOk P w K mg base CX0 2 f fd ["self", "signal"] (spWhen t) := by
  have GR : FnOk P w K mg base CX0 1 fR fdR ["self", "signal"] (spRefusal t) := ok_refusal MR.F T
  obtain ⟨u3, m3, r3⟩ := T.cFORM_NUMBER
  obtain ⟨u4, m4, r4⟩ := T.cFORM_TIME
  obtain ⟨u5, m5, r5⟩ := T.cDONE
  refine F.ok scWhen (fun vs H Q E h => ?_) (fun cdv A outer s H vs Q E hr h => ?_)
  · obtain ⟨p, B, a, k, rfl, _⟩ := h
    rfl
  · obtain ⟨p, B, a, q, rfl, sB, bd, k⟩ := h
    refine ⟨_, pss_cons (ps_set (i := 2) scWhen.nd rfl (Or.inl rfl) (pe_meth (pv 0) T.clB MR.m GR hr MR.b .nil pass0 (pa_cons (pv 1) pa_nil)))
      (pss_cons (ps_if (pt_cmp (pc_neI (pv 2) (pe_glob rfl m5 r5))) (pss_one (ps_ret (pe_lst (pa_cons (pe_glob rfl m3 r3) (pa_cons (pv 2) pa_nil))))) pss_nil)
      (pss_one (ps_ret (pe_lst (pa_cons (pe_glob rfl m4 r4) (pa_cons (pe_glob rfl m5 r5) (pa_cons (pe_ix ix_list (pe_fld (pv 0) rfl) (pv 1) (fun _ _ => rfl)) pa_nil))))))), ?_⟩
    obtain ⟨dx, nn, ii, ll, bb, ln, uu, wv, as, us, fs, hb⟩ := id bd
    have so := off_same H B
    have hp := so _ _ hb.ob
    have A0 := hb.ok
    refine ⟨_, rfl, p, dx, _, rfl, hp, hb.bf.no _ (by decide +kernel), _, rfl, p, B, a, q, rfl, bd, ?_⟩
    refine ⟨_, rfl, _, _, rfl, rfl, _, rfl, ?_⟩
    refine ite2 (fun c => ?_) fun c => ?_
    · have c : ¬ refuse a q = 0 := ne_of_test c
      rw [(act_when_no c).1] at k
      exact ⟨_, rfl, (by show 2 ≤ sizeLine; decide), fun r hr0 => Ends'.tell k sB bd hr0⟩
    · have c : refuse a q = 0 := eq_of_test c
      obtain ⟨hq, tt, y, h1, h2⟩ := refuse_zero c
      rw [(act_when_yes hq h1 h2).1] at k
      rcases hb.w_ with ⟨z1, z2⟩ | ⟨tt', lw, z1, rfl, h3⟩
      · rw [h1] at z1; cases z1
      rw [h1] at z1
      cases z1
      have htl := (A0.tms tt h1).1
      have hlw := so _ _ (hid2_same _ _ _ _ _ h3)
      have hat : atI (vz (wz a.ins.length tt)) (q : Int) = some (V.int (y : Int)) := by
        refine atI_nat ?_
        rw [List.getElem?_map, wz_at A0.bits (by omega), h2]; rfl
      refine ⟨_, rfl, p, t.B, dx, _, _, rfl, hp, T.clB, T.tWhen, hb.bf.when_, _, rfl, lw, _, _, _, rfl, rfl, SqL.of hlw, hat, (by show 3 ≤ sizeLine; decide), fun r hr0 => ?_⟩
      exact Ends'.tell k sB bd hr0
/-! ### board.tk_why(signal, room) -/
def spWhy (t : Adr) : Sp := fun vs H Q _ => ∃ (p : Addr) (B : Hp) (a : Kp149.Abs) (k room : Nat), vs = [.ref p, .int (k : Int), .int (room : Int)] ∧ Same B H ∧ Bd t (Off H B) p a ∧
  Ends' t B p (Kp149.act a (.why k room)).1 (Kp149Neutral.wrKp149_Ans (Kp149.act a (.why k room)).2) Q
theorem scWhy : FnScope ["self", "signal", "room", "refusal", "way"] ["self", "signal", "room"] (defScope sWhy) := ⟨rfl, rfl, rfl, by decide +kernel, rfl, by decide +kernel, by decide +kernel⟩
theorem ok_why {f fR fW fRe fS : Addr} {fd fdR fdW fdRe fdS : FuncData} (F : Fun K "tk_why" "Board.tk_why" sWhy f fd) (T : Txt K mg t) (MR : Mf K t.B "time_refusal" "Board.time_refusal" sRefusal ["self", "signal"] fR fdR)
    (DW : Df K mg "way_from" sWay ["net", "when", "signal"] fW fdW) (DR : Df K mg "reason" sReason ["gate", "time", "when"] fRe fdRe) (DS : Df K mg "sources" sSources ["gate"] fS fdS) : FnOk P w K mg base CX0 4 f fd ["self", "signal", "room"] (spWhy t) := by
  have GR : FnOk P w K mg base CX0 1 fR fdR ["self", "signal"] (spRefusal t) := ok_refusal MR.F T
  have GW : FnOk P w K mg base CX0 3 fW fdW ["net", "when", "signal"] (spWay t) := ok_way DW.F T DR DS
  obtain ⟨u3, m3, r3⟩ := T.cFORM_NUMBER
  obtain ⟨u4, m4, r4⟩ := T.cFORM_WAY
  obtain ⟨u5, m5, r5⟩ := T.cDONE
  obtain ⟨u6, m6, r6⟩ := T.cNO_ROOM
  refine F.ok scWhy (fun vs H Q E h => ?_) (fun cdv A outer s H vs Q E hr h => ?_)
  · obtain ⟨p, B, a, k, room, rfl, _⟩ := h
    rfl
  · obtain ⟨p, B, a, q, room, rfl, sB, bd, k⟩ := h
    have hsl : (400000 : Nat) ≤ sizeLine := by decide
    have hr1 : Room 1 _ := hr.mono (by decide)
    refine ⟨_, pss_cons (ps_set (i := 3) scWhy.nd rfl (Or.inl rfl) (pe_meth (pv 0) T.clB MR.m GR hr1 MR.b .nil pass0 (pa_cons (pv 1) pa_nil)))
      (pss_cons (ps_if (pt_cmp (pc_neI (pv 3) (pe_glob rfl m5 r5))) (pss_one (ps_ret (pe_lst (pa_cons (pe_glob rfl m3 r3) (pa_cons (pv 3) pa_nil))))) pss_nil)
      (pss_cons (ps_set (i := 4) scWhy.nd rfl (Or.inl rfl) (pe_call GW hr rfl DW.g DW.F.kp DW.b .nil pass0 (pa_cons (pe_fld (pv 0) rfl) (pa_cons (pe_fld (pv 0) rfl) (pa_cons (pv 1) pa_nil)))))
      (pss_cons (ps_if (pt_cmp (pc_gt (pe_callB call_len_seq (by rfl) T.bLen PySem.boot_len (pa_cons (pv 4) pa_nil)) (pv 2))) (pss_one (ps_ret (pe_lst (pa_cons (pe_glob rfl m3 r3) (pa_cons (pe_glob rfl m6 r6) pa_nil))))) pss_nil)
      (pss_one (ps_ret (pe_op op_cat (pe_lst (pa_cons (pe_glob rfl m4 r4) (pa_cons (pe_callB call_len_seq (by rfl) T.bLen PySem.boot_len (pa_cons (pv 4) pa_nil)) pa_nil))) (pv 4))))))), ?_⟩
    obtain ⟨dx, nn, ii, ll, bb, ln, uu, wv, as, us, fs, hb⟩ := id bd
    have so := off_same H B
    have hp := so _ _ hb.ob
    have A0 := hb.ok
    refine ⟨_, rfl, p, dx, _, rfl, hp, hb.bf.no _ (by decide +kernel), _, rfl, p, B, a, q, rfl, bd, ?_⟩
    refine ⟨_, rfl, _, _, rfl, rfl, _, rfl, ?_⟩
    refine ite2 (fun c => ?_) fun c => ?_
    · have c : ¬ refuse a q = 0 := ne_of_test c
      rw [(act_when_no c).2 room] at k
      exact ⟨_, rfl, (by show 2 ≤ sizeLine; decide), fun r hr0 => Ends'.tell k sB bd hr0⟩
    · have c : refuse a q = 0 := eq_of_test c
      obtain ⟨hq, tt, y, h1, h2⟩ := refuse_zero c
      rw [(act_when_yes hq h1 h2).2 room] at k
      rcases hb.w_ with ⟨z1, z2⟩ | ⟨tt', lw, z1, rfl, h3⟩
      · rw [h1] at z1; cases z1
      rw [h1] at z1
      cases z1
      have hN := (hb.net.same (hid2_same _ _ _)).same so
      have hlw := so _ _ (hid2_same _ _ _ _ _ h3)
      refine ⟨_, rfl, p, t.B, dx, _, _, rfl, hp, T.clB, T.tNet, hb.bf.net, _, rfl, p, t.B, dx, _, _, rfl, hp, T.clB, T.tWhen, hb.bf.when_, _, rfl, ?_⟩
      refine ⟨nn, lw, ln, uu, as, us, a, tt, q, rfl, hN, hlw, A0, h1, hq, by rw [h2]; simp, hb.sz, fun r H1 hr0 hr1 s1 => ?_⟩
      have hwl := way_len (a := a) (t := tt) a.gates.length q
      have hsz := hb.sz
      generalize Kp149.way a tt a.gates.length q = wy at k hr1 hwl
      have sB1 := sB.trans s1
      have bd1 := bd.same (Same.off s1)
      have elen : (((vi wy).length : Nat) : Int) = (wy.length : Int) := by rw [List.length_map]
      refine ⟨_, rfl, r, _, rfl, .inl (SqL.of hr1), _, rfl, _, _, rfl, rfl, _, rfl, ?_⟩
      refine ite2 (fun c2 => ?_) fun c2 => ?_
      · have c2 : (room : Int) < (((vi wy).length : Nat) : Int) := of_decide_eq_true c2
        rw [if_pos (by omega)] at k
        exact ⟨(by show 2 ≤ sizeLine; decide), fun r hr0 => Ends'.tell k sB1 bd1 hr0⟩
      · have c2 : ¬ (room : Int) < (((vi wy).length : Nat) : Int) := fun z => c2 (decide_eq_true z)
        rw [if_neg (by omega), wr_out] at k
        refine ⟨_, rfl, r, _, rfl, .inl (SqL.of hr1), (by show 2 ≤ sizeLine; decide), fun c1 hc1 => ?_⟩
        have s2 : Same H1 (upd H1 c1 (.lst [V.int 2, V.int (((vi wy).length : Nat) : Int)])) := Same.new hc1
        refine ⟨_, rfl, c1, r, _, _, rfl, rfl, upd_same, s2 _ _ hr1, by simp only [vi, List.length_cons, List.length_nil, List.length_map]; omega, fun r2 hr2 => ?_⟩
        have eout : [V.int 2, V.int (((vi wy).length : Nat) : Int)] ++ vi wy = vz ((2 : Int) :: (wy.length : Int) :: wy.map fun n : Nat => (n : Int)) := by
          rw [elen, vi_vz]
          rfl
        rw [eout]
        exact Ends'.tell k (sB1.trans s2) (bd1.same (Same.off s2)) hr2
/-! ### board.tk_longest() -/
def spLongest (t : Adr) : Sp := fun vs H Q _ => ∃ (p : Addr) (B : Hp) (a : Kp149.Abs), vs = [.ref p] ∧ Same B H ∧ Bd t (Off H B) p a ∧
  Ends' t B p (Kp149.act a .longest).1 (Kp149Neutral.wrKp149_Ans (Kp149.act a .longest).2) Q
theorem scLongest : FnScope ["self"] ["self"] (defScope sLongest) := ⟨rfl, rfl, rfl, by decide +kernel, rfl, by decide +kernel, by decide +kernel⟩
theorem ok_longest {f : Addr} {fd : FuncData} (F : Fun K "tk_longest" "Board.tk_longest" sLongest f fd) (T : Txt K mg t) : FnOk P w K mg base CX0 1 f fd ["self"] (spLongest t) := by
  obtain ⟨u4, m4, r4⟩ := T.cFORM_TIME
  obtain ⟨u5, m5, r5⟩ := T.cDONE
  refine F.ok scLongest (fun vs H Q E h => ?_) (fun cdv A outer s H vs Q E hr h => ?_)
  · obtain ⟨p, B, a, rfl, _⟩ := h
    rfl
  · obtain ⟨p, B, a, rfl, sB, bd, k⟩ := h
    refine ⟨_, pss_one (ps_ret (pe_lst (pa_cons (pe_glob rfl m4 r4) (pa_cons (pe_glob rfl m5 r5) (pa_cons (pe_fld (pv 0) rfl) pa_nil))))), ?_⟩
    obtain ⟨dx, nn, ii, ll, bb, ln, uu, wv, as, us, fs, hb⟩ := id bd
    have hp := off_same H B _ _ hb.ob
    refine ⟨_, rfl, p, t.B, dx, _, _, rfl, hp, T.clB, T.tLongest, hb.bf.longest, (by show 3 ≤ sizeLine; decide), fun r hr0 => ?_⟩
    exact Ends'.tell k sB bd hr0
end
end Wb

namespace Wb
open PySem L2
theorem encGs_at : ∀ (gs : List Kp148.Gate) (i : Nat), i < gs.length → (encGs gs)[4 * i]? = some ((gt gs i).kind : Int) ∧ (encGs gs)[4 * i + 1]? = some ((gt gs i).a : Int) ∧ (encGs gs)[4 * i + 2]? = some ((gt gs i).b : Int) ∧ (encGs gs)[4 * i + 3]? = some ((gt gs i).most : Int)
  | [], i, h => by simp at h
  | g :: r, 0, _ => by
    have e : encGs (g :: r) = encG g ++ encGs r := by unfold encGs; rw [List.flatMap_cons]
    rw [e]
    exact ⟨rfl, rfl, rfl, rfl⟩
  | g :: r, i + 1, h => by
    have e : encGs (g :: r) = encG g ++ encGs r := by unfold encGs; rw [List.flatMap_cons]
    have ih := encGs_at r i (by simpa using h)
    have eg : gt (g :: r) (i + 1) = gt r i := by unfold gt; simp
    rw [e, eg]
    have le : (encG g).length = 4 := rfl
    have sh : ∀ j, (encG g ++ encGs r)[4 * (i + 1) + j]? = (encGs r)[4 * i + j]? := fun j => by
      rw [List.getElem?_append_right (by omega), le]
      congr 1
      omega
    exact ⟨(sh 0).trans ih.1, (sh 1).trans ih.2.1, (sh 2).trans ih.2.2.1, (sh 3).trans ih.2.2.2⟩
theorem gs_at {gs : List Kp148.Gate} {i j : Nat} {x : Int} (h : (encGs gs)[4 * i + j]? = some x) : (vz (1 :: (gs.length : Int) :: encGs gs))[2 + 4 * i + j]? = some (V.int x) := by
  rw [List.getElem?_map]
  have e : 2 + 4 * i + j = (4 * i + j) + 1 + 1 := by omega
  rw [e, List.getElem?_cons_succ, List.getElem?_cons_succ, h]
  rfl
theorem rs4 (n : Nat) : Builtin.Range.rangeSize 2 ((2 + 4 * n : Nat) : Int) 4 = (n : Int) := by
  unfold Builtin.Range.rangeSize
  simp only [show (4 : Int) > 0 by decide, if_true]
  split <;> omega
theorem rgc4 {n : Nat} (h : n ≤ 100000) : RgC 2 ((2 + 4 * n : Nat) : Int) 4 n := by
  refine ⟨by decide, by decide, ?_, rs4 n⟩
  unfold Builtin.Range.small
  rw [rs4]
  have fl : ∀ z : Int, -(2 ^ 63) ≤ z → z < 2 ^ 63 → Builtin.Range.rangeFitsLong z = true := fun z h1 h2 => by
    unfold Builtin.Range.rangeFitsLong
    rw [decide_eq_true h1, decide_eq_true h2]; rfl
  rw [fl 2 (by decide) (by decide), fl _ (by omega) (by omega), fl 4 (by decide) (by decide), fl _ (by omega) (by omega)]
  rw [if_pos (by decide), fl _ (by omega) (by omega)]
  simp
section
variable {P : Program} {w : World} {K : PySem.W.Frag} {mg : Str → Option Value} {base : Heap} {t : Adr}
/-! ### read_gates(g) -/
def encO : Option (List Kp148.Gate) → List Int
  | none => [0]
  | some gs => 1 :: (gs.length : Int) :: encGs gs
def spRead (t : Adr) : Sp := fun vs H Q _ => ∃ (l : Addr) (g : Option (List Kp148.Gate)), vs = [.ref l] ∧ H l = some (.lst (vz (encO g))) ∧ (encO g).length ≤ 100000 ∧
  ∀ (gv : V) (H' : Hp), GvAt t (Off H' H) gv g → Same H H' → Q gv H'
theorem scRead : FnScope ["g", "k"] ["g"] (defScope sRead) := ⟨rfl, rfl, rfl, by decide +kernel, rfl, by decide +kernel, by decide +kernel⟩
theorem ok_read {f fG : Addr} {fd fdG : FuncData} (F : Fun K "read_gates" "read_gates" sRead f fd) (T : Txt K mg t) (MG : Mk K t.G fG) (FG : Fun K "__init__" "Gate.__init__" sGate fG fdG) (bG : Binds K fdG ["self", "kind", "a", "b", "most"] []) : FnOk P w K mg base CX0 3 f fd ["g"] (spRead t) := by
  have GG : FnOk P w K mg base CX0 1 fG fdG ["self", "kind", "a", "b", "most"] (spGate t) := ok_gate FG T
  refine F.ok scRead (fun vs H Q E h => ?_) (fun cdv A outer s H vs Q E hr h => ?_)
  · obtain ⟨l, g, rfl, _⟩ := h
    rfl
  · obtain ⟨l, g, rfl, hl, hlen, k⟩ := h
    have hsl : (400000 : Nat) ≤ sizeLine := by decide
    refine ⟨_, pss_cons (ps_if (pt_cmp (pc_eqI (pe_ix ix_list (pv 0) pe_int (fun _ _ => rfl)) pe_int)) (pss_one (ps_ret pe_non)) pss_nil)
      (pss_one (ps_ret (pe_lc (own := [("k", 1)]) (te := tMake t.G (spGate t) [] E0 (tCons (tOp (rIxL K) (tVar 0) (tVar 1)) (tCons (tOp (rIxL K) (tVar 0) (tAdd (tVar 1) (tC (.int 1)))) (tCons (tOp (rIxL K) (tVar 0) (tAdd (tVar 1) (tC (.int 2)))) (tCons (tOp (rIxL K) (tVar 0) (tAdd (tVar 1) (tC (.int 3)))) tNil))))) rfl scRead.nd (pi_range3 rfl T.bRange (pa_cons pe_int (pa_cons (pe_callB call_len_seq (by rfl) T.bLen PySem.boot_len (pa_cons (pv 0) pa_nil)) (pa_cons pe_int pa_nil))))
        (blkOk_by (N := ["g", "k"]) (sc := defScope sRead) (by decide +kernel)) (fun _ _ _ _ _ => pg_name (i := 1) scRead.nd rfl (Or.inl rfl)) (fun _ _ _ _ _ => pts_nil)
        (fun _ _ _ _ _ => pe_make MG GG hr rfl T.mgG bG .nil pass0 (pa_cons (pe_ix ix_list (pv 0) (pv 1) (fun _ _ => rfl)) (pa_cons (pe_ix ix_list (pv 0) (pe_add (pv 1) pe_int) (fun _ _ => rfl)) (pa_cons (pe_ix ix_list (pv 0) (pe_add (pv 1) pe_int) (fun _ _ => rfl)) (pa_cons (pe_ix ix_list (pv 0) (pe_add (pv 1) pe_int) (fun _ _ => rfl)) pa_nil)))))))), ?_⟩
    cases g with
    | none =>
      refine ⟨_, rfl, l, _, _, V.int 0, rfl, rfl, SqL.of hl, atI_nat (j := 0) rfl, _, _, rfl, rfl, _, rfl, iteT ?_⟩
      exact k .non H (.inl ⟨rfl, rfl⟩) (Same.refl H)
    | some gs =>
      have hgl : (encO (some gs)).length = 2 + 4 * gs.length := by
        show (1 :: (gs.length : Int) :: encGs gs).length = _
        simp only [List.length_cons, encGs_len]; omega
      have hl' : H l = some (.lst (vz (1 :: (gs.length : Int) :: encGs gs))) := hl
      refine ⟨_, rfl, l, _, _, V.int 1, rfl, rfl, SqL.of hl', atI_nat (j := 0) rfl, _, _, rfl, rfl, _, rfl, iteF ?_⟩
      have elen : (((vz (1 :: (gs.length : Int) :: encGs gs)).length : Nat) : Int) = ((2 + 4 * gs.length : Nat) : Int) := by
        rw [List.length_map]
        have : (1 :: (gs.length : Int) :: encGs gs).length = 2 + 4 * gs.length := hgl
        rw [this]
      refine ⟨_, rfl, l, _, rfl, .inl (SqL.of hl'), _, _, _, gs.length, rfl, by rw [elen]; exact rgc4 (by omega), fun D hD => ?_⟩
      refine lc_rangeC (lo := 2) (c := 4) (n := gs.length) (fun i H' => ∃ as : List Addr, as.length = i ∧ Same H H' ∧ H' D = some (.lst (vr as)) ∧ (∀ a, a ∈ as → H a = none) ∧ ∀ j a, as[j]? = some a → GateAt t H' a (gt gs j))
        ⟨[], rfl, Same.new hD, upd_same, by simp, fun j a e => by simp at e⟩ (fun i H' hi hP => ?_) (fun H' hP => ?_)
      · obtain ⟨as, has, sm, hDl, hnew, hat⟩ := hP
        refine ⟨rfl, yes_if ?_⟩
        obtain ⟨e0, e1, e2, e3⟩ := encGs_at gs i hi
        have hl2 := sm _ _ hl'
        have at_ : ∀ (j : Nat) (x : Int) (z : Int), z = ((2 + 4 * i + j : Nat) : Int) → (encGs gs)[4 * i + j]? = some x → atI (vz (1 :: (gs.length : Int) :: encGs gs)) z = some (V.int x) := fun j x z hz hx => by
          rw [hz]; exact atI_nat (gs_at hx)
        refine ⟨_, rfl, _, rfl, l, _, _, _, rfl, rfl, SqL.of hl2, at_ 0 _ _ (by omega) e0, ?_⟩
        refine ⟨_, rfl, _, rfl, _, _, rfl, rfl, l, _, _, _, rfl, rfl, SqL.of hl2, at_ 1 _ _ (by omega) e1, ?_⟩
        refine ⟨_, rfl, _, rfl, _, _, rfl, rfl, l, _, _, _, rfl, rfl, SqL.of hl2, at_ 2 _ _ (by omega) e2, ?_⟩
        refine ⟨_, rfl, _, rfl, _, _, rfl, rfl, l, _, _, _, rfl, rfl, SqL.of hl2, at_ 3 _ _ (by omega) e3, ?_⟩
        intro x dx hx hdx nx
        refine ⟨x, dx, gt gs i, rfl, upd_same, fun H2 hG kp => ⟨rfl, ?_⟩⟩
        have s2 : Same H' H2 := Same.made hx hdx kp
        have hD2 := s2 _ _ hDl
        have nDx : D ≠ x := ne_of_none hDl hx
        obtain ⟨dG, hGo⟩ := hG
        refine ⟨vr as, hD2, by rw [List.length_map]; omega, as ++ [x], by simp [has], fun b o e => ?_, by rw [upd_same]; simp [vr], fun a ha => ?_, fun j a e => ?_⟩
        · rw [upd_ne (ne_of_none e hD)]; exact s2 _ _ (sm _ _ e)
        · rcases List.mem_append.mp ha with q | q
          · exact hnew a q
          · simp at q; subst q; exact sm.free hx
        · by_cases q : j < as.length
          · rw [List.getElem?_append_left q] at e
            obtain ⟨d1, h1⟩ := hat j a e
            have h2 := s2 _ _ h1
            exact ⟨d1, by rw [upd_ne (ne_of h2 hD2 (by intro z; cases z))]; exact h2⟩
          · rw [List.getElem?_append_right (by omega)] at e
            cases q2 : j - as.length with
            | zero =>
              rw [q2] at e
              simp at e
              subst e
              have ej : j = i := by omega
              subst ej
              exact ⟨dG, by rw [upd_ne nDx.symm]; exact hGo⟩
            | succ m => rw [q2] at e; simp at e
      · obtain ⟨as, has, sm, hDl, hnew, hat⟩ := hP
        refine k (.ref D) H' (.inr ⟨gs, D, as, rfl, rfl, off_of hDl hD, has, fun j a e => ?_⟩) sm
        obtain ⟨d1, h1⟩ := hat j a e
        exact ⟨d1, off_of h1 (hnew a (List.mem_of_getElem? e))⟩
/-! ### call_length(calls, place) -/
def spLen (K : PySem.W.Frag) : Sp := fun vs H Q _ => ∃ (l : Addr) (ns rest : List Int) (pl : Nat) (x : Kp149.Call), vs = [.ref l, .int (pl : Int)] ∧ SqL K H l (vz ns) ∧ ns.drop pl = enc x ++ rest ∧ Q (.int ((enc x).length : Int)) H
theorem scLen : FnScope ["calls", "place", "length"] ["calls", "place"] (defScope sLen) := ⟨rfl, rfl, rfl, by decide +kernel, rfl, by decide +kernel, by decide +kernel⟩
theorem drop_at {ns xs rest : List Int} {pl j : Nat} {y : Int} (h : ns.drop pl = xs ++ rest) (hj : xs[j]? = some y) : atI (vz ns) ((pl + j : Nat) : Int) = some (V.int y) := by
  refine atI_nat ?_
  rw [List.getElem?_map]
  have hl : j < xs.length := (List.getElem?_eq_some_iff.mp hj).1
  have : (ns.drop pl)[j]? = some y := by rw [h, List.getElem?_append_left hl]; exact hj
  rw [List.getElem?_drop] at this
  rw [this]; rfl
/-- a call's number -/
def num : Kp149.Call → Nat
  | .start _ _ => 0
  | .set_ _ _ => 1
  | .wait => 2
  | .get _ => 3
  | .when_ _ => 4
  | .why _ _ => 5
  | .longest => 6
theorem enc_num (x : Kp149.Call) : (enc x)[0]? = some (num x : Int) := by
  cases x with
  | start g n => cases g <;> rfl
  | _ => rfl
/-- what the table has -/
def tabLen : Kp149.Call → Int
  | .start _ _ => 3
  | .set_ _ _ => 3
  | .wait => 1
  | .get _ => 2
  | .when_ _ => 2
  | .why _ _ => 3
  | .longest => 1
theorem tab_num (x : Kp149.Call) : ([(0, 3), (1, 3), (2, 1), (3, 2), (4, 2), (5, 3), (6, 1)] : List (Int × Int)).lookup (num x : Int) = some (tabLen x) := by
  cases x <;> rfl
theorem ok_len {f : Addr} {fd : FuncData} (F : Fun K "call_length" "call_length" sLen f fd) (T : Txt K mg t) : FnOk P w K mg base CX0 1 f fd ["calls", "place"] (spLen K) := by
  obtain ⟨u1, m1, r1⟩ := T.cTK_START
  obtain ⟨d, md, Td⟩ := T.tab
  refine F.ok scLen (fun vs H Q E h => ?_) (fun cdv A outer s H vs Q E hr h => ?_)
  · obtain ⟨l, ns, rest, pl, x, rfl, _⟩ := h
    rfl
  · obtain ⟨l, ns, rest, pl, x, rfl, hl, hd, k⟩ := h
    refine ⟨_, pss_cons (ps_set (i := 2) scLen.nd rfl (Or.inl rfl) (pe_tab (pe_glob (v := .ref d) rfl md rfl) (pe_ix ix_list (pv 0) (pv 1) (fun _ _ => rfl)) (fun _ _ => rfl)))
      (pss_cons (ps_if (pt_cmp (pc_eqI (pe_ix ix_list (pv 0) (pv 1) (fun _ _ => rfl)) (pe_glob rfl m1 r1))) (pss_one (ps_ret (pe_add (pv 2) (pe_ix ix_list (pv 0) (pe_add (pv 1) pe_int) (fun _ _ => rfl))))) pss_nil)
      (pss_one (ps_ret (pv 2)))), ?_⟩
    have h0 : atI (vz ns) (pl : Int) = some (V.int (num x : Int)) := drop_at (j := 0) hd (enc_num x)
    refine ⟨_, rfl, _, rfl, l, _, _, _, rfl, rfl, hl, h0, d, _, _, _, rfl, rfl, Td, tab_num x, ?_⟩
    refine ⟨_, rfl, _, rfl, l, _, _, _, rfl, rfl, hl, h0, _, _, rfl, rfl, _, rfl, ?_⟩
    refine ite2 (fun c => ?_) fun c => ?_
    · have c : (num x : Int) = 0 := of_decide_eq_true c
      cases x with
      | start g n =>
        have h2 : (enc (.start g n))[2]? = some ((encO g).length : Int) := by
          cases g with
          | none => rfl
          | some gs =>
            show some (((2 + 4 * gs.length : Nat) : Int)) = _
            congr 1
            show _ = (((1 :: (gs.length : Int) :: encGs gs).length : Nat) : Int)
            simp only [List.length_cons, encGs_len]; omega
        have e2 : (pl : Int) + 2 = ((pl + 2 : Nat) : Int) := by omega
        refine ⟨_, rfl, _, rfl, _, rfl, _, _, rfl, rfl, l, _, _, V.int ((encO g).length : Int), rfl, rfl, hl, ?_, _, _, rfl, rfl, ?_⟩
        · rw [e2]; exact drop_at hd h2
        have e : (3 : Int) + ((encO g).length : Int) = ((enc (.start g n)).length : Int) := by
          cases g with
          | none => rfl
          | some gs =>
            show (3 : Int) + (((1 :: (gs.length : Int) :: encGs gs).length : Nat) : Int) = (((0 :: (n : Int) :: ((2 + 4 * gs.length : Nat) : Int) :: 1 :: (gs.length : Int) :: encGs gs).length : Nat) : Int)
            simp only [List.length_cons]; omega
        show Q (.int ((3 : Int) + ((encO g).length : Int))) H
        rw [e]; exact k
      | set_ _ _ => cases c
      | wait => cases c
      | get _ => cases c
      | when_ _ => cases c
      | why _ _ => cases c
      | longest => cases c
    · have c : ¬ (num x : Int) = 0 := fun z => c (decide_eq_true z)
      cases x with
      | start g n => exact absurd rfl c
      | set_ _ _ => exact ⟨_, rfl, k⟩
      | wait => exact ⟨_, rfl, k⟩
      | get _ => exact ⟨_, rfl, k⟩
      | when_ _ => exact ⟨_, rfl, k⟩
      | why _ _ => exact ⟨_, rfl, k⟩
      | longest => exact ⟨_, rfl, k⟩
end
end Wb

namespace Wb
open PySem L2
open Kp149Neutral (S does may dummy wrKp149_Ans)
theorem does_act {s : S} {x : Kp149.Call} (h : may s x = true) : (does s x).1.getD dummy = (Kp149.act (s.getD dummy) x).1 ∧ (does s x).2 = (Kp149.act (s.getD dummy) x).2 := by
  cases s with
  | some a => exact ⟨rfl, rfl⟩
  | none =>
    unfold may at h
    rw [Bool.and_eq_true] at h
    cases x with
    | start g n =>
      have e : does none (.start g n) = (if Kp149Neutral.began (Kp149.act dummy (.start g n)).2 then some (Kp149.act dummy (.start g n)).1 else none, (Kp149.act dummy (.start g n)).2) := rfl
      rw [e]
      refine ⟨?_, rfl⟩
      show (if Kp149Neutral.began (Kp149.act dummy (.start g n)).2 then some (Kp149.act dummy (.start g n)).1 else none).getD dummy = (Kp149.act dummy (.start g n)).1
      cases g with
      | none => rfl
      | some gs =>
        have ea : Kp149.act dummy (.start (some gs) n) = if Kp149.goodStart gs n = false then (dummy, .num (-22)) else (Kp149.start gs n, .num 0) := rfl
        rw [ea]
        by_cases c : Kp149.goodStart gs n = false
        · rw [if_pos c]; rfl
        · rw [if_neg c]; rfl
    | _ => exact absurd (show false = true from h.1) (by decide)
theorem may_pre {s : S} {x : Kp149.Call} (h : may s x = true) : Kp149.Pre x := by
  unfold may at h
  rw [Bool.and_eq_true] at h
  exact @of_decide_eq_true _ (Kp149Neutral.preDec x) h.2
theorem ans_len (a : Kp149.Abs) (x : Kp149.Call) : (wrKp149_Ans (Kp149.act a x).2).length ≤ a.gates.length + 3 := by
  have hn : ∀ v : Int, (wrKp149_Ans (.num v)).length ≤ a.gates.length + 3 := fun v => by
    show 2 ≤ _; omega
  have ht : ∀ (v : Int) (y : Nat), (wrKp149_Ans (.time v y)).length ≤ a.gates.length + 3 := fun v y => by
    show 3 ≤ _; omega
  have ho : ∀ l : List Nat, l.length ≤ a.gates.length + 1 → (wrKp149_Ans (.out l)).length ≤ a.gates.length + 3 := fun l h => by
    rw [wr_out]; simp only [List.length_cons, List.length_map]; omega
  cases x with
  | start g n =>
    cases g with
    | none => exact hn _
    | some gs =>
      show (wrKp149_Ans (if Kp149.goodStart gs n = false then (a, Kp149.Ans.num (-22)) else (Kp149.start gs n, Kp149.Ans.num 0)).2).length ≤ _
      split
      · exact hn _
      · exact hn _
  | set_ i b =>
    show (wrKp149_Ans (if a.ins.length ≤ i ∨ 1 < b then (a, Kp149.Ans.num (-22)) else _).2).length ≤ _
    split
    · exact hn _
    · exact hn _
  | wait => exact ht _ _
  | get k => exact hn _
  | when_ k =>
    by_cases c : refuse a k = 0
    · obtain ⟨hq, tt, y, h1, h2⟩ := refuse_zero c
      rw [(act_when_yes hq h1 h2).1]; exact ht _ _
    · rw [(act_when_no c).1]; exact hn _
  | why k r =>
    by_cases c : refuse a k = 0
    · obtain ⟨hq, tt, y, h1, h2⟩ := refuse_zero c
      rw [(act_when_yes hq h1 h2).2 r]
      show (wrKp149_Ans (if r < (Kp149.way a tt a.gates.length k).length then Kp149.Ans.num (-28) else Kp149.Ans.out (Kp149.way a tt a.gates.length k))).length ≤ _
      split
      · exact hn _
      · exact ho _ (way_len _ _)
    · rw [(act_when_no c).2 r]; exact hn _
  | longest => exact ht _ _
/-! ### slices -/
theorem cut_to {ns xs rest : List Int} {pl : Nat} {z : Int} (h : ns.drop pl = xs ++ rest) (hx : xs ≠ []) (hz : z = ((pl + xs.length : Nat) : Int)) : cutV (vz ns) (some (pl : Int)) (some z) = vz xs := by
  have hl : pl + xs.length ≤ ns.length := by
    have := congrArg List.length h
    rw [List.length_drop, List.length_append] at this
    have : 0 < xs.length := List.length_pos_iff.mpr hx
    omega
  unfold cutV
  rw [hz, HT.sIx_nat, HT.sIx_nat, List.length_map, Nat.min_eq_left (show pl ≤ ns.length by omega), Nat.min_eq_left hl]
  unfold vz
  rw [← List.map_drop, ← List.map_take, h, Nat.add_sub_cancel_left, List.take_left]
theorem cut_3 {x y z : Int} {r : List Int} : cutV (vz (x :: y :: z :: r)) (some 3) none = vz r := by
  unfold cutV
  rw [show (3 : Int) = ((3 : Nat) : Int) from rfl, HT.sIx_nat, HT.sIx_none]
  have e : (vz (x :: y :: z :: r)).length = r.length + 3 := by simp [vz]
  rw [e, Nat.min_eq_left (by omega)]
  show (vz r).take _ = vz r
  rw [List.take_of_length_le (by simp [vz])]
theorem enc_start (g : Option (List Kp148.Gate)) (n : Nat) : enc (.start g n) = 0 :: (n : Int) :: ((encO g).length : Int) :: encO g := by
  cases g with
  | none => rfl
  | some gs =>
    show 0 :: (n : Int) :: ((2 + 4 * gs.length : Nat) : Int) :: 1 :: (gs.length : Int) :: encGs gs = 0 :: (n : Int) :: (((1 :: (gs.length : Int) :: encGs gs).length : Nat) : Int) :: 1 :: (gs.length : Int) :: encGs gs
    have e : (1 :: (gs.length : Int) :: encGs gs).length = 2 + 4 * gs.length := by simp only [List.length_cons, encGs_len]; omega
    rw [e]
theorem enc_ne (x : Kp149.Call) : enc x ≠ [] := fun z => by
  have := enc_num x
  rw [z] at this; cases this
section
variable {P : Program} {w : World} {K : PySem.W.Frag} {mg : Str → Option Value} {base : Heap} {t : Adr}
/-! ### answer_call(board, call) -/
def spCall (t : Adr) : Sp := fun vs H Q _ => ∃ (p c : Addr) (B : Hp) (a : Kp149.Abs) (x : Kp149.Call), vs = [.ref p, .ref c] ∧ Same B H ∧ Bd t (Off H B) p a ∧ H c = some (.lst (vz (enc x))) ∧ (enc x).length ≤ 100000 ∧ Kp149.Pre x ∧
  Ends' t B p (Kp149.act a x).1 (wrKp149_Ans (Kp149.act a x).2) Q
theorem scCall : FnScope ["board", "call"] ["board", "call"] (defScope sCall) := ⟨rfl, rfl, rfl, by decide +kernel, rfl, by decide +kernel, by decide +kernel⟩
/-- the board's methods, as they stand -/
structure Meths (K : PySem.W.Frag) (t : Adr) (f1 f2 f3 f4 f5 f6 f7 : Addr) (d1 d2 d3 d4 d5 d6 d7 : FuncData) : Prop where
  m1 : Mf K t.B "tk_start" "Board.tk_start" sStart ["self", "g", "inputs"] f1 d1
  m2 : Mf K t.B "tk_set" "Board.tk_set" sSet ["self", "signal", "bit"] f2 d2
  m3 : Mf K t.B "tk_wait" "Board.tk_wait" sWait ["self"] f3 d3
  m4 : Mf K t.B "tk_get" "Board.tk_get" sGet ["self", "signal"] f4 d4
  m5 : Mf K t.B "tk_when" "Board.tk_when" sWhen ["self", "signal"] f5 d5
  m6 : Mf K t.B "tk_why" "Board.tk_why" sWhy ["self", "signal", "room"] f6 d6
  m7 : Mf K t.B "tk_longest" "Board.tk_longest" sLongest ["self"] f7 d7
structure MethsOk (P : Program) (w : World) (K : PySem.W.Frag) (mg : Str → Option Value) (base : Heap) (t : Adr) (f1 f2 f3 f4 f5 f6 f7 : Addr) (d1 d2 d3 d4 d5 d6 d7 : FuncData) : Prop where
  g1 : FnOk P w K mg base CX0 5 f1 d1 ["self", "g", "inputs"] (spStart t)
  g2 : FnOk P w K mg base CX0 1 f2 d2 ["self", "signal", "bit"] (spSet t)
  g3 : FnOk P w K mg base CX0 5 f3 d3 ["self"] (spWait t)
  g4 : FnOk P w K mg base CX0 3 f4 d4 ["self", "signal"] (spGet t)
  g5 : FnOk P w K mg base CX0 2 f5 d5 ["self", "signal"] (spWhen t)
  g6 : FnOk P w K mg base CX0 4 f6 d6 ["self", "signal", "room"] (spWhy t)
  g7 : FnOk P w K mg base CX0 1 f7 d7 ["self"] (spLongest t)
theorem ok_call {f fR f1 f2 f3 f4 f5 f6 f7 : Addr} {fd fdR d1 d2 d3 d4 d5 d6 d7 : FuncData} (F : Fun K "answer_call" "answer_call" sCall f fd) (T : Txt K mg t) (DR : Df K mg "read_gates" sRead ["g"] fR fdR) (GR : FnOk P w K mg base CX0 3 fR fdR ["g"] (spRead t))
    (M : Meths K t f1 f2 f3 f4 f5 f6 f7 d1 d2 d3 d4 d5 d6 d7) (G : MethsOk P w K mg base t f1 f2 f3 f4 f5 f6 f7 d1 d2 d3 d4 d5 d6 d7) : FnOk P w K mg base CX0 6 f fd ["board", "call"] (spCall t) := by
  obtain ⟨u0, m0, r0⟩ := T.cTK_START
  obtain ⟨u1, m1, r1⟩ := T.cTK_SET
  obtain ⟨u2, m2, r2⟩ := T.cTK_WAIT
  obtain ⟨u3, m3, r3⟩ := T.cTK_GET
  obtain ⟨u4, m4, r4⟩ := T.cTK_WHEN
  obtain ⟨u5, m5, r5⟩ := T.cTK_WHY
  refine F.ok scCall (fun vs H Q E h => ?_) (fun cdv A outer s H vs Q E hr h => ?_)
  · obtain ⟨p, c, B, a, x, rfl, _⟩ := h
    rfl
  · obtain ⟨p, c, B, a, x, rfl, sB, bd, hc, hlen, hpre, k⟩ := h
    have hr1 : Room 1 _ := hr.mono (by decide)
    have hr2 : Room 2 _ := hr.mono (by decide)
    have hr3 : Room 3 _ := hr.mono (by decide)
    have hr4 : Room 4 _ := hr.mono (by decide)
    refine ⟨_, pss_cons (ps_if (pt_cmp (pc_eqI (pe_ix ix_list (pv 1) pe_int (fun _ _ => rfl)) (pe_glob rfl m0 r0))) (pss_one (ps_ret (pe_meth (pv 0) T.clB M.m1.m G.g1 hr M.m1.b .nil pass0 (pa_cons (pe_call GR hr3 rfl DR.g DR.F.kp DR.b .nil pass0 (pa_cons (pe_slice sl_list (pv 1) (po_some pe_int) po_none) pa_nil)) (pa_cons (pe_ix ix_list (pv 1) pe_int (fun _ _ => rfl)) pa_nil))))) pss_nil)
      (pss_cons (ps_if (pt_cmp (pc_eqI (pe_ix ix_list (pv 1) pe_int (fun _ _ => rfl)) (pe_glob rfl m1 r1))) (pss_one (ps_ret (pe_meth (pv 0) T.clB M.m2.m G.g2 hr1 M.m2.b .nil pass0 (pa_cons (pe_ix ix_list (pv 1) pe_int (fun _ _ => rfl)) (pa_cons (pe_ix ix_list (pv 1) pe_int (fun _ _ => rfl)) pa_nil))))) pss_nil)
      (pss_cons (ps_if (pt_cmp (pc_eqI (pe_ix ix_list (pv 1) pe_int (fun _ _ => rfl)) (pe_glob rfl m2 r2))) (pss_one (ps_ret (pe_meth0 (pv 0) T.clB M.m3.m G.g3 hr M.m3.b .nil pass0))) pss_nil)
      (pss_cons (ps_if (pt_cmp (pc_eqI (pe_ix ix_list (pv 1) pe_int (fun _ _ => rfl)) (pe_glob rfl m3 r3))) (pss_one (ps_ret (pe_meth (pv 0) T.clB M.m4.m G.g4 hr3 M.m4.b .nil pass0 (pa_cons (pe_ix ix_list (pv 1) pe_int (fun _ _ => rfl)) pa_nil)))) pss_nil)
      (pss_cons (ps_if (pt_cmp (pc_eqI (pe_ix ix_list (pv 1) pe_int (fun _ _ => rfl)) (pe_glob rfl m4 r4))) (pss_one (ps_ret (pe_meth (pv 0) T.clB M.m5.m G.g5 hr2 M.m5.b .nil pass0 (pa_cons (pe_ix ix_list (pv 1) pe_int (fun _ _ => rfl)) pa_nil)))) pss_nil)
      (pss_cons (ps_if (pt_cmp (pc_eqI (pe_ix ix_list (pv 1) pe_int (fun _ _ => rfl)) (pe_glob rfl m5 r5))) (pss_one (ps_ret (pe_meth (pv 0) T.clB M.m6.m G.g6 hr4 M.m6.b .nil pass0 (pa_cons (pe_ix ix_list (pv 1) pe_int (fun _ _ => rfl)) (pa_cons (pe_ix ix_list (pv 1) pe_int (fun _ _ => rfl)) pa_nil))))) pss_nil)
      (pss_one (ps_ret (pe_meth0 (pv 0) T.clB M.m7.m G.g7 hr1 M.m7.b .nil pass0)))))))), ?_⟩
    obtain ⟨dx, nn, ii, ll, bb, ln, uu, wv, as, us, fs, hb⟩ := id bd
    have so := off_same H B
    have hp := so _ _ hb.ob
    have at_ : ∀ (j : Nat) (z y : Int), z = (j : Int) → (enc x)[j]? = some y → atI (vz (enc x)) z = some (V.int y) := fun j z y hz e => by
      rw [hz]; exact atI_nat (by rw [List.getElem?_map, e]; rfl)
    have h0 : atI (vz (enc x)) 0 = some (V.int (num x : Int)) := at_ 0 0 _ rfl (enc_num x)
    cases x with
    | start g n =>
      refine ⟨_, rfl, c, _, _, _, rfl, rfl, SqL.of hc, h0, _, _, rfl, rfl, _, rfl, iteT ?_⟩
      refine ⟨_, rfl, p, dx, _, rfl, hp, hb.bf.no _ (by decide +kernel), _, rfl, _, rfl, c, _, rfl, SqL.of hc, fun q hq => ?_⟩
      have hc' : H c = some (.lst (vz (0 :: (n : Int) :: ((encO g).length : Int) :: encO g))) := by rw [← enc_start]; exact hc
      have s1 : Same H (upd H q (.lst (cutV (vz (enc (.start g n))) (some 3) none))) := Same.new hq
      have hq1 : (upd H q (.lst (cutV (vz (enc (.start g n))) (some 3) none))) q = some (.lst (vz (encO g))) := by rw [upd_same, enc_start, cut_3]
      generalize upd H q (.lst (cutV (vz (enc (.start g n))) (some 3) none)) = H1 at s1 hq1
      have hel : (encO g).length ≤ 100000 := by
        rw [enc_start] at hlen
        simp only [List.length_cons] at hlen; omega
      refine ⟨q, g, rfl, hq1, hel, fun gv H2 hg s2 => ?_⟩
      have s12 := s1.trans s2
      have h1 : (enc (.start g n))[1]? = some (n : Int) := by rw [enc_start]; rfl
      refine ⟨_, rfl, c, _, _, _, rfl, rfl, SqL.of (s12 _ _ hc), at_ 1 1 _ rfl h1, ?_⟩
      have hgB : GvAt t (Off H2 B) gv g := by
        rcases hg with hg | ⟨gs, l, as', g1, g2, g3⟩
        · exact .inl hg
        · refine .inr ⟨gs, l, as', g1, g2, g3.same fun b o e => off_of (off_same _ _ b o e) ?_⟩
          exact (sB.trans s1).free (off_no e)
      exact ⟨p, B, a, gv, g, n, rfl, sB.trans s12, bd.same (Same.off s12), hgB, hpre, k⟩
    | set_ i b =>
      refine ⟨_, rfl, c, _, _, _, rfl, rfl, SqL.of hc, h0, _, _, rfl, rfl, _, rfl, iteF ?_⟩
      refine ⟨_, rfl, c, _, _, _, rfl, rfl, SqL.of hc, h0, _, _, rfl, rfl, _, rfl, iteT ?_⟩
      refine ⟨_, rfl, p, dx, _, rfl, hp, hb.bf.no _ (by decide +kernel), _, rfl, c, _, _, _, rfl, rfl, SqL.of hc, at_ 1 1 _ rfl rfl, _, rfl, c, _, _, _, rfl, rfl, SqL.of hc, at_ 2 2 _ rfl rfl, ?_⟩
      exact ⟨p, B, a, i, b, rfl, sB, bd, k⟩
    | wait =>
      refine ⟨_, rfl, c, _, _, _, rfl, rfl, SqL.of hc, h0, _, _, rfl, rfl, _, rfl, iteF ?_⟩
      refine ⟨_, rfl, c, _, _, _, rfl, rfl, SqL.of hc, h0, _, _, rfl, rfl, _, rfl, iteF ?_⟩
      refine ⟨_, rfl, c, _, _, _, rfl, rfl, SqL.of hc, h0, _, _, rfl, rfl, _, rfl, iteT ?_⟩
      refine ⟨_, rfl, p, dx, _, rfl, hp, hb.bf.no _ (by decide +kernel), ?_⟩
      exact ⟨p, B, a, rfl, sB, bd, k⟩
    | get q =>
      refine ⟨_, rfl, c, _, _, _, rfl, rfl, SqL.of hc, h0, _, _, rfl, rfl, _, rfl, iteF ?_⟩
      refine ⟨_, rfl, c, _, _, _, rfl, rfl, SqL.of hc, h0, _, _, rfl, rfl, _, rfl, iteF ?_⟩
      refine ⟨_, rfl, c, _, _, _, rfl, rfl, SqL.of hc, h0, _, _, rfl, rfl, _, rfl, iteF ?_⟩
      refine ⟨_, rfl, c, _, _, _, rfl, rfl, SqL.of hc, h0, _, _, rfl, rfl, _, rfl, iteT ?_⟩
      refine ⟨_, rfl, p, dx, _, rfl, hp, hb.bf.no _ (by decide +kernel), _, rfl, c, _, _, _, rfl, rfl, SqL.of hc, at_ 1 1 _ rfl rfl, ?_⟩
      exact ⟨p, B, a, q, rfl, sB, bd, k⟩
    | when_ q =>
      refine ⟨_, rfl, c, _, _, _, rfl, rfl, SqL.of hc, h0, _, _, rfl, rfl, _, rfl, iteF ?_⟩
      refine ⟨_, rfl, c, _, _, _, rfl, rfl, SqL.of hc, h0, _, _, rfl, rfl, _, rfl, iteF ?_⟩
      refine ⟨_, rfl, c, _, _, _, rfl, rfl, SqL.of hc, h0, _, _, rfl, rfl, _, rfl, iteF ?_⟩
      refine ⟨_, rfl, c, _, _, _, rfl, rfl, SqL.of hc, h0, _, _, rfl, rfl, _, rfl, iteF ?_⟩
      refine ⟨_, rfl, c, _, _, _, rfl, rfl, SqL.of hc, h0, _, _, rfl, rfl, _, rfl, iteT ?_⟩
      refine ⟨_, rfl, p, dx, _, rfl, hp, hb.bf.no _ (by decide +kernel), _, rfl, c, _, _, _, rfl, rfl, SqL.of hc, at_ 1 1 _ rfl rfl, ?_⟩
      exact ⟨p, B, a, q, rfl, sB, bd, k⟩
    | why q room =>
      refine ⟨_, rfl, c, _, _, _, rfl, rfl, SqL.of hc, h0, _, _, rfl, rfl, _, rfl, iteF ?_⟩
      refine ⟨_, rfl, c, _, _, _, rfl, rfl, SqL.of hc, h0, _, _, rfl, rfl, _, rfl, iteF ?_⟩
      refine ⟨_, rfl, c, _, _, _, rfl, rfl, SqL.of hc, h0, _, _, rfl, rfl, _, rfl, iteF ?_⟩
      refine ⟨_, rfl, c, _, _, _, rfl, rfl, SqL.of hc, h0, _, _, rfl, rfl, _, rfl, iteF ?_⟩
      refine ⟨_, rfl, c, _, _, _, rfl, rfl, SqL.of hc, h0, _, _, rfl, rfl, _, rfl, iteF ?_⟩
      refine ⟨_, rfl, c, _, _, _, rfl, rfl, SqL.of hc, h0, _, _, rfl, rfl, _, rfl, iteT ?_⟩
      refine ⟨_, rfl, p, dx, _, rfl, hp, hb.bf.no _ (by decide +kernel), _, rfl, c, _, _, _, rfl, rfl, SqL.of hc, at_ 1 1 _ rfl rfl, _, rfl, c, _, _, _, rfl, rfl, SqL.of hc, at_ 2 2 _ rfl rfl, ?_⟩
      exact ⟨p, B, a, q, room, rfl, sB, bd, k⟩
    | longest =>
      refine ⟨_, rfl, c, _, _, _, rfl, rfl, SqL.of hc, h0, _, _, rfl, rfl, _, rfl, iteF ?_⟩
      refine ⟨_, rfl, c, _, _, _, rfl, rfl, SqL.of hc, h0, _, _, rfl, rfl, _, rfl, iteF ?_⟩
      refine ⟨_, rfl, c, _, _, _, rfl, rfl, SqL.of hc, h0, _, _, rfl, rfl, _, rfl, iteF ?_⟩
      refine ⟨_, rfl, c, _, _, _, rfl, rfl, SqL.of hc, h0, _, _, rfl, rfl, _, rfl, iteF ?_⟩
      refine ⟨_, rfl, c, _, _, _, rfl, rfl, SqL.of hc, h0, _, _, rfl, rfl, _, rfl, iteF ?_⟩
      refine ⟨_, rfl, c, _, _, _, rfl, rfl, SqL.of hc, h0, _, _, rfl, rfl, _, rfl, iteF ?_⟩
      refine ⟨_, rfl, p, dx, _, rfl, hp, hb.bf.no _ (by decide +kernel), ?_⟩
      exact ⟨p, B, a, rfl, sB, bd, k⟩
/-! ### answers(calls) -/
def spAnswers (K : PySem.W.Frag) : Sp := fun vs H Q _ => ∃ (a : Addr) (xs : List Kp149.Call), vs = [.ref a] ∧ SqL K H a (vz (xs.flatMap enc)) ∧ (xs.flatMap enc).length ≤ 16000 ∧ xs.length ≤ 50 ∧ MayAll none xs ∧
  ∀ (l : Addr) (H' : Hp), H' l = some (.lst (vz (play none xs))) → Q (.ref l) H'
theorem scAnswers : FnScope ["calls", "board", "told", "place", "end", "answer"] ["calls"] (defScope sAnswers) := ⟨rfl, rfl, rfl, by decide +kernel, rfl, by decide +kernel, by decide +kernel⟩
structure AnsSt (t : Adr) (H : Hp) (a p tl : Addr) (xs : List Kp149.Call) (m : Nat) (σ : St) (H' : Hp) (done rem : List Kp149.Call) (s : S) (T : List Int) (e4 e5 : Option V) : Prop where
  xs_ : xs = done ++ rem
  ms : rem.length = m
  st : σ = [some (.ref a), some (.ref p), some (.ref tl), some (.int ((done.flatMap enc).length : Int)), e4, e5]
  sb : Same (upd H tl (.lst (vz T))) H'
  bd : Bd t (Off H' (upd H tl (.lst (vz T)))) p (s.getD dummy)
  pl : T ++ play s rem = play none xs
  may : MayAll s rem
  tl_ : T.length ≤ done.length * 100010
theorem ok_answers {f fL fC fB : Addr} {fd fdL fdC fdB : FuncData} (F : Fun K "answers" "answers" sAnswers f fd) (T : Txt K mg t) (DL : Df K mg "call_length" sLen ["calls", "place"] fL fdL) (DC : Df K mg "answer_call" sCall ["board", "call"] fC fdC)
    (GC : FnOk P w K mg base CX0 6 fC fdC ["board", "call"] (spCall t)) (MB : Mk K t.B fB) (bB : Binds K fdB ["self"] []) (GB : FnOk P w K mg base CX0 5 fB fdB ["self"] (spBoard t)) : FnOk P w K mg base CX0 7 f fd ["calls"] (spAnswers K) := by
  have GL : FnOk P w K mg base CX0 1 fL fdL ["calls", "place"] (spLen K) := ok_len DL.F T
  refine F.ok scAnswers (fun vs H Q E h => ?_) (fun cdv A outer s H vs Q E hr h => ?_)
  · obtain ⟨a, xs, rfl, _⟩ := h
    rfl
  · obtain ⟨a, xs, rfl, hS, hlen, hx50, hmay, k⟩ := h
    have hsl : (5100000 : Nat) ≤ sizeLine := by decide
    have hr1 : Room 1 _ := hr.mono (by decide)
    refine ⟨_, pss_cons (ps_set (i := 1) scAnswers.nd rfl (Or.inl rfl) (pe_make0 MB GB hr rfl T.mgB bB .nil pass0))
      (pss_cons (ps_set (i := 2) scAnswers.nd rfl (Or.inl rfl) (pe_lst pa_nil))
      (pss_cons (ps_set (i := 3) scAnswers.nd rfl (Or.inl rfl) pe_int)
      (pss_cons (ps_while PassesOwn.never (pt_cmp (pc_lt (pv 3) (pe_callB call_len_seq (by rfl) T.bLen PySem.boot_len (pa_cons (pv 0) pa_nil))))
        (pss_cons (ps_set (i := 4) scAnswers.nd rfl (Or.inl rfl) (pe_add (pv 3) (pe_call GL hr1 rfl DL.g DL.F.kp DL.b .nil pass0 (pa_cons (pv 0) (pa_cons (pv 3) pa_nil)))))
        (pss_cons (ps_set (i := 5) scAnswers.nd rfl (Or.inl rfl) (pe_call GC hr rfl DC.g DC.F.kp DC.b .nil pass0 (pa_cons (pv 1) (pa_cons (pe_slice sl_list (pv 0) (po_some (pv 3)) (po_some (pv 4))) pa_nil))))
        (pss_cons (ps_expr (pe_bm PySem.F.plainAttrs_list PySem.F.slot_list_append PySem.F.type_list_append mt_append (pv 2) (pa_cons (pe_callB call_len_seq (by rfl) T.bLen PySem.boot_len (pa_cons (pv 5) pa_nil)) pa_nil)))
        (pss_cons (ps_expr (pe_bm PySem.F.plainAttrs_list PySem.F.slot_list_extend PySem.F.type_list_extend mt_extend (pv 2) (pa_cons (pv 5) pa_nil)))
        (pss_one (ps_set (i := 3) scAnswers.nd rfl (Or.inl rfl) (pv 4))))))))
      (pss_one (ps_ret (pv 2)))))), ?_⟩
    -- board = Board()
    intro p dp hp0 hdp0 ndp
    have sM := same_made (C := t.B) hp0 hdp0 ndp
    refine ⟨p, dp, H, rfl, upd_same, sM, hp0, fun H1 s1 bd1 => ⟨rfl, ?_⟩⟩
    -- told = []; place = 0
    refine ⟨(by show 0 ≤ sizeLine; decide), fun tl htl => ?_⟩
    have htlH : H tl = none := s1.free htl
    have sb2 : Same (upd H tl (.lst (vz []))) (upd H1 tl (.lst [])) := fun c o e => by
      by_cases z : c = tl
      · subst z; rw [upd_same] at e ⊢; exact e
      · rw [upd_ne z] at e ⊢; exact s1 c o e
    have bd2 : Bd t (Off (upd H1 tl (.lst [])) (upd H tl (.lst (vz [])))) p dummy := by
      refine bd1.same fun c o e => ?_
      have e1 := off_same _ _ c o e
      have z : c ≠ tl := ne_of_none e1 htl
      exact off_of (by rw [upd_ne z]; exact e1) (by rw [upd_ne z]; exact off_no e)
    generalize upd H1 tl (.lst []) = H2 at sb2 bd2
    refine ⟨fun m σ H' => ∃ done rem s T e4 e5, AnsSt t H a p tl xs m σ H' done rem s T e4 e5, ⟨_, [], xs, none, [], none, none, rfl, rfl, rfl, sb2, bd2, rfl, hmay, by simp⟩, fun m σ H' hW => ?_⟩
    obtain ⟨done, rem, s, T', e4, e5, ⟨hxs, hms, rfl, sb, bd, hpl, hmy, htl'⟩⟩ := hW
    have sH : Same H H' := fun c o e => sb c o (by rw [upd_ne (ne_of_none e htlH)]; exact e)
    have hS' := sH.seq hS
    have etot : (xs.flatMap enc).length = (done.flatMap enc).length + (rem.flatMap enc).length := by rw [hxs, List.flatMap_append, List.length_append]
    have elen : (((vz (xs.flatMap enc)).length : Nat) : Int) = ((xs.flatMap enc).length : Int) := by rw [List.length_map]
    refine ⟨_, rfl, _, rfl, a, _, rfl, .inl hS', _, _, rfl, rfl, _, rfl, ?_⟩
    cases rem with
    | nil =>
      refine ite2 (fun c => ?_) fun c => ?_
      · have c : ((done.flatMap enc).length : Int) < (((vz (xs.flatMap enc)).length : Nat) : Int) := of_decide_eq_true c
        rw [elen, etot] at c
        simp at c
      · have e : T' = play none xs := by
          have : T' ++ [] = play none xs := hpl
          rw [← this, List.append_nil]
        subst e
        exact ⟨_, rfl, k tl H' (sb tl _ upd_same)⟩
    | cons x rem =>
      have hdl : (xs.flatMap enc).drop (done.flatMap enc).length = enc x ++ rem.flatMap enc := by
        rw [hxs, List.flatMap_append, List.drop_left, List.flatMap_cons]
      have hne := enc_ne x
      have hpos : 0 < (enc x).length := List.length_pos_iff.mpr hne
      refine ite2 (fun c => ?_) fun c => ?_
      · refine ⟨fun σ' H'' => ∃ m', m' < m ∧ ∃ done rem s T e4 e5, AnsSt t H a p tl xs m' σ' H'' done rem s T e4 e5, fun _ _ h => h, ?_⟩
        obtain ⟨hm1, hm2⟩ := hmy
        -- end = place + call_length(calls, place)
        refine ⟨_, rfl, _, rfl, _, rfl, a, xs.flatMap enc, rem.flatMap enc, (done.flatMap enc).length, x, rfl, hS', hdl, _, _, rfl, rfl, ?_⟩
        -- answer = answer_call(board, calls[place:end])
        refine ⟨_, rfl, _, rfl, _, rfl, _, rfl, _, rfl, _, rfl, a, _, rfl, hS', fun c hc0 => ?_⟩
        rw [cut_to hdl hne (by omega)]
        have s3 : Same H' (upd H' c (.lst (vz (enc x)))) := Same.new hc0
        have hc3 : (upd H' c (.lst (vz (enc x)))) c = some (.lst (vz (enc x))) := upd_same
        generalize upd H' c (.lst (vz (enc x))) = H3 at s3 hc3
        obtain ⟨d1, d2⟩ := does_act hm1
        have hxl : (enc x).length ≤ 100000 := by
          rw [List.flatMap_cons, List.length_append] at etot; omega
        refine ⟨p, c, upd H tl (.lst (vz T')), s.getD dummy, x, rfl, sb.trans s3, bd.same (Same.off s3), hc3, hxl, may_pre hm1, fun r H4 sb4 bd4 hr4 hrB => ?_⟩
        have hrtl : r ≠ tl := fun z => by rw [z, upd_same] at hrB; cases hrB
        have htl4 : H4 tl = some (.lst (vz T')) := sb4 tl _ upd_same
        have hal := ans_len (s.getD dummy) x
        have hgl : (s.getD dummy).gates.length ≤ 100000 := by
          obtain ⟨_, _, _, _, _, _, _, _, _, _, _, hb⟩ := bd
          have := hb.sz; omega
        rw [← d2] at hal hr4
        rw [← d1] at bd4
        generalize hout : wrKp149_Ans (does s x).2 = out at hal hr4
        have hdn : done.length + 1 ≤ 50 := by
          rw [hxs, List.length_append, List.length_cons] at hx50; omega
        have hT : T'.length ≤ 4900490 := by
          have : done.length * 100010 ≤ 49 * 100010 := Nat.mul_le_mul_right _ (by omega)
          omega
        have eol : (((vz out).length : Nat) : Int) = (out.length : Int) := by rw [List.length_map]
        -- told.append(len(answer)); told.extend(answer); place = end
        refine ⟨_, rfl, .inl ⟨rfl, _, SqL.of htl4⟩, _, rfl, r, _, rfl, .inl (SqL.of hr4), tl, _, _, rfl, rfl, htl4, by rw [List.length_map]; omega, ?_⟩
        refine ⟨_, rfl, .inl ⟨rfl, _, SqL.of upd_same⟩, _, rfl, tl, r, _, _, rfl, rfl, upd_same, (by rw [upd_ne hrtl]; exact hr4), ?_, ?_⟩
        · simp only [vz, List.length_append, List.length_map, List.length_cons, List.length_nil]; omega
        rw [upd_upd]
        have eT : vz T' ++ [V.int (((vz out).length : Nat) : Int)] ++ vz out = vz (T' ++ (out.length : Int) :: out) := by
          rw [eol]; simp [vz]
        rw [eT]
        refine ⟨_, rfl, rem.length, by simp at hms; omega, done ++ [x], rem, (does s x).1, T' ++ (out.length : Int) :: out, some (V.int (((done.flatMap enc).length : Int) + ((enc x).length : Int))), some (V.ref r), by rw [hxs]; simp, rfl, ?_, ?_, ?_, ?_, hm2, ?_⟩
        · show [_, _, _, some (V.int (((done.flatMap enc).length : Int) + ((enc x).length : Int))), _, _] = _
          have e : ((done.flatMap enc).length : Int) + ((enc x).length : Int) = (((done ++ [x]).flatMap enc).length : Int) := by
            rw [List.flatMap_append, List.length_append]
            simp
          rw [e]
        · intro b o e
          by_cases z : b = tl
          · subst z; rw [upd_same] at e ⊢; exact e
          · rw [upd_ne z] at e ⊢
            exact sb4 b o (by rw [upd_ne z]; exact e)
        · have eo : Off (upd H4 tl (.lst (vz (T' ++ (out.length : Int) :: out)))) (upd H tl (.lst (vz (T' ++ (out.length : Int) :: out)))) = Off H4 (upd H tl (.lst (vz T'))) := by
            have := off_upd (H := H4) (B := upd H tl (.lst (vz T'))) (c := tl) (x := .lst (vz T')) (y := .lst (vz (T' ++ (out.length : Int) :: out))) upd_same
            rw [upd_upd] at this
            exact this
          rw [eo]; exact bd4
        · rw [← hpl, ← hout]
          show _ = T' ++ (((wrKp149_Ans (does s x).2).length : Int) :: wrKp149_Ans (does s x).2 ++ play (does s x).1 rem)
          simp
        · rw [List.length_append, List.length_append, List.length_cons, List.length_cons, List.length_nil, Nat.add_mul]
          omega
      · have c : ¬ ((done.flatMap enc).length : Int) < (((vz (xs.flatMap enc)).length : Nat) : Int) := fun z => c (decide_eq_true z)
        rw [elen, etot, List.flatMap_cons, List.length_append] at c
        omega
end
end Wb

namespace Wb
open PySem L2
theorem us1 {us : List Value} (h : us.length = 1) : ∃ x0, us = [x0] :=
  match us, h with
  | [x0], _ => ⟨x0, rfl⟩
theorem us2 {us : List Value} (h : us.length = 2) : ∃ x0 x1, us = [x0, x1] :=
  match us, h with
  | [x0, x1], _ => ⟨x0, x1, rfl⟩
theorem us3 {us : List Value} (h : us.length = 3) : ∃ x0 x1 x2, us = [x0, x1, x2] :=
  match us, h with
  | [x0, x1, x2], _ => ⟨x0, x1, x2, rfl⟩
theorem us4 {us : List Value} (h : us.length = 4) : ∃ x0 x1 x2 x3, us = [x0, x1, x2, x3] :=
  match us, h with
  | [x0, x1, x2, x3], _ => ⟨x0, x1, x2, x3, rfl⟩
theorem us5 {us : List Value} (h : us.length = 5) : ∃ x0 x1 x2 x3 x4, us = [x0, x1, x2, x3, x4] :=
  match us, h with
  | [x0, x1, x2, x3, x4], _ => ⟨x0, x1, x2, x3, x4, rfl⟩
theorem all_mk {P : Program} {w : World} {K : PySem.W.Frag} {h : Heap} {mg : Str → Option Value} {fa dTab G N R A B f_gi f_ni f_ri f_ai f_an f_ao f_at f_bi f_bb f_b1 f_b2 f_b3 f_b4 f_br f_b5 f_b6 f_b7 f_so f_gf f_fu f_co f_al f_su f_en f_re f_wa f_rg f_cl f_ac f_an2 : Addr} (X : K.In h) (Gn : h.Ns mainGlobals mg) (hfa : mg "answers" = some (.ref fa))
    {od_gi an_gi od_ni an_ni od_ri an_ri od_ai an_ai od_an an_an od_ao an_ao od_at an_at od_bi an_bi od_bb an_bb od_b1 an_b1 od_b2 an_b2 od_b3 an_b3 od_b4 an_b4 od_br an_br od_b5 an_b5 od_b6 an_b6 od_b7 an_b7 od_so an_so od_gf an_gf od_fu an_fu od_co an_co od_al an_al od_su an_su od_en an_en od_re an_re od_wa an_wa od_rg an_rg od_cl an_cl od_ac an_ac od_an2 an_an2 : Option Addr} {sl_gi sl_ni sl_ri sl_ai sl_an sl_ao sl_at sl_bi sl_bb sl_b1 sl_b2 sl_b3 sl_b4 sl_br sl_b5 sl_b6 sl_b7 sl_so sl_gf sl_fu sl_co sl_al sl_su sl_en sl_re sl_wa sl_rg sl_cl sl_ac sl_an2 : Array (Option Value)} {oc_gi kV_gi dc_gi pm_gi cd_gi ct_gi oc_ni kV_ni dc_ni pm_ni cd_ni ct_ni oc_ri kV_ri dc_ri pm_ri cd_ri ct_ri oc_ai kV_ai dc_ai pm_ai cd_ai ct_ai oc_an kV_an dc_an pm_an cd_an ct_an oc_ao kV_ao dc_ao pm_ao cd_ao ct_ao oc_at kV_at dc_at pm_at cd_at ct_at oc_bi kV_bi dc_bi pm_bi cd_bi ct_bi oc_bb kV_bb dc_bb pm_bb cd_bb ct_bb oc_b1 kV_b1 dc_b1 pm_b1 cd_b1 ct_b1 oc_b2 kV_b2 dc_b2 pm_b2 cd_b2 ct_b2 oc_b3 kV_b3 dc_b3 pm_b3 cd_b3 ct_b3 oc_b4 kV_b4 dc_b4 pm_b4 cd_b4 ct_b4 oc_br kV_br dc_br pm_br cd_br ct_br oc_b5 kV_b5 dc_b5 pm_b5 cd_b5 ct_b5 oc_b6 kV_b6 dc_b6 pm_b6 cd_b6 ct_b6 oc_b7 kV_b7 dc_b7 pm_b7 cd_b7 ct_b7 oc_so kV_so dc_so pm_so cd_so ct_so oc_gf kV_gf dc_gf pm_gf cd_gf ct_gf oc_fu kV_fu dc_fu pm_fu cd_fu ct_fu oc_co kV_co dc_co pm_co cd_co ct_co oc_al kV_al dc_al pm_al cd_al ct_al oc_su kV_su dc_su pm_su cd_su ct_su oc_en kV_en dc_en pm_en cd_en ct_en oc_re kV_re dc_re pm_re cd_re ct_re oc_wa kV_wa dc_wa pm_wa cd_wa ct_wa oc_rg kV_rg dc_rg pm_rg cd_rg ct_rg oc_cl kV_cl dc_cl pm_cl cd_cl ct_cl oc_ac kV_ac dc_ac pm_ac cd_ac ct_ac oc_an2 kV_an2 dc_an2 pm_an2 cd_an2 ct_an2 : Value} {kNOT kNOR kUNSURE kNEVER kMOST_GATES kMOST_INPUTS kDONE kNOT_TOLD kNO_WAIT kNOT_VALID kNO_ROOM kFORM_NUMBER kFORM_TIME kFORM_WAY kTK_START kTK_SET kTK_WAIT kTK_GET kTK_WHEN kTK_WHY : Tok} {esT : Array DictEntry} {epT : Nat}
    (aG_ : PySem.W.nsIn K mainGlobals "Gate" = some (some (.ref G)))
    (aN_ : PySem.W.nsIn K mainGlobals "Net" = some (some (.ref N)))
    (aR_ : PySem.W.nsIn K mainGlobals "Rest" = some (some (.ref R)))
    (aA_ : PySem.W.nsIn K mainGlobals "Agenda" = some (some (.ref A)))
    (aB_ : PySem.W.nsIn K mainGlobals "Board" = some (some (.ref B)))
    (a_gi : PySem.W.findIn K (.ref G) "__init__" = some (some (.ref f_gi)))
    (i_gi : PySem.W.isFn K (.ref f_gi) = true)
    (l_gi : K.lookup f_gi = some ⟨oc_gi, od_gi, .func (PySem.W.fnOf "__init__" "Gate.__init__" (defArgs sGate) (defBody sGate) (defScope sGate) .none kV_gi dc_gi pm_gi an_gi cd_gi ct_gi), sl_gi⟩)
    (c_gi : PySem.W.codeIn K cd_gi "Gate.__init__" = true)
    (k_gi : PySem.W.keepIn K (.ref f_gi) = true)
    (a_ni : PySem.W.findIn K (.ref N) "__init__" = some (some (.ref f_ni)))
    (i_ni : PySem.W.isFn K (.ref f_ni) = true)
    (l_ni : K.lookup f_ni = some ⟨oc_ni, od_ni, .func (PySem.W.fnOf "__init__" "Net.__init__" (defArgs sNet) (defBody sNet) (defScope sNet) .none kV_ni dc_ni pm_ni an_ni cd_ni ct_ni), sl_ni⟩)
    (c_ni : PySem.W.codeIn K cd_ni "Net.__init__" = true)
    (k_ni : PySem.W.keepIn K (.ref f_ni) = true)
    (a_ri : PySem.W.findIn K (.ref R) "__init__" = some (some (.ref f_ri)))
    (i_ri : PySem.W.isFn K (.ref f_ri) = true)
    (l_ri : K.lookup f_ri = some ⟨oc_ri, od_ri, .func (PySem.W.fnOf "__init__" "Rest.__init__" (defArgs sRest) (defBody sRest) (defScope sRest) .none kV_ri dc_ri pm_ri an_ri cd_ri ct_ri), sl_ri⟩)
    (c_ri : PySem.W.codeIn K cd_ri "Rest.__init__" = true)
    (k_ri : PySem.W.keepIn K (.ref f_ri) = true)
    (a_ai : PySem.W.findIn K (.ref A) "__init__" = some (some (.ref f_ai)))
    (i_ai : PySem.W.isFn K (.ref f_ai) = true)
    (l_ai : K.lookup f_ai = some ⟨oc_ai, od_ai, .func (PySem.W.fnOf "__init__" "Agenda.__init__" (defArgs sAgenda) (defBody sAgenda) (defScope sAgenda) .none kV_ai dc_ai pm_ai an_ai cd_ai ct_ai), sl_ai⟩)
    (c_ai : PySem.W.codeIn K cd_ai "Agenda.__init__" = true)
    (k_ai : PySem.W.keepIn K (.ref f_ai) = true)
    (a_an : PySem.W.findIn K (.ref A) "note" = some (some (.ref f_an)))
    (i_an : PySem.W.isFn K (.ref f_an) = true)
    (l_an : K.lookup f_an = some ⟨oc_an, od_an, .func (PySem.W.fnOf "note" "Agenda.note" (defArgs sNote) (defBody sNote) (defScope sNote) .none kV_an dc_an pm_an an_an cd_an ct_an), sl_an⟩)
    (c_an : PySem.W.codeIn K cd_an "Agenda.note" = true)
    (k_an : PySem.W.keepIn K (.ref f_an) = true)
    (a_ao : PySem.W.findIn K (.ref A) "is_over" = some (some (.ref f_ao)))
    (i_ao : PySem.W.isFn K (.ref f_ao) = true)
    (l_ao : K.lookup f_ao = some ⟨oc_ao, od_ao, .func (PySem.W.fnOf "is_over" "Agenda.is_over" (defArgs sOver) (defBody sOver) (defScope sOver) .none kV_ao dc_ao pm_ao an_ao cd_ao ct_ao), sl_ao⟩)
    (c_ao : PySem.W.codeIn K cd_ao "Agenda.is_over" = true)
    (k_ao : PySem.W.keepIn K (.ref f_ao) = true)
    (a_at : PySem.W.findIn K (.ref A) "take_soonest" = some (some (.ref f_at)))
    (i_at : PySem.W.isFn K (.ref f_at) = true)
    (l_at : K.lookup f_at = some ⟨oc_at, od_at, .func (PySem.W.fnOf "take_soonest" "Agenda.take_soonest" (defArgs sTake) (defBody sTake) (defScope sTake) .none kV_at dc_at pm_at an_at cd_at ct_at), sl_at⟩)
    (c_at : PySem.W.codeIn K cd_at "Agenda.take_soonest" = true)
    (k_at : PySem.W.keepIn K (.ref f_at) = true)
    (a_bi : PySem.W.findIn K (.ref B) "__init__" = some (some (.ref f_bi)))
    (i_bi : PySem.W.isFn K (.ref f_bi) = true)
    (l_bi : K.lookup f_bi = some ⟨oc_bi, od_bi, .func (PySem.W.fnOf "__init__" "Board.__init__" (defArgs sBoard) (defBody sBoard) (defScope sBoard) .none kV_bi dc_bi pm_bi an_bi cd_bi ct_bi), sl_bi⟩)
    (c_bi : PySem.W.codeIn K cd_bi "Board.__init__" = true)
    (k_bi : PySem.W.keepIn K (.ref f_bi) = true)
    (a_bb : PySem.W.findIn K (.ref B) "begin" = some (some (.ref f_bb)))
    (i_bb : PySem.W.isFn K (.ref f_bb) = true)
    (l_bb : K.lookup f_bb = some ⟨oc_bb, od_bb, .func (PySem.W.fnOf "begin" "Board.begin" (defArgs sBegin) (defBody sBegin) (defScope sBegin) .none kV_bb dc_bb pm_bb an_bb cd_bb ct_bb), sl_bb⟩)
    (c_bb : PySem.W.codeIn K cd_bb "Board.begin" = true)
    (k_bb : PySem.W.keepIn K (.ref f_bb) = true)
    (a_b1 : PySem.W.findIn K (.ref B) "tk_start" = some (some (.ref f_b1)))
    (i_b1 : PySem.W.isFn K (.ref f_b1) = true)
    (l_b1 : K.lookup f_b1 = some ⟨oc_b1, od_b1, .func (PySem.W.fnOf "tk_start" "Board.tk_start" (defArgs sStart) (defBody sStart) (defScope sStart) .none kV_b1 dc_b1 pm_b1 an_b1 cd_b1 ct_b1), sl_b1⟩)
    (c_b1 : PySem.W.codeIn K cd_b1 "Board.tk_start" = true)
    (k_b1 : PySem.W.keepIn K (.ref f_b1) = true)
    (a_b2 : PySem.W.findIn K (.ref B) "tk_set" = some (some (.ref f_b2)))
    (i_b2 : PySem.W.isFn K (.ref f_b2) = true)
    (l_b2 : K.lookup f_b2 = some ⟨oc_b2, od_b2, .func (PySem.W.fnOf "tk_set" "Board.tk_set" (defArgs sSet) (defBody sSet) (defScope sSet) .none kV_b2 dc_b2 pm_b2 an_b2 cd_b2 ct_b2), sl_b2⟩)
    (c_b2 : PySem.W.codeIn K cd_b2 "Board.tk_set" = true)
    (k_b2 : PySem.W.keepIn K (.ref f_b2) = true)
    (a_b3 : PySem.W.findIn K (.ref B) "tk_wait" = some (some (.ref f_b3)))
    (i_b3 : PySem.W.isFn K (.ref f_b3) = true)
    (l_b3 : K.lookup f_b3 = some ⟨oc_b3, od_b3, .func (PySem.W.fnOf "tk_wait" "Board.tk_wait" (defArgs sWait) (defBody sWait) (defScope sWait) .none kV_b3 dc_b3 pm_b3 an_b3 cd_b3 ct_b3), sl_b3⟩)
    (c_b3 : PySem.W.codeIn K cd_b3 "Board.tk_wait" = true)
    (k_b3 : PySem.W.keepIn K (.ref f_b3) = true)
    (a_b4 : PySem.W.findIn K (.ref B) "tk_get" = some (some (.ref f_b4)))
    (i_b4 : PySem.W.isFn K (.ref f_b4) = true)
    (l_b4 : K.lookup f_b4 = some ⟨oc_b4, od_b4, .func (PySem.W.fnOf "tk_get" "Board.tk_get" (defArgs sGet) (defBody sGet) (defScope sGet) .none kV_b4 dc_b4 pm_b4 an_b4 cd_b4 ct_b4), sl_b4⟩)
    (c_b4 : PySem.W.codeIn K cd_b4 "Board.tk_get" = true)
    (k_b4 : PySem.W.keepIn K (.ref f_b4) = true)
    (a_br : PySem.W.findIn K (.ref B) "time_refusal" = some (some (.ref f_br)))
    (i_br : PySem.W.isFn K (.ref f_br) = true)
    (l_br : K.lookup f_br = some ⟨oc_br, od_br, .func (PySem.W.fnOf "time_refusal" "Board.time_refusal" (defArgs sRefusal) (defBody sRefusal) (defScope sRefusal) .none kV_br dc_br pm_br an_br cd_br ct_br), sl_br⟩)
    (c_br : PySem.W.codeIn K cd_br "Board.time_refusal" = true)
    (k_br : PySem.W.keepIn K (.ref f_br) = true)
    (a_b5 : PySem.W.findIn K (.ref B) "tk_when" = some (some (.ref f_b5)))
    (i_b5 : PySem.W.isFn K (.ref f_b5) = true)
    (l_b5 : K.lookup f_b5 = some ⟨oc_b5, od_b5, .func (PySem.W.fnOf "tk_when" "Board.tk_when" (defArgs sWhen) (defBody sWhen) (defScope sWhen) .none kV_b5 dc_b5 pm_b5 an_b5 cd_b5 ct_b5), sl_b5⟩)
    (c_b5 : PySem.W.codeIn K cd_b5 "Board.tk_when" = true)
    (k_b5 : PySem.W.keepIn K (.ref f_b5) = true)
    (a_b6 : PySem.W.findIn K (.ref B) "tk_why" = some (some (.ref f_b6)))
    (i_b6 : PySem.W.isFn K (.ref f_b6) = true)
    (l_b6 : K.lookup f_b6 = some ⟨oc_b6, od_b6, .func (PySem.W.fnOf "tk_why" "Board.tk_why" (defArgs sWhy) (defBody sWhy) (defScope sWhy) .none kV_b6 dc_b6 pm_b6 an_b6 cd_b6 ct_b6), sl_b6⟩)
    (c_b6 : PySem.W.codeIn K cd_b6 "Board.tk_why" = true)
    (k_b6 : PySem.W.keepIn K (.ref f_b6) = true)
    (a_b7 : PySem.W.findIn K (.ref B) "tk_longest" = some (some (.ref f_b7)))
    (i_b7 : PySem.W.isFn K (.ref f_b7) = true)
    (l_b7 : K.lookup f_b7 = some ⟨oc_b7, od_b7, .func (PySem.W.fnOf "tk_longest" "Board.tk_longest" (defArgs sLongest) (defBody sLongest) (defScope sLongest) .none kV_b7 dc_b7 pm_b7 an_b7 cd_b7 ct_b7), sl_b7⟩)
    (c_b7 : PySem.W.codeIn K cd_b7 "Board.tk_longest" = true)
    (k_b7 : PySem.W.keepIn K (.ref f_b7) = true)
    (a_so : PySem.W.nsIn K mainGlobals "sources" = some (some (.ref f_so)))
    (l_so : K.lookup f_so = some ⟨oc_so, od_so, .func (PySem.W.fnOf "sources" "sources" (defArgs sSources) (defBody sSources) (defScope sSources) .none kV_so dc_so pm_so an_so cd_so ct_so), sl_so⟩)
    (c_so : PySem.W.codeIn K cd_so "sources" = true)
    (k_so : PySem.W.keepIn K (.ref f_so) = true)
    (a_gf : PySem.W.nsIn K mainGlobals "gate_fits" = some (some (.ref f_gf)))
    (l_gf : K.lookup f_gf = some ⟨oc_gf, od_gf, .func (PySem.W.fnOf "gate_fits" "gate_fits" (defArgs sFits) (defBody sFits) (defScope sFits) .none kV_gf dc_gf pm_gf an_gf cd_gf ct_gf), sl_gf⟩)
    (c_gf : PySem.W.codeIn K cd_gf "gate_fits" = true)
    (k_gf : PySem.W.keepIn K (.ref f_gf) = true)
    (a_fu : PySem.W.nsIn K mainGlobals "find_users" = some (some (.ref f_fu)))
    (l_fu : K.lookup f_fu = some ⟨oc_fu, od_fu, .func (PySem.W.fnOf "find_users" "find_users" (defArgs sUsers) (defBody sUsers) (defScope sUsers) .none kV_fu dc_fu pm_fu an_fu cd_fu ct_fu), sl_fu⟩)
    (c_fu : PySem.W.codeIn K cd_fu "find_users" = true)
    (k_fu : PySem.W.keepIn K (.ref f_fu) = true)
    (a_co : PySem.W.nsIn K mainGlobals "comes_to" = some (some (.ref f_co)))
    (l_co : K.lookup f_co = some ⟨oc_co, od_co, .func (PySem.W.fnOf "comes_to" "comes_to" (defArgs sComes) (defBody sComes) (defScope sComes) .none kV_co dc_co pm_co an_co cd_co ct_co), sl_co⟩)
    (c_co : PySem.W.codeIn K cd_co "comes_to" = true)
    (k_co : PySem.W.keepIn K (.ref f_co) = true)
    (a_al : PySem.W.nsIn K mainGlobals "always_so" = some (some (.ref f_al)))
    (l_al : K.lookup f_al = some ⟨oc_al, od_al, .func (PySem.W.fnOf "always_so" "always_so" (defArgs sAlways) (defBody sAlways) (defScope sAlways) .none kV_al dc_al pm_al an_al cd_al ct_al), sl_al⟩)
    (c_al : PySem.W.codeIn K cd_al "always_so" = true)
    (k_al : PySem.W.keepIn K (.ref f_al) = true)
    (a_su : PySem.W.nsIn K mainGlobals "note_the_sure" = some (some (.ref f_su)))
    (l_su : K.lookup f_su = some ⟨oc_su, od_su, .func (PySem.W.fnOf "note_the_sure" "note_the_sure" (defArgs sSure) (defBody sSure) (defScope sSure) .none kV_su dc_su pm_su an_su cd_su ct_su), sl_su⟩)
    (c_su : PySem.W.codeIn K cd_su "note_the_sure" = true)
    (k_su : PySem.W.keepIn K (.ref f_su) = true)
    (a_en : PySem.W.nsIn K mainGlobals "in_the_end" = some (some (.ref f_en)))
    (l_en : K.lookup f_en = some ⟨oc_en, od_en, .func (PySem.W.fnOf "in_the_end" "in_the_end" (defArgs sEnd) (defBody sEnd) (defScope sEnd) .none kV_en dc_en pm_en an_en cd_en ct_en), sl_en⟩)
    (c_en : PySem.W.codeIn K cd_en "in_the_end" = true)
    (k_en : PySem.W.keepIn K (.ref f_en) = true)
    (a_re : PySem.W.nsIn K mainGlobals "reason" = some (some (.ref f_re)))
    (l_re : K.lookup f_re = some ⟨oc_re, od_re, .func (PySem.W.fnOf "reason" "reason" (defArgs sReason) (defBody sReason) (defScope sReason) .none kV_re dc_re pm_re an_re cd_re ct_re), sl_re⟩)
    (c_re : PySem.W.codeIn K cd_re "reason" = true)
    (k_re : PySem.W.keepIn K (.ref f_re) = true)
    (a_wa : PySem.W.nsIn K mainGlobals "way_from" = some (some (.ref f_wa)))
    (l_wa : K.lookup f_wa = some ⟨oc_wa, od_wa, .func (PySem.W.fnOf "way_from" "way_from" (defArgs sWay) (defBody sWay) (defScope sWay) .none kV_wa dc_wa pm_wa an_wa cd_wa ct_wa), sl_wa⟩)
    (c_wa : PySem.W.codeIn K cd_wa "way_from" = true)
    (k_wa : PySem.W.keepIn K (.ref f_wa) = true)
    (a_rg : PySem.W.nsIn K mainGlobals "read_gates" = some (some (.ref f_rg)))
    (l_rg : K.lookup f_rg = some ⟨oc_rg, od_rg, .func (PySem.W.fnOf "read_gates" "read_gates" (defArgs sRead) (defBody sRead) (defScope sRead) .none kV_rg dc_rg pm_rg an_rg cd_rg ct_rg), sl_rg⟩)
    (c_rg : PySem.W.codeIn K cd_rg "read_gates" = true)
    (k_rg : PySem.W.keepIn K (.ref f_rg) = true)
    (a_cl : PySem.W.nsIn K mainGlobals "call_length" = some (some (.ref f_cl)))
    (l_cl : K.lookup f_cl = some ⟨oc_cl, od_cl, .func (PySem.W.fnOf "call_length" "call_length" (defArgs sLen) (defBody sLen) (defScope sLen) .none kV_cl dc_cl pm_cl an_cl cd_cl ct_cl), sl_cl⟩)
    (c_cl : PySem.W.codeIn K cd_cl "call_length" = true)
    (k_cl : PySem.W.keepIn K (.ref f_cl) = true)
    (a_ac : PySem.W.nsIn K mainGlobals "answer_call" = some (some (.ref f_ac)))
    (l_ac : K.lookup f_ac = some ⟨oc_ac, od_ac, .func (PySem.W.fnOf "answer_call" "answer_call" (defArgs sCall) (defBody sCall) (defScope sCall) .none kV_ac dc_ac pm_ac an_ac cd_ac ct_ac), sl_ac⟩)
    (c_ac : PySem.W.codeIn K cd_ac "answer_call" = true)
    (k_ac : PySem.W.keepIn K (.ref f_ac) = true)
    (a_an2 : PySem.W.nsIn K mainGlobals "answers" = some (some (.ref f_an2)))
    (l_an2 : K.lookup f_an2 = some ⟨oc_an2, od_an2, .func (PySem.W.fnOf "answers" "answers" (defArgs sAnswers) (defBody sAnswers) (defScope sAnswers) .none kV_an2 dc_an2 pm_an2 an_an2 cd_an2 ct_an2), sl_an2⟩)
    (c_an2 : PySem.W.codeIn K cd_an2 "answers" = true)
    (k_an2 : PySem.W.keepIn K (.ref f_an2) = true)
    (pgG : PySem.W.plainGet K G Str.empty = true)
    (hdG : PySem.W.hasDictIn K G = true)
    (poG : PySem.W.plainOver K G = true)
    (saG : PySem.W.findIn K (.ref G) "__setattr__" = some (some (.builtin "object.__setattr__")))
    (mkG : PySem.W.makesIn K G = true)
    (kcG : PySem.W.keepIn K (.ref G) = true)
    (xgKind : PySem.W.findIn K (.ref G) "kind" = some none)
    (xgA : PySem.W.findIn K (.ref G) "a" = some none)
    (xgB : PySem.W.findIn K (.ref G) "b" = some none)
    (xgMost : PySem.W.findIn K (.ref G) "most" = some none)
    (pgN : PySem.W.plainGet K N Str.empty = true)
    (hdN : PySem.W.hasDictIn K N = true)
    (poN : PySem.W.plainOver K N = true)
    (saN : PySem.W.findIn K (.ref N) "__setattr__" = some (some (.builtin "object.__setattr__")))
    (mkN : PySem.W.makesIn K N = true)
    (kcN : PySem.W.keepIn K (.ref N) = true)
    (xnInputs : PySem.W.findIn K (.ref N) "inputs" = some none)
    (xnGates : PySem.W.findIn K (.ref N) "gates" = some none)
    (xnUsers : PySem.W.findIn K (.ref N) "users" = some none)
    (xnSignals : PySem.W.findIn K (.ref N) "signals" = some none)
    (pgR : PySem.W.plainGet K R Str.empty = true)
    (hdR : PySem.W.hasDictIn K R = true)
    (poR : PySem.W.plainOver K R = true)
    (saR : PySem.W.findIn K (.ref R) "__setattr__" = some (some (.builtin "object.__setattr__")))
    (mkR : PySem.W.makesIn K R = true)
    (kcR : PySem.W.keepIn K (.ref R) = true)
    (xrOn : PySem.W.findIn K (.ref R) "on" = some none)
    (xrWhen : PySem.W.findIn K (.ref R) "when" = some none)
    (pgA : PySem.W.plainGet K A Str.empty = true)
    (hdA : PySem.W.hasDictIn K A = true)
    (poA : PySem.W.plainOver K A = true)
    (saA : PySem.W.findIn K (.ref A) "__setattr__" = some (some (.builtin "object.__setattr__")))
    (mkA : PySem.W.makesIn K A = true)
    (kcA : PySem.W.keepIn K (.ref A) = true)
    (xaEnt : PySem.W.findIn K (.ref A) "entries" = some none)
    (pgB : PySem.W.plainGet K B Str.empty = true)
    (hdB : PySem.W.hasDictIn K B = true)
    (poB : PySem.W.plainOver K B = true)
    (saB : PySem.W.findIn K (.ref B) "__setattr__" = some (some (.builtin "object.__setattr__")))
    (mkB : PySem.W.makesIn K B = true)
    (kcB : PySem.W.keepIn K (.ref B) = true)
    (xtNet : PySem.W.findIn K (.ref B) "net" = some none)
    (xtIns : PySem.W.findIn K (.ref B) "ins" = some none)
    (xtLoose : PySem.W.findIn K (.ref B) "loose" = some none)
    (xtBefore : PySem.W.findIn K (.ref B) "before" = some none)
    (xtWhen : PySem.W.findIn K (.ref B) "when" = some none)
    (xtLongest : PySem.W.findIn K (.ref B) "longest" = some none)
    (vNOT : PySem.W.nsIn K mainGlobals "NOT" = some (some (.int 0 kNOT)))
    (vNOR : PySem.W.nsIn K mainGlobals "NOR" = some (some (.int 2 kNOR)))
    (vUNSURE : PySem.W.nsIn K mainGlobals "UNSURE" = some (some (.int 2 kUNSURE)))
    (vNEVER : PySem.W.nsIn K mainGlobals "NEVER" = some (some (.int (-1) kNEVER)))
    (vMOST_GATES : PySem.W.nsIn K mainGlobals "MOST_GATES" = some (some (.int 16384 kMOST_GATES)))
    (vMOST_INPUTS : PySem.W.nsIn K mainGlobals "MOST_INPUTS" = some (some (.int 1024 kMOST_INPUTS)))
    (vDONE : PySem.W.nsIn K mainGlobals "DONE" = some (some (.int 0 kDONE)))
    (vNOT_TOLD : PySem.W.nsIn K mainGlobals "NOT_TOLD" = some (some (.int (-2) kNOT_TOLD)))
    (vNO_WAIT : PySem.W.nsIn K mainGlobals "NO_WAIT" = some (some (.int (-11) kNO_WAIT)))
    (vNOT_VALID : PySem.W.nsIn K mainGlobals "NOT_VALID" = some (some (.int (-22) kNOT_VALID)))
    (vNO_ROOM : PySem.W.nsIn K mainGlobals "NO_ROOM" = some (some (.int (-28) kNO_ROOM)))
    (vFORM_NUMBER : PySem.W.nsIn K mainGlobals "FORM_NUMBER" = some (some (.int 0 kFORM_NUMBER)))
    (vFORM_TIME : PySem.W.nsIn K mainGlobals "FORM_TIME" = some (some (.int 1 kFORM_TIME)))
    (vFORM_WAY : PySem.W.nsIn K mainGlobals "FORM_WAY" = some (some (.int 2 kFORM_WAY)))
    (vTK_START : PySem.W.nsIn K mainGlobals "TK_START" = some (some (.int 0 kTK_START)))
    (vTK_SET : PySem.W.nsIn K mainGlobals "TK_SET" = some (some (.int 1 kTK_SET)))
    (vTK_WAIT : PySem.W.nsIn K mainGlobals "TK_WAIT" = some (some (.int 2 kTK_WAIT)))
    (vTK_GET : PySem.W.nsIn K mainGlobals "TK_GET" = some (some (.int 3 kTK_GET)))
    (vTK_WHEN : PySem.W.nsIn K mainGlobals "TK_WHEN" = some (some (.int 4 kTK_WHEN)))
    (vTK_WHY : PySem.W.nsIn K mainGlobals "TK_WHY" = some (some (.int 5 kTK_WHY)))
    (ybLen : PySem.W.nsIn K mainGlobals "len" = some none)
    (ybMax : PySem.W.nsIn K mainGlobals "max" = some none)
    (ybRange : PySem.W.nsIn K mainGlobals "range" = some none)
    (ybList : PySem.W.nsIn K mainGlobals "list" = some none)
    (ybEnum : PySem.W.nsIn K mainGlobals "enumerate" = some none)
    (ybMin : PySem.W.nsIn K mainGlobals "min" = some none)
    (aTab : PySem.W.nsIn K mainGlobals "CALL_LENGTHS" = some (some (.ref dTab)))
    (lTab : K.lookup dTab = some ⟨.type "dict", none, .dict esT epT, #[]⟩)
    (zTab : tabEs esT.toList = some [(0, 3), (1, 3), (2, 1), (3, 2), (4, 2), (5, 3), (6, 1)])
    (zBN : B ≠ N)
    (zBG : B ≠ G)
    : ∃ fd : FuncData, (∀ (s : Shared) (v : Value), BindsTo s fd ⟨[v], []⟩ [("calls", v)]) ∧ ∀ base : Heap, K.In base → base.Ns mainGlobals mg → FnOk P w K mg base CX0 7 fa fd ["calls"] (spAnswers K) := by
  have e := hfa.symm.trans (PySem.W.mg_of X Gn a_an2)
  cases e
  let t : Adr := ⟨G, N, R, A, B⟩
  have T : Txt K mg t := { clG := ⟨pgG, hdG, poG, saG⟩, mgG := PySem.W.mg_of X Gn aG_, gKind := xgKind, gA := xgA, gB := xgB, gMost := xgMost, clN := ⟨pgN, hdN, poN, saN⟩, mgN := PySem.W.mg_of X Gn aN_, nInputs := xnInputs, nGates := xnGates, nUsers := xnUsers, nSignals := xnSignals, clR := ⟨pgR, hdR, poR, saR⟩, mgR := PySem.W.mg_of X Gn aR_, rOn := xrOn, rWhen := xrWhen, clA := ⟨pgA, hdA, poA, saA⟩, mgA := PySem.W.mg_of X Gn aA_, aEnt := xaEnt, clB := ⟨pgB, hdB, poB, saB⟩, mgB := PySem.W.mg_of X Gn aB_, tNet := xtNet, tIns := xtIns, tLoose := xtLoose, tBefore := xtBefore, tWhen := xtWhen, tLongest := xtLongest, cNOT := ⟨_, PySem.W.mg_of X Gn vNOT, ⟨_, rfl⟩⟩, cNOR := ⟨_, PySem.W.mg_of X Gn vNOR, ⟨_, rfl⟩⟩, cUNSURE := ⟨_, PySem.W.mg_of X Gn vUNSURE, ⟨_, rfl⟩⟩, cNEVER := ⟨_, PySem.W.mg_of X Gn vNEVER, ⟨_, rfl⟩⟩, cMOST_GATES := ⟨_, PySem.W.mg_of X Gn vMOST_GATES, ⟨_, rfl⟩⟩, cMOST_INPUTS := ⟨_, PySem.W.mg_of X Gn vMOST_INPUTS, ⟨_, rfl⟩⟩, cDONE := ⟨_, PySem.W.mg_of X Gn vDONE, ⟨_, rfl⟩⟩, cNOT_TOLD := ⟨_, PySem.W.mg_of X Gn vNOT_TOLD, ⟨_, rfl⟩⟩, cNO_WAIT := ⟨_, PySem.W.mg_of X Gn vNO_WAIT, ⟨_, rfl⟩⟩, cNOT_VALID := ⟨_, PySem.W.mg_of X Gn vNOT_VALID, ⟨_, rfl⟩⟩, cNO_ROOM := ⟨_, PySem.W.mg_of X Gn vNO_ROOM, ⟨_, rfl⟩⟩, cFORM_NUMBER := ⟨_, PySem.W.mg_of X Gn vFORM_NUMBER, ⟨_, rfl⟩⟩, cFORM_TIME := ⟨_, PySem.W.mg_of X Gn vFORM_TIME, ⟨_, rfl⟩⟩, cFORM_WAY := ⟨_, PySem.W.mg_of X Gn vFORM_WAY, ⟨_, rfl⟩⟩, cTK_START := ⟨_, PySem.W.mg_of X Gn vTK_START, ⟨_, rfl⟩⟩, cTK_SET := ⟨_, PySem.W.mg_of X Gn vTK_SET, ⟨_, rfl⟩⟩, cTK_WAIT := ⟨_, PySem.W.mg_of X Gn vTK_WAIT, ⟨_, rfl⟩⟩, cTK_GET := ⟨_, PySem.W.mg_of X Gn vTK_GET, ⟨_, rfl⟩⟩, cTK_WHEN := ⟨_, PySem.W.mg_of X Gn vTK_WHEN, ⟨_, rfl⟩⟩, cTK_WHY := ⟨_, PySem.W.mg_of X Gn vTK_WHY, ⟨_, rfl⟩⟩, bLen := PySem.W.mg_none_of X Gn ybLen, bMax := PySem.W.mg_none_of X Gn ybMax, bRange := PySem.W.mg_none_of X Gn ybRange, bList := PySem.W.mg_none_of X Gn ybList, bEnum := PySem.W.mg_none_of X Gn ybEnum, bMin := PySem.W.mg_none_of X Gn ybMin, tab := ⟨dTab, PySem.W.mg_of X Gn aTab, ⟨⟨_, esT, epT, lTab, ⟨rfl, rfl, rfl⟩, rfl, zTab⟩, by decide⟩⟩, neBN := zBN, neBG := zBG }
  have F_gi := fun_mk (st := sGate) l_gi c_gi k_gi
  have b_gi := F_gi.binds (ps := ["self", "kind", "a", "b", "most"]) fun _ _ _ _ _ _ us hl => by obtain ⟨x0, x1, x2, x3, x4, rfl⟩ := us5 (show us.length = 5 from hl); rfl
  have F_ni := fun_mk (st := sNet) l_ni c_ni k_ni
  have b_ni := F_ni.binds (ps := ["self", "inputs", "gates"]) fun _ _ _ _ _ _ us hl => by obtain ⟨x0, x1, x2, rfl⟩ := us3 (show us.length = 3 from hl); rfl
  have F_ri := fun_mk (st := sRest) l_ri c_ri k_ri
  have b_ri := F_ri.binds (ps := ["self", "on", "when"]) fun _ _ _ _ _ _ us hl => by obtain ⟨x0, x1, x2, rfl⟩ := us3 (show us.length = 3 from hl); rfl
  have F_ai := fun_mk (st := sAgenda) l_ai c_ai k_ai
  have b_ai := F_ai.binds (ps := ["self"]) fun _ _ _ _ _ _ us hl => by obtain ⟨x0, rfl⟩ := us1 (show us.length = 1 from hl); rfl
  have F_an := fun_mk (st := sNote) l_an c_an k_an
  have b_an := F_an.binds (ps := ["self", "time", "place"]) fun _ _ _ _ _ _ us hl => by obtain ⟨x0, x1, x2, rfl⟩ := us3 (show us.length = 3 from hl); rfl
  have F_ao := fun_mk (st := sOver) l_ao c_ao k_ao
  have b_ao := F_ao.binds (ps := ["self"]) fun _ _ _ _ _ _ us hl => by obtain ⟨x0, rfl⟩ := us1 (show us.length = 1 from hl); rfl
  have F_at := fun_mk (st := sTake) l_at c_at k_at
  have b_at := F_at.binds (ps := ["self"]) fun _ _ _ _ _ _ us hl => by obtain ⟨x0, rfl⟩ := us1 (show us.length = 1 from hl); rfl
  have F_bi := fun_mk (st := sBoard) l_bi c_bi k_bi
  have b_bi := F_bi.binds (ps := ["self"]) fun _ _ _ _ _ _ us hl => by obtain ⟨x0, rfl⟩ := us1 (show us.length = 1 from hl); rfl
  have F_bb := fun_mk (st := sBegin) l_bb c_bb k_bb
  have b_bb := F_bb.binds (ps := ["self", "net"]) fun _ _ _ _ _ _ us hl => by obtain ⟨x0, x1, rfl⟩ := us2 (show us.length = 2 from hl); rfl
  have F_b1 := fun_mk (st := sStart) l_b1 c_b1 k_b1
  have b_b1 := F_b1.binds (ps := ["self", "g", "inputs"]) fun _ _ _ _ _ _ us hl => by obtain ⟨x0, x1, x2, rfl⟩ := us3 (show us.length = 3 from hl); rfl
  have F_b2 := fun_mk (st := sSet) l_b2 c_b2 k_b2
  have b_b2 := F_b2.binds (ps := ["self", "signal", "bit"]) fun _ _ _ _ _ _ us hl => by obtain ⟨x0, x1, x2, rfl⟩ := us3 (show us.length = 3 from hl); rfl
  have F_b3 := fun_mk (st := sWait) l_b3 c_b3 k_b3
  have b_b3 := F_b3.binds (ps := ["self"]) fun _ _ _ _ _ _ us hl => by obtain ⟨x0, rfl⟩ := us1 (show us.length = 1 from hl); rfl
  have F_b4 := fun_mk (st := sGet) l_b4 c_b4 k_b4
  have b_b4 := F_b4.binds (ps := ["self", "signal"]) fun _ _ _ _ _ _ us hl => by obtain ⟨x0, x1, rfl⟩ := us2 (show us.length = 2 from hl); rfl
  have F_br := fun_mk (st := sRefusal) l_br c_br k_br
  have b_br := F_br.binds (ps := ["self", "signal"]) fun _ _ _ _ _ _ us hl => by obtain ⟨x0, x1, rfl⟩ := us2 (show us.length = 2 from hl); rfl
  have F_b5 := fun_mk (st := sWhen) l_b5 c_b5 k_b5
  have b_b5 := F_b5.binds (ps := ["self", "signal"]) fun _ _ _ _ _ _ us hl => by obtain ⟨x0, x1, rfl⟩ := us2 (show us.length = 2 from hl); rfl
  have F_b6 := fun_mk (st := sWhy) l_b6 c_b6 k_b6
  have b_b6 := F_b6.binds (ps := ["self", "signal", "room"]) fun _ _ _ _ _ _ us hl => by obtain ⟨x0, x1, x2, rfl⟩ := us3 (show us.length = 3 from hl); rfl
  have F_b7 := fun_mk (st := sLongest) l_b7 c_b7 k_b7
  have b_b7 := F_b7.binds (ps := ["self"]) fun _ _ _ _ _ _ us hl => by obtain ⟨x0, rfl⟩ := us1 (show us.length = 1 from hl); rfl
  have F_so := fun_mk (st := sSources) l_so c_so k_so
  have b_so := F_so.binds (ps := ["gate"]) fun _ _ _ _ _ _ us hl => by obtain ⟨x0, rfl⟩ := us1 (show us.length = 1 from hl); rfl
  have F_gf := fun_mk (st := sFits) l_gf c_gf k_gf
  have b_gf := F_gf.binds (ps := ["gate", "signals"]) fun _ _ _ _ _ _ us hl => by obtain ⟨x0, x1, rfl⟩ := us2 (show us.length = 2 from hl); rfl
  have F_fu := fun_mk (st := sUsers) l_fu c_fu k_fu
  have b_fu := F_fu.binds (ps := ["inputs", "gates"]) fun _ _ _ _ _ _ us hl => by obtain ⟨x0, x1, rfl⟩ := us2 (show us.length = 2 from hl); rfl
  have F_co := fun_mk (st := sComes) l_co c_co k_co
  have b_co := F_co.binds (ps := ["gate", "on"]) fun _ _ _ _ _ _ us hl => by obtain ⟨x0, x1, rfl⟩ := us2 (show us.length = 2 from hl); rfl
  have F_al := fun_mk (st := sAlways) l_al c_al k_al
  have b_al := F_al.binds (ps := ["net", "loose", "before"]) fun _ _ _ _ _ _ us hl => by obtain ⟨x0, x1, x2, rfl⟩ := us3 (show us.length = 3 from hl); rfl
  have F_su := fun_mk (st := sSure) l_su c_su k_su
  have b_su := F_su.binds (ps := ["net", "rest", "agenda", "time", "places"]) fun _ _ _ _ _ _ us hl => by obtain ⟨x0, x1, x2, x3, x4, rfl⟩ := us5 (show us.length = 5 from hl); rfl
  have F_en := fun_mk (st := sEnd) l_en c_en k_en
  have b_en := F_en.binds (ps := ["net", "ins", "always"]) fun _ _ _ _ _ _ us hl => by obtain ⟨x0, x1, x2, rfl⟩ := us3 (show us.length = 3 from hl); rfl
  have F_re := fun_mk (st := sReason) l_re c_re k_re
  have b_re := F_re.binds (ps := ["gate", "time", "when"]) fun _ _ _ _ _ _ us hl => by obtain ⟨x0, x1, x2, rfl⟩ := us3 (show us.length = 3 from hl); rfl
  have F_wa := fun_mk (st := sWay) l_wa c_wa k_wa
  have b_wa := F_wa.binds (ps := ["net", "when", "signal"]) fun _ _ _ _ _ _ us hl => by obtain ⟨x0, x1, x2, rfl⟩ := us3 (show us.length = 3 from hl); rfl
  have F_rg := fun_mk (st := sRead) l_rg c_rg k_rg
  have b_rg := F_rg.binds (ps := ["g"]) fun _ _ _ _ _ _ us hl => by obtain ⟨x0, rfl⟩ := us1 (show us.length = 1 from hl); rfl
  have F_cl := fun_mk (st := sLen) l_cl c_cl k_cl
  have b_cl := F_cl.binds (ps := ["calls", "place"]) fun _ _ _ _ _ _ us hl => by obtain ⟨x0, x1, rfl⟩ := us2 (show us.length = 2 from hl); rfl
  have F_ac := fun_mk (st := sCall) l_ac c_ac k_ac
  have b_ac := F_ac.binds (ps := ["board", "call"]) fun _ _ _ _ _ _ us hl => by obtain ⟨x0, x1, rfl⟩ := us2 (show us.length = 2 from hl); rfl
  have F_an2 := fun_mk (st := sAnswers) l_an2 c_an2 k_an2
  have b_an2 := F_an2.binds (ps := ["calls"]) fun _ _ _ _ _ _ us hl => by obtain ⟨x0, rfl⟩ := us1 (show us.length = 1 from hl); rfl
  refine ⟨PySem.W.fnOf "answers" "answers" (defArgs sAnswers) (defBody sAnswers) (defScope sAnswers) .none kV_an2 dc_an2 pm_an2 an_an2 cd_an2 ct_an2, fun s v => .of_eq rfl, fun base _ _ => ?_⟩
  have Dso : Df K mg "sources" sSources ["gate"] f_so _ := ⟨F_so, b_so, PySem.W.mg_of X Gn a_so⟩
  have Dgf : Df K mg "gate_fits" sFits ["gate", "signals"] f_gf _ := ⟨F_gf, b_gf, PySem.W.mg_of X Gn a_gf⟩
  have Dfu : Df K mg "find_users" sUsers ["inputs", "gates"] f_fu _ := ⟨F_fu, b_fu, PySem.W.mg_of X Gn a_fu⟩
  have Dco : Df K mg "comes_to" sComes ["gate", "on"] f_co _ := ⟨F_co, b_co, PySem.W.mg_of X Gn a_co⟩
  have Dal : Df K mg "always_so" sAlways ["net", "loose", "before"] f_al _ := ⟨F_al, b_al, PySem.W.mg_of X Gn a_al⟩
  have Dsu : Df K mg "note_the_sure" sSure ["net", "rest", "agenda", "time", "places"] f_su _ := ⟨F_su, b_su, PySem.W.mg_of X Gn a_su⟩
  have Den : Df K mg "in_the_end" sEnd ["net", "ins", "always"] f_en _ := ⟨F_en, b_en, PySem.W.mg_of X Gn a_en⟩
  have Dre : Df K mg "reason" sReason ["gate", "time", "when"] f_re _ := ⟨F_re, b_re, PySem.W.mg_of X Gn a_re⟩
  have Dwa : Df K mg "way_from" sWay ["net", "when", "signal"] f_wa _ := ⟨F_wa, b_wa, PySem.W.mg_of X Gn a_wa⟩
  have Drg : Df K mg "read_gates" sRead ["g"] f_rg _ := ⟨F_rg, b_rg, PySem.W.mg_of X Gn a_rg⟩
  have Dcl : Df K mg "call_length" sLen ["calls", "place"] f_cl _ := ⟨F_cl, b_cl, PySem.W.mg_of X Gn a_cl⟩
  have Dac : Df K mg "answer_call" sCall ["board", "call"] f_ac _ := ⟨F_ac, b_ac, PySem.W.mg_of X Gn a_ac⟩
  have Man : Mf K t.A "note" "Agenda.note" sNote ["self", "time", "place"] f_an _ := ⟨F_an, b_an, ⟨a_an, i_an, k_an⟩⟩
  have Mao : Mf K t.A "is_over" "Agenda.is_over" sOver ["self"] f_ao _ := ⟨F_ao, b_ao, ⟨a_ao, i_ao, k_ao⟩⟩
  have Mat : Mf K t.A "take_soonest" "Agenda.take_soonest" sTake ["self"] f_at _ := ⟨F_at, b_at, ⟨a_at, i_at, k_at⟩⟩
  have Mbb : Mf K t.B "begin" "Board.begin" sBegin ["self", "net"] f_bb _ := ⟨F_bb, b_bb, ⟨a_bb, i_bb, k_bb⟩⟩
  have Mbr : Mf K t.B "time_refusal" "Board.time_refusal" sRefusal ["self", "signal"] f_br _ := ⟨F_br, b_br, ⟨a_br, i_br, k_br⟩⟩
  have MM : Meths K t f_b1 f_b2 f_b3 f_b4 f_b5 f_b6 f_b7 _ _ _ _ _ _ _ := ⟨⟨F_b1, b_b1, ⟨a_b1, i_b1, k_b1⟩⟩, ⟨F_b2, b_b2, ⟨a_b2, i_b2, k_b2⟩⟩, ⟨F_b3, b_b3, ⟨a_b3, i_b3, k_b3⟩⟩, ⟨F_b4, b_b4, ⟨a_b4, i_b4, k_b4⟩⟩, ⟨F_b5, b_b5, ⟨a_b5, i_b5, k_b5⟩⟩, ⟨F_b6, b_b6, ⟨a_b6, i_b6, k_b6⟩⟩, ⟨F_b7, b_b7, ⟨a_b7, i_b7, k_b7⟩⟩⟩
  have MkG : Mk K t.G f_gi := ⟨mkG, a_gi, i_gi, kcG⟩
  have MkN : Mk K t.N f_ni := ⟨mkN, a_ni, i_ni, kcN⟩
  have MkR : Mk K t.R f_ri := ⟨mkR, a_ri, i_ri, kcR⟩
  have MkA : Mk K t.A f_ai := ⟨mkA, a_ai, i_ai, kcA⟩
  have MkB : Mk K t.B f_bi := ⟨mkB, a_bi, i_bi, kcB⟩
  have Gen := ok_end (P := P) (w := w) (base := base) Den.F T Dco Man Dsu MkR F_ri b_ri MkA F_ai b_ai Mao Mat
  have GG : MethsOk P w K mg base t f_b1 f_b2 f_b3 f_b4 f_b5 f_b6 f_b7 _ _ _ _ _ _ _ := ⟨ok_start MM.m1.F T Dgf Mbb MkN F_ni b_ni Dfu Dso, ok_set MM.m2.F T, ok_wait MM.m3.F T Dal Den Dco Gen, ok_get MM.m4.F T Dal Dco, ok_when MM.m5.F T Mbr, ok_why MM.m6.F T Mbr Dwa Dre Dso, ok_longest MM.m7.F T⟩
  have Grg := ok_read (P := P) (w := w) (base := base) Drg.F T MkG F_gi b_gi
  have Gac := ok_call (P := P) (w := w) (base := base) Dac.F T Drg Grg MM GG
  have Gbi := ok_board (P := P) (w := w) (base := base) F_bi T Mbb MkN F_ni b_ni Dfu Dso
  exact ok_answers F_an2 T Dcl Dac Gac MkB b_bi Gbi
theorem walk {q : Program} {loose : List Str} {XP : (Str → Option Value) → Heap → Prop} {YP : World → Heap → Prop} {d : DefRec} {K : Params → PySem.W.Frag} {prog : Program} {name : Str}
    (said : (PySem.W.OpenSpec.mk prog name [.list 0 16000 (.int 0 9223372036854775807)] (.list 0 1048576 (.int (-9223372036854775808) 18446744073709551615)) PyKp149.answers_asked PyKp149.answers).wellSaid = true) (hdf : d.params.defaults = [])
    (hY : ∀ (w : World) (h : Heap), YP w h → (K w.params).In h)
    (F : ∀ (w : World) (mg : Str → Option Value) (fa : Addr) (h : Heap), (K w.params).In h → h.Ns mainGlobals mg → mg d.name = some (.ref fa) →
      ∃ fd : FuncData, (∀ (s : Shared) (u : Value), BindsTo s fd ⟨[u], []⟩ [("calls", u)]) ∧ ∀ base : Heap, (K w.params).In base → base.Ns mainGlobals mg → FnOk prog w (K w.params) mg base CX0 7 fa fd ["calls"] (spAnswers (K w.params))) :
    PySem.W.WalkOS q loose XP YP (PySem.W.OpenSpec.mk prog name [.list 0 16000 (.int 0 9223372036854775807)] (.list 0 1048576 (.int (-9223372036854775808) 18446744073709551615)) PyKp149.answers_asked PyKp149.answers) d [] (fun f vs => PySem.call f vs) :=
  L2.spec_walk (k := 7) (sp := spAnswers) (x := "calls") said (by decide) hdf ⟨rfl, by decide, by decide⟩ hY F fun K H a ns hl hb ha hO hS => by
    obtain ⟨xs, e, h50, _, hm, hp⟩ := asked_typed ha
    subst e
    refine ⟨a, xs, rfl, hS, hl, h50, hm, fun l H' h => ⟨l, rfl, ?_⟩⟩
    rw [hp]; exact h
end Wb
open PySem PySem.W PyProof.Rows
set_option maxRecDepth 100000 in
set_option maxHeartbeats 0 in
theorem PySem.Challenge.cw_waitboard_s01_answers_holds : PySem.Challenge.rw_waitboard_s01_answers.Holds := by
  w_on; k_headS; (case hw => exact ⟨[.list [.int 0, .int 0, .int 1, .int 0]], by decide +kernel, by decide +kernel⟩)
  k_fillS
  refine Wb.walk ?said rfl (fun w h Y => PySem.W.kIn_of Y) ?F
  case said => decide +kernel
  case F =>
    intro w mg fa h KX G hmg
    refine' Wb.all_mk KX G hmg ?aG_ ?aN_ ?aR_ ?aA_ ?aB_ ?a_gi ?i_gi ?l_gi ?c_gi ?k_gi ?a_ni ?i_ni ?l_ni ?c_ni ?k_ni ?a_ri ?i_ri ?l_ri ?c_ri ?k_ri ?a_ai ?i_ai ?l_ai ?c_ai ?k_ai ?a_an ?i_an ?l_an ?c_an ?k_an ?a_ao ?i_ao ?l_ao ?c_ao ?k_ao ?a_at ?i_at ?l_at ?c_at ?k_at ?a_bi ?i_bi ?l_bi ?c_bi ?k_bi ?a_bb ?i_bb ?l_bb ?c_bb ?k_bb ?a_b1 ?i_b1 ?l_b1 ?c_b1 ?k_b1 ?a_b2 ?i_b2 ?l_b2 ?c_b2 ?k_b2 ?a_b3 ?i_b3 ?l_b3 ?c_b3 ?k_b3 ?a_b4 ?i_b4 ?l_b4 ?c_b4 ?k_b4 ?a_br ?i_br ?l_br ?c_br ?k_br ?a_b5 ?i_b5 ?l_b5 ?c_b5 ?k_b5 ?a_b6 ?i_b6 ?l_b6 ?c_b6 ?k_b6 ?a_b7 ?i_b7 ?l_b7 ?c_b7 ?k_b7 ?a_so ?l_so ?c_so ?k_so ?a_gf ?l_gf ?c_gf ?k_gf ?a_fu ?l_fu ?c_fu ?k_fu ?a_co ?l_co ?c_co ?k_co ?a_al ?l_al ?c_al ?k_al ?a_su ?l_su ?c_su ?k_su ?a_en ?l_en ?c_en ?k_en ?a_re ?l_re ?c_re ?k_re ?a_wa ?l_wa ?c_wa ?k_wa ?a_rg ?l_rg ?c_rg ?k_rg ?a_cl ?l_cl ?c_cl ?k_cl ?a_ac ?l_ac ?c_ac ?k_ac ?a_an2 ?l_an2 ?c_an2 ?k_an2 ?pgG ?hdG ?poG ?saG ?mkG ?kcG ?xgKind ?xgA ?xgB ?xgMost ?pgN ?hdN ?poN ?saN ?mkN ?kcN ?xnInputs ?xnGates ?xnUsers ?xnSignals ?pgR ?hdR ?poR ?saR ?mkR ?kcR ?xrOn ?xrWhen ?pgA ?hdA ?poA ?saA ?mkA ?kcA ?xaEnt ?pgB ?hdB ?poB ?saB ?mkB ?kcB ?xtNet ?xtIns ?xtLoose ?xtBefore ?xtWhen ?xtLongest ?vNOT ?vNOR ?vUNSURE ?vNEVER ?vMOST_GATES ?vMOST_INPUTS ?vDONE ?vNOT_TOLD ?vNO_WAIT ?vNOT_VALID ?vNO_ROOM ?vFORM_NUMBER ?vFORM_TIME ?vFORM_WAY ?vTK_START ?vTK_SET ?vTK_WAIT ?vTK_GET ?vTK_WHEN ?vTK_WHY ?ybLen ?ybMax ?ybRange ?ybList ?ybEnum ?ybMin ?aTab ?lTab ?zTab ?zBN ?zBG
    (case aG_ => k_is)
    (case aN_ => k_is)
    (case aR_ => k_is)
    (case aA_ => k_is)
    (case aB_ => k_is)
    (case a_gi => k_is)
    (case i_gi => k_is)
    (case l_gi => k_is)
    (case c_gi => k_is)
    (case k_gi => k_is)
    (case a_ni => k_is)
    (case i_ni => k_is)
    (case l_ni => k_is)
    (case c_ni => k_is)
    (case k_ni => k_is)
    (case a_ri => k_is)
    (case i_ri => k_is)
    (case l_ri => k_is)
    (case c_ri => k_is)
    (case k_ri => k_is)
    (case a_ai => k_is)
    (case i_ai => k_is)
    (case l_ai => k_is)
    (case c_ai => k_is)
    (case k_ai => k_is)
    (case a_an => k_is)
    (case i_an => k_is)
    (case l_an => k_is)
    (case c_an => k_is)
    (case k_an => k_is)
    (case a_ao => k_is)
    (case i_ao => k_is)
    (case l_ao => k_is)
    (case c_ao => k_is)
    (case k_ao => k_is)
    (case a_at => k_is)
    (case i_at => k_is)
    (case l_at => k_is)
    (case c_at => k_is)
    (case k_at => k_is)
    (case a_bi => k_is)
    (case i_bi => k_is)
    (case l_bi => k_is)
    (case c_bi => k_is)
    (case k_bi => k_is)
    (case a_bb => k_is)
    (case i_bb => k_is)
    (case l_bb => k_is)
    (case c_bb => k_is)
    (case k_bb => k_is)
    (case a_b1 => k_is)
    (case i_b1 => k_is)
    (case l_b1 => k_is)
    (case c_b1 => k_is)
    (case k_b1 => k_is)
    (case a_b2 => k_is)
    (case i_b2 => k_is)
    (case l_b2 => k_is)
    (case c_b2 => k_is)
    (case k_b2 => k_is)
    (case a_b3 => k_is)
    (case i_b3 => k_is)
    (case l_b3 => k_is)
    (case c_b3 => k_is)
    (case k_b3 => k_is)
    (case a_b4 => k_is)
    (case i_b4 => k_is)
    (case l_b4 => k_is)
    (case c_b4 => k_is)
    (case k_b4 => k_is)
    (case a_br => k_is)
    (case i_br => k_is)
    (case l_br => k_is)
    (case c_br => k_is)
    (case k_br => k_is)
    (case a_b5 => k_is)
    (case i_b5 => k_is)
    (case l_b5 => k_is)
    (case c_b5 => k_is)
    (case k_b5 => k_is)
    (case a_b6 => k_is)
    (case i_b6 => k_is)
    (case l_b6 => k_is)
    (case c_b6 => k_is)
    (case k_b6 => k_is)
    (case a_b7 => k_is)
    (case i_b7 => k_is)
    (case l_b7 => k_is)
    (case c_b7 => k_is)
    (case k_b7 => k_is)
    (case a_so => k_is)
    (case l_so => k_is)
    (case c_so => k_is)
    (case k_so => k_is)
    (case a_gf => k_is)
    (case l_gf => k_is)
    (case c_gf => k_is)
    (case k_gf => k_is)
    (case a_fu => k_is)
    (case l_fu => k_is)
    (case c_fu => k_is)
    (case k_fu => k_is)
    (case a_co => k_is)
    (case l_co => k_is)
    (case c_co => k_is)
    (case k_co => k_is)
    (case a_al => k_is)
    (case l_al => k_is)
    (case c_al => k_is)
    (case k_al => k_is)
    (case a_su => k_is)
    (case l_su => k_is)
    (case c_su => k_is)
    (case k_su => k_is)
    (case a_en => k_is)
    (case l_en => k_is)
    (case c_en => k_is)
    (case k_en => k_is)
    (case a_re => k_is)
    (case l_re => k_is)
    (case c_re => k_is)
    (case k_re => k_is)
    (case a_wa => k_is)
    (case l_wa => k_is)
    (case c_wa => k_is)
    (case k_wa => k_is)
    (case a_rg => k_is)
    (case l_rg => k_is)
    (case c_rg => k_is)
    (case k_rg => k_is)
    (case a_cl => k_is)
    (case l_cl => k_is)
    (case c_cl => k_is)
    (case k_cl => k_is)
    (case a_ac => k_is)
    (case l_ac => k_is)
    (case c_ac => k_is)
    (case k_ac => k_is)
    (case a_an2 => k_is)
    (case l_an2 => k_is)
    (case c_an2 => k_is)
    (case k_an2 => k_is)
    (case pgG => k_is)
    (case hdG => k_is)
    (case poG => k_is)
    (case saG => k_is)
    (case mkG => k_is)
    (case kcG => k_is)
    (case xgKind => k_is)
    (case xgA => k_is)
    (case xgB => k_is)
    (case xgMost => k_is)
    (case pgN => k_is)
    (case hdN => k_is)
    (case poN => k_is)
    (case saN => k_is)
    (case mkN => k_is)
    (case kcN => k_is)
    (case xnInputs => k_is)
    (case xnGates => k_is)
    (case xnUsers => k_is)
    (case xnSignals => k_is)
    (case pgR => k_is)
    (case hdR => k_is)
    (case poR => k_is)
    (case saR => k_is)
    (case mkR => k_is)
    (case kcR => k_is)
    (case xrOn => k_is)
    (case xrWhen => k_is)
    (case pgA => k_is)
    (case hdA => k_is)
    (case poA => k_is)
    (case saA => k_is)
    (case mkA => k_is)
    (case kcA => k_is)
    (case xaEnt => k_is)
    (case pgB => k_is)
    (case hdB => k_is)
    (case poB => k_is)
    (case saB => k_is)
    (case mkB => k_is)
    (case kcB => k_is)
    (case xtNet => k_is)
    (case xtIns => k_is)
    (case xtLoose => k_is)
    (case xtBefore => k_is)
    (case xtWhen => k_is)
    (case xtLongest => k_is)
    (case vNOT => k_is)
    (case vNOR => k_is)
    (case vUNSURE => k_is)
    (case vNEVER => k_is)
    (case vMOST_GATES => k_is)
    (case vMOST_INPUTS => k_is)
    (case vDONE => k_is)
    (case vNOT_TOLD => k_is)
    (case vNO_WAIT => k_is)
    (case vNOT_VALID => k_is)
    (case vNO_ROOM => k_is)
    (case vFORM_NUMBER => k_is)
    (case vFORM_TIME => k_is)
    (case vFORM_WAY => k_is)
    (case vTK_START => k_is)
    (case vTK_SET => k_is)
    (case vTK_WAIT => k_is)
    (case vTK_GET => k_is)
    (case vTK_WHEN => k_is)
    (case vTK_WHY => k_is)
    (case ybLen => k_is)
    (case ybMax => k_is)
    (case ybRange => k_is)
    (case ybList => k_is)
    (case ybEnum => k_is)
    (case ybMin => k_is)
    (case aTab => k_is)
    (case lTab => k_is)
    (case zTab => decide +kernel)
    (case zBN => decide)
    (case zBG => decide)
#print axioms PySem.Challenge.cw_waitboard_s01_answers_holds
