import PyProof.Rows.All
import Wide.All
import OpenK.AllK
import Wide.FinOn
import HandS.ForMost
import HandS.EndBits
import HandS.Wide
import PyProof.ReprRoads
import HandS.SortKw
import KE.DataMinMax
import HandS.IsInst
import HandS.More
import KE.GoesEnum
import HandS.Walk
import HandS.Flow
import HandS.TupAny
import HandS.DictComp
import HandS.OwnEq
import HandS.SetFor
import HandS.Strs
import HandS.Zip
import HandS.Star
import HandS.GenList
import HandS.Deep
import HandS.Defaults
import PySem.Challenge.RW_roadsizes_k08_whole_roads_part_as_chains
section
set_option autoImplicit false
/-! ## chains: what the numbers do -/
namespace N
/-- the pieces of a body -/
def L : List Nat → Nat → Nat
  | [], _ => 1
  | c :: r, b => b / c * L r c + (if b % c = 0 then 0 else L r (b % c))
/-- the boundary with a number -/
def B : List Nat → Nat → Nat
  | [], _ => 0
  | c :: r, n => n / L r c * c + B r (n % L r c)
/-- the rest of a place -/
def rem : List Nat → Nat → Nat
  | [], p => p
  | c :: r, p => rem r (p % c)
def dig : List Nat → Nat → List Nat
  | [], p => [p]
  | c :: r, p => p / c :: dig r (p % c)
theorem L_cons (c : Nat) (r : List Nat) (b : Nat) : L (c :: r) b = b / c * L r c + (if b % c = 0 then 0 else L r (b % c)) := by conv => lhs; unfold L
theorem B_cons (c : Nat) (r : List Nat) (n : Nat) : B (c :: r) n = n / L r c * c + B r (n % L r c) := by conv => lhs; unfold B
theorem rem_cons (c : Nat) (r : List Nat) (p : Nat) : rem (c :: r) p = rem r (p % c) := by conv => lhs; unfold rem
/-- cuts: falling, none of them 0 -/
def Fall : List Nat → Prop
  | [] => True
  | c :: r => 0 < c ∧ (∀ d ∈ r, d < c) ∧ Fall r
theorem Fall.pos : ∀ {l : List Nat}, Fall l → ∀ d ∈ l, 0 < d
  | [], _, d, h => by cases h
  | c :: r, f, d, h => by
    rcases List.mem_cons.mp h with e | e
    · rw [e]; exact f.1
    · exact f.2.2.pos d e
theorem L_pos : ∀ (l : List Nat), Fall l → ∀ b, 0 < b → 0 < L l b
  | [], _, b, _ => by unfold L; omega
  | c :: r, f, b, hb => by
    unfold L
    have h1 := L_pos r f.2.2 c f.1
    by_cases h : b % c = 0
    · rw [if_pos h]
      have h2 : 0 < b / c := Nat.div_pos (Nat.le_of_dvd hb (Nat.dvd_of_mod_eq_zero h)) f.1
      exact Nat.lt_of_lt_of_le (Nat.mul_pos h2 h1) (Nat.le_add_right _ _)
    · rw [if_neg h]
      have h2 := L_pos r f.2.2 (b % c) (by omega)
      omega
theorem B_zero : ∀ l : List Nat, B l 0 = 0
  | [] => rfl
  | c :: r => by
    unfold B
    rw [Nat.zero_div, Nat.zero_mod, B_zero r, Nat.zero_mul]
theorem rem_zero : ∀ l : List Nat, rem l 0 = 0
  | [] => rfl
  | c :: r => by
    unfold rem
    rw [Nat.zero_mod, rem_zero r]
/-- two numbers in parts: which one is less -/
theorem parts_lt {q j Q R c : Nat} (hj : j < c) (hR : R < c) : q * c + j < Q * c + R ↔ q < Q ∨ (q = Q ∧ j < R) := by
  constructor
  · intro h
    rcases Nat.lt_trichotomy q Q with a | a | a
    · exact .inl a
    · subst a
      exact .inr ⟨rfl, by omega⟩
    · have := Nat.mul_le_mul_right c a
      rw [Nat.succ_mul] at this
      omega
  · rintro (a | ⟨rfl, a⟩)
    · have := Nat.mul_le_mul_right c a
      rw [Nat.succ_mul] at this
      omega
    · omega
/-- the boundaries below a body are one less than its pieces -/
theorem below : ∀ (l : List Nat), Fall l → ∀ b, 0 < b → ∀ m, (l = [] → m = 0) → (B l m < b ↔ m < L l b)
  | [], _, b, hb, m, hm => by
    rw [hm rfl]
    unfold B L
    omega
  | c :: r, f, b, hb, m, _ => by
    have hc := f.1
    have hk := L_pos r f.2.2 c hc
    have ih := below r f.2.2
    have hj := Nat.mod_lt m hk
    have hR := Nat.mod_lt b hc
    have e1 := Nat.div_add_mod m (L r c)
    have e2 := Nat.div_add_mod b c
    have nil : r = [] → m % L r c = 0 := fun e => by
      rw [e]
      show m % 1 = 0
      exact Nat.mod_one m
    have hB : B r (m % L r c) < c := (ih c hc _ nil).mpr hj
    -- what is left of the body
    have left : ∀ (x : Nat), x < L r c → (r = [] → x = 0) → (B r x < b % c ↔ x < (if b % c = 0 then 0 else L r (b % c))) := fun x hx hn => by
      by_cases h : b % c = 0
      · rw [if_pos h, h]
        omega
      · rw [if_neg h]
        exact ih (b % c) (by omega) x hn
    have most : (if b % c = 0 then 0 else L r (b % c)) ≤ L r c := by
      by_cases h : b % c = 0
      · rw [if_pos h]
        omega
      · rw [if_neg h]
        cases r with
        | nil => exact Nat.le_refl _
        | cons d s =>
          rcases Nat.lt_or_ge (L (d :: s) c) (L (d :: s) (b % c)) with z | z
          · have q := (ih (b % c) (by omega) (L (d :: s) c) (fun e => by cases e)).mpr z
            have q2 := (ih c hc (L (d :: s) c) (fun e => by cases e)).mp (by omega)
            omega
          · exact z
    have goal : (m / L r c < b / c ∨ (m / L r c = b / c ∧ B r (m % L r c) < b % c)) ↔ (m / L r c < b / c ∨ (m / L r c = b / c ∧ m % L r c < (if b % c = 0 then 0 else L r (b % c)))) := by
      rw [left _ hj nil]
    rw [B_cons, L_cons]
    have h1 := parts_lt (q := m / L r c) (Q := b / c) hB hR
    rw [Nat.mul_comm c] at e2
    rw [e2] at h1
    refine h1.trans (goal.trans ?_)
    generalize hX : (if b % c = 0 then 0 else L r (b % c)) = X at most ⊢
    rw [Nat.mul_comm (L r c)] at e1
    rcases Nat.lt_or_ge X (L r c) with z | z
    · have h2 := parts_lt (q := m / L r c) (Q := b / c) hj z
      rw [e1] at h2
      exact h2.symm
    · have eX : X = L r c := Nat.le_antisymm most z
      rw [eX]
      constructor
      · rintro (a | ⟨a, _⟩)
        · have := Nat.mul_le_mul_right (L r c) a
          rw [Nat.succ_mul] at this
          omega
        · rw [← a]
          omega
      · intro h
        rcases Nat.lt_trichotomy (m / L r c) (b / c) with a | a | a
        · exact .inl a
        · exact .inr ⟨a, hj⟩
        · have := Nat.mul_le_mul_right (L r c) a
          rw [Nat.succ_mul] at this
          omega
/-- boundaries go up -/
theorem up : ∀ (l : List Nat), Fall l → l ≠ [] → ∀ n, B l n < B l (n + 1)
  | [], _, h, _ => absurd rfl h
  | c :: r, f, _, n => by
    have hk := L_pos r f.2.2 c f.1
    have hj := Nat.mod_lt n hk
    have nil : r = [] → n % L r c = 0 := fun e => by
      rw [e]
      show n % 1 = 0
      exact Nat.mod_one n
    have hB : B r (n % L r c) < c := (below r f.2.2 c f.1 _ nil).mpr hj
    have e1 := Nat.div_add_mod n (L r c)
    rw [B_cons, B_cons]
    by_cases h : n % L r c + 1 = L r c
    · have e2 : n + 1 = 0 + L r c * (n / L r c + 1) := by rw [Nat.mul_add]; omega
      have d : (n + 1) / L r c = n / L r c + 1 := by rw [e2, Nat.add_mul_div_left _ _ hk, Nat.zero_div, Nat.zero_add]
      have m : (n + 1) % L r c = 0 := by rw [e2, Nat.add_mul_mod_self_left, Nat.zero_mod]
      rw [d, m, B_zero, Nat.succ_mul]
      omega
    · have e2 : n + 1 = (n % L r c + 1) + L r c * (n / L r c) := by omega
      have d : (n + 1) / L r c = n / L r c := by rw [e2, Nat.add_mul_div_left _ _ hk, Nat.div_eq_of_lt (by omega), Nat.zero_add]
      have m : (n + 1) % L r c = n % L r c + 1 := by rw [e2, Nat.add_mul_mod_self_left, Nat.mod_eq_of_lt (by omega)]
      rw [d, m]
      have hr : r ≠ [] := fun e => h (by rw [e]; show n % 1 + 1 = 1; rw [Nat.mod_one])
      have := up r f.2.2 hr (n % L r c)
      omega
theorem up_lt {l : List Nat} (f : Fall l) (h : l ≠ []) : ∀ {m n : Nat}, m < n → B l m < B l n
  | m, 0, q => absurd q (Nat.not_lt_zero _)
  | m, n + 1, q => by
    rcases Nat.lt_or_ge m n with a | a
    · exact Nat.lt_trans (up_lt f h a) (up l f h n)
    · have e : m = n := by omega
      rw [e]
      exact up l f h n
theorem up_iff {l : List Nat} (f : Fall l) (h : l ≠ []) {m n : Nat} : B l m < B l n ↔ m < n := by
  constructor
  · intro q
    rcases Nat.lt_trichotomy m n with a | a | a
    · exact a
    · rw [a] at q; omega
    · have := up_lt f h a; omega
  · exact up_lt f h
theorem eq_of_lt_iff {a b : Nat} (h : ∀ m, m < a ↔ m < b) : a = b := by
  have h1 := h a
  have h2 := h b
  omega
/-- the boundary with a number has so many up to it -/
theorem L_B {l : List Nat} (f : Fall l) (h : l ≠ []) {n : Nat} (hn : 0 < n) : L l (B l n) = n := by
  have p : 0 < B l n := by
    have := up_lt f h hn
    omega
  refine eq_of_lt_iff fun m => ?_
  rw [← below l f (B l n) p m fun e => absurd e h, up_iff f h]
theorem L_B1 {l : List Nat} (f : Fall l) (h : l ≠ []) {n : Nat} : L l (B l n + 1) = n + 1 := by
  refine eq_of_lt_iff fun m => ?_
  rw [← below l f (B l n + 1) (by omega) m fun e => absurd e h]
  constructor
  · intro q
    rcases Nat.lt_or_ge m (n + 1) with a | a
    · exact a
    · have := up_lt f h (m := n) (n := m) (by omega)
      omega
  · intro q
    rcases Nat.lt_or_ge m n with a | a
    · have := up_lt f h a
      omega
    · have e : m = n := by omega
      rw [e]
      omega
theorem rem_B : ∀ (l : List Nat), Fall l → ∀ n, (l = [] → n = 0) → rem l (B l n) = 0
  | [], _, n, h => by rw [h rfl]; rfl
  | c :: r, f, n, _ => by
    have hk := L_pos r f.2.2 c f.1
    have hj := Nat.mod_lt n hk
    have nil : r = [] → n % L r c = 0 := fun e => by
      rw [e]
      show n % 1 = 0
      exact Nat.mod_one n
    have hB : B r (n % L r c) < c := (below r f.2.2 c f.1 _ nil).mpr hj
    rw [B_cons, rem_cons, Nat.add_comm, Nat.add_mul_mod_self_right, Nat.mod_eq_of_lt hB]
    exact rem_B r f.2.2 _ nil
/-- the first boundary is the least cut -/
theorem B_one : ∀ (l : List Nat), Fall l → ∀ (h : l ≠ []), B l 1 = l.getLast h
  | [], _, h => absurd rfl h
  | [c], _, _ => by
    rw [B_cons]
    show 1 / 1 * c + 0 = c
    omega
  | c :: d :: s, f, _ => by
    have ih := B_one (d :: s) f.2.2 (by simp)
    have lt : (d :: s).getLast (by simp) < c := f.2.1 _ (List.getLast_mem _)
    have k1 : 1 < L (d :: s) c := (below (d :: s) f.2.2 c f.1 1 (fun e => by cases e)).mp (by rw [ih]; exact lt)
    rw [List.getLast_cons (by simp)]
    rw [B_cons, Nat.div_eq_of_lt k1, Nat.mod_eq_of_lt k1, ih]
    omega
theorem last_le : ∀ (l : List Nat), Fall l → ∀ (h : l ≠ []), ∀ d ∈ l, l.getLast h ≤ d
  | [], _, h, _, _ => absurd rfl h
  | [c], _, _, d, hd => by
    have e : d = c := by simpa using hd
    rw [e]
    exact Nat.le_refl _
  | c :: e :: s, f, _, d, hd => by
    rw [List.getLast_cons (by simp)]
    rcases List.mem_cons.mp hd with q | q
    · rw [q]
      exact Nat.le_of_lt (f.2.1 _ (List.getLast_mem _))
    · exact last_le (e :: s) f.2.2 (by simp) d q
theorem L_mono_lt {l : List Nat} (f : Fall l) (h : l ≠ []) {n b : Nat} (hb : B l n < b) : n < L l b := (below l f b (by omega) n fun e => absurd e h).mp hb
end N
namespace N
/-- how many pieces each cut's part makes -/
def cn : List Nat → List Nat
  | [] => []
  | c :: r => L r c :: cn r
theorem cn_len : ∀ l : List Nat, (cn l).length = l.length
  | [] => rfl
  | c :: r => congrArg Nat.succ (cn_len r)
theorem cn_at : ∀ {l : List Nat} {i k : Nat}, (cn l)[i]? = some k → ∃ c, l[i]? = some c ∧ k = L (l.drop (i + 1)) c
  | [], i, k, h => by cases h
  | c :: r, 0, k, h => by
    cases h
    exact ⟨c, rfl, rfl⟩
  | c :: r, i + 1, k, h => by
    obtain ⟨d, a, b⟩ := cn_at (l := r) (i := i) h
    exact ⟨d, a, b⟩
/-- the number of pieces of any body -/
def PC (l : List Nat) (b : Nat) : Nat := if b = 0 then 1 else L l b
def sm : List Nat → Nat → Nat
  | [], _ => 0
  | c :: r, b => b / c * L r c + sm r (b % c)
theorem sm_cons (c : Nat) (r : List Nat) (b : Nat) : sm (c :: r) b = b / c * L r c + sm r (b % c) := by conv => lhs; unfold sm
theorem sm_nil (b : Nat) : sm [] b = 0 := rfl
theorem rem_nil (b : Nat) : rem [] b = b := rfl
theorem sm_zero : ∀ l : List Nat, sm l 0 = 0
  | [] => rfl
  | c :: r => by
    unfold sm
    rw [Nat.zero_div, Nat.zero_mod, Nat.zero_mul, sm_zero r]
theorem L_sm : ∀ (l : List Nat) (b : Nat), 0 < b → L l b = sm l b + (if 0 < rem l b then 1 else 0)
  | [], b, h => by
    unfold L sm rem
    rw [if_pos h]
  | c :: r, b, h => by
    rw [L_cons, rem_cons]
    unfold sm
    by_cases z : b % c = 0
    · rw [if_pos z, z, sm_zero, rem_zero, if_neg (by omega)]
    · rw [if_neg z, L_sm r (b % c) (by omega), Nat.add_assoc]
theorem PC_sm (l : List Nat) (b : Nat) : PC l b = sm l b + (if 0 < rem l b ∨ b = 0 then 1 else 0) := by
  unfold PC
  by_cases h : b = 0
  · rw [if_pos h, if_pos (.inr h), h, sm_zero]
  · rw [if_neg h, L_sm l b (by omega)]
    by_cases z : 0 < rem l b
    · rw [if_pos z, if_pos (.inl z)]
    · rw [if_neg z, if_neg (by omega)]
theorem Fall.drop : ∀ {l : List Nat}, Fall l → ∀ i, Fall (l.drop i)
  | [], _, i => by rw [List.drop_nil]; trivial
  | c :: r, f, 0 => f
  | c :: r, f, i + 1 => f.2.2.drop i
theorem le_B {l : List Nat} (f : Fall l) (h : l ≠ []) : ∀ n, n ≤ B l n
  | 0 => Nat.zero_le _
  | n + 1 => by
    have := le_B f h n
    have := up l f h n
    omega
theorem L_le {l : List Nat} (f : Fall l) {b : Nat} (hb : 0 < b) : L l b ≤ b := by
  cases l with
  | nil => exact hb
  | cons c r =>
    have p := L_pos (c :: r) f b hb
    have q := (below (c :: r) f b hb (L (c :: r) b - 1) fun e => by cases e).mpr (by omega)
    have := le_B f (by simp) (L (c :: r) b - 1)
    omega
theorem dig_rem : ∀ (l : List Nat) (p : Nat), ∃ ds, dig l p = ds ++ [rem l p]
  | [], p => ⟨[], rfl⟩
  | c :: r, p => by
    obtain ⟨ds, e⟩ := dig_rem r (p % c)
    exact ⟨p / c :: ds, by unfold dig; rw [e, rem_cons]; rfl⟩
theorem dig_len : ∀ (l : List Nat) (p : Nat), (dig l p).length = l.length + 1
  | [], p => rfl
  | c :: r, p => congrArg Nat.succ (dig_len r (p % c))
end N
namespace N
theorem fall_snoc : ∀ {l : List Nat} {x : Nat}, Fall l → 0 < x → (∀ d ∈ l, x < d) → Fall (l ++ [x])
  | [], x, _, h, _ => ⟨h, (fun d hd => by cases hd), trivial⟩
  | c :: r, x, f, h, hd => by
    refine ⟨f.1, fun d q => ?_, fall_snoc f.2.2 h fun d q => hd d (List.mem_cons_of_mem _ q)⟩
    rcases List.mem_append.mp q with q | q
    · exact f.2.1 d q
    · rw [List.mem_singleton.mp q]
      exact hd c List.mem_cons_self
end N

end
section
set_option autoImplicit false
set_option linter.all false
namespace N
/-! ## sums of chains, and bodies parted one cut after another -/
def cu (c b : Nat) : List Nat := if h : 0 < c ∧ c < b then c :: cu c (b - c) else [b]
termination_by b
decreasing_by omega
theorem cu_lt {c b : Nat} (h : 0 < c) (h2 : c < b) : cu c b = c :: cu c (b - c) := by
  rw [cu, dif_pos ⟨h, h2⟩]
theorem cu_le {c b : Nat} (h2 : b ≤ c) : cu c b = [b] := by
  rw [cu, dif_neg (by omega)]
def pt : List Nat → List Nat → List Nat
  | [], ss => ss
  | c :: r, ss => pt r (ss.flatMap (cu c))
theorem pt_app : ∀ (l a b : List Nat), pt l (a ++ b) = pt l a ++ pt l b
  | [], a, b => rfl
  | c :: r, a, b => by
    unfold pt
    rw [List.flatMap_append, pt_app r]
theorem pt_cat : ∀ (l m ss : List Nat), pt (l ++ m) ss = pt m (pt l ss)
  | [], m, ss => rfl
  | c :: r, m, ss => pt_cat r m _
theorem pt_lt {c b : Nat} (r : List Nat) (h : 0 < c) (h2 : c < b) : pt (c :: r) [b] = pt r [c] ++ pt (c :: r) [b - c] := by
  show pt r (([b] : List Nat).flatMap (cu c)) = pt r [c] ++ pt r (([b - c] : List Nat).flatMap (cu c))
  rw [← pt_app, List.flatMap_singleton, List.flatMap_singleton, cu_lt h h2]
  rfl
theorem pt_le {c b : Nat} (r : List Nat) (h2 : b ≤ c) : pt (c :: r) [b] = pt r [b] := by
  show pt r (([b] : List Nat).flatMap (cu c)) = pt r [b]
  rw [List.flatMap_singleton, cu_le h2]
theorem cu_mem {c : Nat} (h : 0 < c) : ∀ (b : Nat), ∀ s ∈ cu c b, s ≤ c ∧ s ≤ b ∧ (0 < b → 0 < s) := by
  intro b
  induction b using Nat.strongRecOn with
  | ind b ih =>
    intro s hs
    by_cases h2 : c < b
    · rw [cu_lt h h2] at hs
      rcases List.mem_cons.mp hs with z | z
      · omega
      · have := ih (b - c) (by omega) s z
        omega
    · rw [cu_le (by omega)] at hs
      rw [List.mem_singleton.mp hs]
      omega
theorem cu_sum {c : Nat} (h : 0 < c) : ∀ (b : Nat), (cu c b).sum = b := by
  intro b
  induction b using Nat.strongRecOn with
  | ind b ih =>
    by_cases h2 : c < b
    · rw [cu_lt h h2, List.sum_cons, ih (b - c) (by omega)]
      omega
    · rw [cu_le (by omega)]
      simp
theorem cu_len {c : Nat} (h : 0 < c) (b : Nat) : 0 < (cu c b).length := by
  by_cases h2 : c < b
  · rw [cu_lt h h2]
    simp
  · rw [cu_le (by omega)]
    simp
theorem flat_len {c : Nat} (h : 0 < c) : ∀ ss : List Nat, ss.length ≤ (ss.flatMap (cu c)).length
  | [] => Nat.zero_le _
  | s :: ss => by
    have := flat_len h ss
    have := cu_len h s
    rw [List.flatMap_cons, List.length_append, List.length_cons]
    omega
theorem pt_len : ∀ {l : List Nat}, (∀ c ∈ l, 0 < c) → ∀ ss, ss.length ≤ (pt l ss).length
  | [], _, ss => Nat.le_refl _
  | c :: r, f, ss => Nat.le_trans (flat_len (f c List.mem_cons_self) ss) (pt_len (fun d hd => f d (List.mem_cons_of_mem _ hd)) _)
theorem flat_sum {c : Nat} (h : 0 < c) : ∀ ss : List Nat, (ss.flatMap (cu c)).sum = ss.sum
  | [] => rfl
  | s :: ss => by
    rw [List.flatMap_cons, List.sum_append, cu_sum h, flat_sum h ss, List.sum_cons]
theorem pt_sum : ∀ {l : List Nat}, (∀ c ∈ l, 0 < c) → ∀ ss, (pt l ss).sum = ss.sum
  | [], _, ss => rfl
  | c :: r, f, ss => (pt_sum (fun d hd => f d (List.mem_cons_of_mem _ hd)) _).trans (flat_sum (f c List.mem_cons_self) ss)
theorem pt_bound {m : Nat} : ∀ {l : List Nat}, (∀ c ∈ l, 0 < c) → ∀ ss, (∀ s ∈ ss, s ≤ m) → ∀ s ∈ pt l ss, s ≤ m
  | [], _, ss, h => h
  | c :: r, f, ss, h => pt_bound (l := r) (fun d hd => f d (List.mem_cons_of_mem _ hd)) _ fun s hs => by
    obtain ⟨b, hb, hs⟩ := List.mem_flatMap.mp hs
    have := cu_mem (f c List.mem_cons_self) b s hs
    have := h b hb
    omega
theorem pt_pos : ∀ {l : List Nat}, (∀ c ∈ l, 0 < c) → ∀ ss, (∀ s ∈ ss, 0 < s) → ∀ s ∈ pt l ss, 0 < s
  | [], _, ss, h => h
  | c :: r, f, ss, h => pt_pos (l := r) (fun d hd => f d (List.mem_cons_of_mem _ hd)) _ fun s hs => by
    obtain ⟨b, hb, hs⟩ := List.mem_flatMap.mp hs
    exact (cu_mem (f c List.mem_cons_self) b s hs).2.2 (h b hb)
theorem pt_cuts : ∀ {l : List Nat}, (∀ c ∈ l, 0 < c) → ∀ ss, ∀ c ∈ l, ∀ s ∈ pt l ss, s ≤ c
  | [], _, ss, c, h => by cases h
  | c :: r, f, ss, d, hd => by
    rcases List.mem_cons.mp hd with z | z
    · subst z
      exact pt_bound (l := r) (fun d hd => f d (List.mem_cons_of_mem _ hd)) _ fun s hs => by
        obtain ⟨b, hb, hs⟩ := List.mem_flatMap.mp hs
        exact (cu_mem (f d List.mem_cons_self) b s hs).1
    · exact pt_cuts (l := r) (fun d hd => f d (List.mem_cons_of_mem _ hd)) _ d z
theorem flat_id {c : Nat} : ∀ {ss : List Nat}, (∀ s ∈ ss, s ≤ c) → ss.flatMap (cu c) = ss
  | [], _ => rfl
  | s :: ss, h => by
    rw [List.flatMap_cons, cu_le (h s List.mem_cons_self), flat_id fun t ht => h t (List.mem_cons_of_mem _ ht)]
    rfl
/-- cuts that are not less than all stretches do nothing -/
theorem pt_idle {m : Nat} : ∀ {l : List Nat}, (∀ c ∈ l, 0 < c) → ∀ ss, (∀ s ∈ ss, s ≤ m) → pt l ss = pt (l.filter fun d => decide (d < m)) ss
  | [], _, ss, h => rfl
  | c :: r, f, ss, h => by
    have f2 : ∀ d ∈ r, 0 < d := fun d hd => f d (List.mem_cons_of_mem _ hd)
    by_cases hc : c < m
    · rw [List.filter_cons_of_pos (by simpa using hc)]
      exact pt_idle f2 _ fun s hs => by
        obtain ⟨b, hb, hs⟩ := List.mem_flatMap.mp hs
        have := cu_mem (f c List.mem_cons_self) b s hs
        have := h b hb
        omega
    · rw [List.filter_cons_of_neg (by simpa using hc)]
      show pt r (ss.flatMap (cu c)) = _
      rw [flat_id fun s hs => by have := h s hs; omega]
      exact pt_idle f2 ss h
/-! ### the pieces of a chain, by its boundaries -/
theorem L_lt {c b : Nat} (r : List Nat) (h : 0 < c) (h2 : c < b) : L (c :: r) b = L r c + L (c :: r) (b - c) := by
  obtain ⟨d, rfl⟩ : ∃ d, b = d + c := ⟨b - c, by omega⟩
  rw [Nat.add_sub_cancel, L_cons, L_cons, Nat.add_div_right _ h, Nat.add_mod_right, Nat.succ_mul]
  omega
theorem B_ge {c k : Nat} (r : List Nat) (h : 0 < L r c) (h2 : L r c ≤ k) : B (c :: r) k = c + B (c :: r) (k - L r c) := by
  obtain ⟨d, rfl⟩ : ∃ d, k = d + L r c := ⟨k - L r c, by omega⟩
  rw [Nat.add_sub_cancel, B_cons, B_cons, Nat.add_div_right _ h, Nat.add_mod_right, Nat.succ_mul]
  omega
theorem B_lt {c k : Nat} (r : List Nat) (h2 : k < L r c) : B (c :: r) k = B r k := by
  rw [B_cons, Nat.div_eq_of_lt h2, Nat.mod_eq_of_lt h2]
  omega
theorem L_le1 {c b : Nat} {r : List Nat} (h0 : 0 < b) (h : b ≤ c) : L (c :: r) b = L r b := by
  rw [L_cons]
  by_cases e : b = c
  · subst e
    rw [Nat.div_self h0, Nat.mod_self, if_pos rfl]
    omega
  · rw [Nat.div_eq_of_lt (by omega), Nat.mod_eq_of_lt (by omega), if_neg (by omega)]
    omega
theorem pt_L : ∀ (l : List Nat), Fall l → ∀ b, 0 < b → (pt l [b]).length = L l b ∧ ∀ k, k < L l b → ((pt l [b]).take k).sum = B l k
  | [], _, b, hb => ⟨rfl, fun k hk => by
    have : k = 0 := by
      have : k < 1 := hk
      omega
    subst this
    rfl⟩
  | c :: r, f, b, hb => by
    induction b using Nat.strongRecOn with
    | ind b ih =>
      by_cases h : c < b
      · obtain ⟨a1, a2⟩ := pt_L r f.2.2 c f.1
        have c0 := f.1
        obtain ⟨b1, b2⟩ := ih (b - c) (by omega) (by omega)
        have lp := L_pos r f.2.2 c f.1
        rw [pt_lt r f.1 h, L_lt r f.1 h]
        refine ⟨by rw [List.length_append, a1, b1], fun k hk => ?_⟩
        rw [List.take_append, a1, List.sum_append]
        by_cases hk2 : k < L r c
        · rw [a2 k hk2, B_lt r hk2, show k - L r c = 0 by omega]
          simp
        · rw [List.take_of_length_le (by omega), pt_sum f.2.2.pos, b2 (k - L r c) (by omega), B_ge (k := k) r lp (by omega)]
          simp
      · obtain ⟨a1, a2⟩ := pt_L r f.2.2 b hb
        rw [pt_le r (by omega), L_le1 hb (by omega)]
        refine ⟨a1, fun k hk => ?_⟩
        rw [a2 k hk, B_lt r]
        by_cases e : b = c
        · rw [← e]
          exact hk
        · by_cases hr : r = []
          · rw [hr] at hk ⊢
            exact hk
          · have q := (below r f.2.2 b hb k fun e => absurd e hr).mpr hk
            exact L_mono_lt f.2.2 hr (by omega)
theorem pt_at {l : List Nat} (f : Fall l) {b i : Nat} (hb : 0 < b) (h : i < L l b) : ∃ x, (pt l [b])[i]? = some x ∧ x + B l i = if i + 1 < L l b then B l (i + 1) else b := by
  obtain ⟨a1, a2⟩ := pt_L l f b hb
  have hi : i < (pt l [b]).length := by omega
  refine ⟨(pt l [b])[i], List.getElem?_eq_getElem hi, ?_⟩
  have s1 : ((pt l [b]).take (i + 1)).sum = ((pt l [b]).take i).sum + (pt l [b])[i] := by
    rw [List.take_succ, List.getElem?_eq_getElem hi, List.sum_append]
    simp
  rw [a2 i h] at s1
  by_cases e : i + 1 < L l b
  · rw [if_pos e]
    rw [a2 (i + 1) e] at s1
    omega
  · rw [if_neg e]
    rw [List.take_of_length_le (by omega), pt_sum f.pos] at s1
    simp at s1
    omega
/-! ### sums -/
def lo (l : List Nat) : Nat := l.foldl min 1001
theorem lt_foldl {d : Nat} : ∀ (l : List Nat) (m : Nat), d < l.foldl min m ↔ d < m ∧ ∀ x ∈ l, d < x
  | [], m => by simp
  | x :: l, m => by
    rw [List.foldl_cons, lt_foldl l]
    constructor
    · rintro ⟨h1, h2⟩
      exact ⟨by omega, fun y hy => by
        rcases List.mem_cons.mp hy with z | z
        · omega
        · exact h2 y z⟩
    · rintro ⟨h1, h2⟩
      have := h2 x List.mem_cons_self
      exact ⟨by omega, fun y hy => h2 y (List.mem_cons_of_mem _ hy)⟩
theorem lt_lo {d : Nat} {l : List Nat} : d < lo l ↔ d < 1001 ∧ ∀ x ∈ l, d < x := lt_foldl l 1001
def add (a b : List Nat) : List Nat := a ++ b.filter fun d => decide (d < lo a)
theorem add_assoc' (a b c : List Nat) : add (add a b) c = add a (add b c) := by
  unfold add
  rw [List.filter_append, List.filter_filter, List.append_assoc]
  congr 2
  refine List.filter_congr fun d hd => ?_
  rw [Bool.eq_iff_iff]
  simp only [Bool.and_eq_true, decide_eq_true_eq]
  rw [lt_lo, lt_lo, lt_lo]
  constructor
  · rintro ⟨h1, h2⟩
    have ha : ∀ x ∈ a, d < x := fun x hx => h2 x (List.mem_append_left _ hx)
    refine ⟨⟨h1, ha⟩, h1, fun x hx => ?_⟩
    by_cases e : x < lo a
    · exact h2 x (List.mem_append_right _ (List.mem_filter.mpr ⟨hx, decide_eq_true e⟩))
    · have := lt_lo.mpr ⟨h1, ha⟩
      omega
  · rintro ⟨⟨h1, ha⟩, _, hb⟩
    refine ⟨h1, fun x hx => ?_⟩
    rcases List.mem_append.mp hx with z | z
    · exact ha x z
    · exact hb x (List.mem_filter.mp z).1
theorem add_nil (a : List Nat) : add a [] = a := List.append_nil a
theorem add_self (a : List Nat) : add a a = a := by
  unfold add
  rw [List.filter_eq_nil_iff.mpr fun x hx => ?_, List.append_nil]
  intro z
  have := (lt_lo.mp (of_decide_eq_true z)).2 x hx
  omega
theorem nil_add {a : List Nat} (h : ∀ c ∈ a, c ≤ 1000) : add [] a = a := by
  unfold add
  rw [List.nil_append]
  exact List.filter_eq_self.mpr fun x hx => decide_eq_true (by
    have := h x hx
    show x < 1001
    omega)
theorem Fall.filter {p : Nat → Bool} : ∀ {l : List Nat}, Fall l → Fall (l.filter p)
  | [], _ => trivial
  | c :: r, f => by
    by_cases h : p c = true
    · rw [List.filter_cons_of_pos h]
      exact ⟨f.1, fun d hd => f.2.1 d (List.mem_filter.mp hd).1, f.2.2.filter⟩
    · rw [List.filter_cons_of_neg h]
      exact f.2.2.filter
theorem Fall.append : ∀ {a b : List Nat}, Fall a → Fall b → (∀ d ∈ b, ∀ x ∈ a, d < x) → Fall (a ++ b)
  | [], b, _, fb, _ => fb
  | c :: r, b, fa, fb, h => ⟨fa.1, fun d hd => by
      rcases List.mem_append.mp hd with z | z
      · exact fa.2.1 d z
      · exact h d z c List.mem_cons_self, fa.2.2.append fb fun d hd x hx => h d hd x (List.mem_cons_of_mem _ hx)⟩
theorem add_fall {a b : List Nat} (fa : Fall a) (fb : Fall b) : Fall (add a b) :=
  fa.append fb.filter fun d hd x hx => (lt_lo.mp (of_decide_eq_true (List.mem_filter.mp hd).2)).2 x hx
theorem add_le {a b : List Nat} (ha : ∀ c ∈ a, c ≤ 1000) (hb : ∀ c ∈ b, c ≤ 1000) : ∀ c ∈ add a b, c ≤ 1000 := fun c hc => by
  rcases List.mem_append.mp hc with z | z
  · exact ha c z
  · exact hb c (List.mem_filter.mp z).1
theorem add_len (a b : List Nat) : (add a b).length ≤ a.length + b.length := by
  unfold add
  rw [List.length_append]
  have := List.length_filter_le (fun d => decide (d < lo a)) b
  omega
/-- the law's own test -/
theorem lo_last {a : List Nat} (fa : Fall a) {d : Nat} (hd : d ≤ 1000) : (d < lo a) ↔ (a = [] ∨ ∃ x, a.getLast? = some x ∧ d < x) := by
  rw [lt_lo]
  by_cases h : a = []
  · subst h
    simp
    omega
  · rw [List.getLast?_eq_some_getLast h]
    constructor
    · rintro ⟨_, h2⟩
      exact .inr ⟨_, rfl, h2 _ (List.getLast_mem h)⟩
    · rintro (z | ⟨x, e, z⟩)
      · exact absurd z h
      · cases e
        exact ⟨by omega, fun y hy => by have := last_le a fa h y hy; omega⟩
/-- what is parted by both -/
theorem pt_add {a b : List Nat} (fa : Fall a) (fb : Fall b) (hb : ∀ c ∈ b, c ≤ 1000) (n : Nat) : pt (add a b) [n] = pt b (pt a [n]) := by
  unfold add
  rw [pt_cat]
  by_cases h : a = []
  · subst h
    have := nil_add hb
    unfold add at this
    rw [List.nil_append] at this
    rw [this]
  · have e : ∀ s ∈ pt a [n], s ≤ a.getLast h := pt_cuts fa.pos [n] _ (List.getLast_mem h)
    rw [pt_idle fb.pos _ e]
    congr 1
    refine List.filter_congr fun d hd => ?_
    rw [decide_eq_decide, lo_last fa (hb d hd), List.getLast?_eq_some_getLast h]
    constructor
    · rintro (z | ⟨x, e, z⟩)
      · exact absurd z h
      · cases e
        exact z
    · exact fun z => .inr ⟨_, rfl, z⟩
theorem add_more {a b : List Nat} (fa : Fall a) (fb : Fall b) (hb : ∀ c ∈ b, c ≤ 1000) {n : Nat} (hn : 0 < n) : L a n ≤ L (add a b) n := by
  rw [← (pt_L a fa n hn).1, ← (pt_L _ (add_fall fa fb) n hn).1, pt_add fa fb hb]
  exact pt_len fb.pos _
end N

end
section
set_option Elab.async false
set_option linter.all false
set_option maxRecDepth 100000
set_option maxHeartbeats 4000000
/-! ## G: defs that are entered with no repr under way (guards known), so that repr of containers can be told -/
namespace G
open PySem PySem.Spec PyProof.Rows L2

/-- a def's promise, kept where no repr is under way -/
structure Ok (P : Program) (w : World) (K : PySem.W.Frag) (mg : Str → Option Value) (base : Heap) (CX : CXT) (k : Nat) (f : Addr) (fd : FuncData) (ps : List Str) (sp : Sp) : Prop where
  len : ∀ vs H Q E, sp vs H Q E → vs.length = ps.length
  go : ∀ (A : Around), A.guards = some [] → ∀ (outer : List Env) (s : Shared) (H : Hp) (args : Args) (us : List Value) (vs : List V) (Q : VK) (E : XK),
    Room k A → Env0 P w K mg base A outer s H → BindsTo s fd args (ps.zip us) → Vals vs us → sp vs H Q E → codeAny (model P w) A (.call (.ref f) args) (CR CX outer P w H s Q E) s
section
variable {P : Program} {w : World} {K : PySem.W.Frag} {mg : Str → Option Value} {base : Heap} {CX : CXT}
theorem Ok.mono {j k : Nat} {f : Addr} {fd : FuncData} {ps : List Str} {sp : Sp} (F : Ok P w K mg base CX j f fd ps sp) (h : j ≤ k) : Ok P w K mg base CX k f fd ps sp :=
  ⟨F.len, fun A hg outer s H args us vs Q E hr => F.go A hg outer s H args us vs Q E (hr.mono h)⟩
theorem Ok.of {k : Nat} {f : Addr} {fd : FuncData} {ps : List Str} {sp : Sp} (F : FnOk P w K mg base CX k f fd ps sp) : Ok P w K mg base CX k f fd ps sp :=
  ⟨F.len, fun A _ => F.run A⟩

theorem mk {k : Nat} {x qual : Str} {st : Stmt} {f : Addr} {fd : FuncData} {N ps : List Str} {sp : Sp} (F : Fun K x qual st f fd) (S : FnScope N ps (defScope st)) (len : ∀ vs H Q E, sp vs H Q E → vs.length = ps.length)
    (walk : ∀ (cdv : Value) (A : Around) (outer : List Env) (s : Shared) (H : Hp) (vs : List V) (Q : VK) (E : XK), A.guards = some [] → Room k (A.deeper (envOfC qual (defScope st) s.heap.objs.size f cdv)) → sp vs H Q E →
      ∃ t, PSs (cxOf CX P w K mg base N qual (defScope st) f cdv A outer s H E).nox (defBody st) t ∧ t { nx := fun _ H' => Q .non H', rt := Q } (start N vs) H) :
    Ok P w K mg base CX (k + 1) f fd ps sp := by
  refine ⟨len, ?_⟩
  obtain ⟨oc, od, kV, doc, pm, an, cdv, ct, osl, hfd, lk, cd⟩ := F.ex
  intro A hg outer s H args us vs Q E hr e0 hb rv hsp
  subst hfd
  have stay : ∀ b o, base.get? b = some o → s.heap.get? b = some o := fun b o e => (e0.bs b o e).1
  have KX : K.In s.heap := e0.mod.kin.keeps stay
  have par : ∀ y ∈ ps.zip us, (defScope st).names.lookup y.1 = some .local ∨ ((defScope st).names.lookup y.1 = some .cell ∧ ((cellsFrom (s.heap.objs.size + 1) (defScope st).names []).lookup y.1).isSome = true) := by
    rintro ⟨n, v⟩ hy
    cases S.par n (List.of_mem_zip hy).1 with
    | inl q => exact .inl q
    | inr q => exact .inr ⟨q, PySem.W.cellsFrom_some _ _ _ (.inl q)⟩
  refine codeAny_call_function hr.depth (KX _ _ lk) rfl S.co S.gen rfl (PySem.W.codeRec_of KX cd) (hb _ _ _ _ (wpAny_newFunctionEnv_cells S.kind par ?_))
  intro env he s1 x
  subst he
  refine ⟨(e0.mod.nolimit.keeps stay).keeps x.toInCall.keep, codeAny_func ?_⟩
  obtain ⟨t, ht, hq⟩ := walk cdv A outer s H vs Q E hg (hr.deeper _) hsp
  refine wpAny_mono (ht.nox.run [] s1 (start N vs) H _ (inv_start S hr.hd e0 (len _ _ _ _ hsp) rv x) hq) ?_ fun e s' hs => hs
  intro fl s' hs
  cases fl with
  | ret u => obtain ⟨v, σ', H', J, ru, q⟩ := hs; exact ⟨v, H', J.os, J.bare, J.base, J.hok, ru, q⟩
  | next => obtain ⟨σ', H', J, q⟩ := hs; exact ⟨.non, H', J.os, J.bare, J.base, J.hok, rfl, q⟩
  | brk => obtain ⟨_, _, _, q⟩ := hs; exact q.elim
  | cont => obtain ⟨_, _, _, q⟩ := hs; exact q.elim

/-- the law's entry: callerA has no guard -/
theorem enter {mb : Str → Option Value} {k : Nat} {fa a : Addr} {fd : FuncData} {x : Str} {sp : Sp} {s₁ : Shared} {vs : List Value} {H : Hp}
    (KX : K.In s₁.heap) (hns : s₁.heap.Ns mainGlobals mg) (hb : s₁.heap.Ns builtinsNs mb) (hbb : ∀ x : Str, x ≠ "__name__" → mb x = bootBuiltins x) (hlim : s₁.heap.NoLimit) (hgen : s₁.gens = #[])
    (ha : s₁.heap.get? a = some { cls := .type "list", data := .seq vs.toArray }) (hr : Room k callerA)
    (F : ∀ base : Heap, K.In base → base.Ns mainGlobals mg → Ok P w K mg base CX k fa fd [x] sp) (hbind : ∀ (s : Shared) (u : Value), BindsTo s fd ⟨[u], []⟩ [(x, u)])
    (hO : Only H) (hok : HOk P w H s₁.heap) (only_a : ∀ b o, H b = some o → b = a) (notK : (∃ o, H a = some o) → K.lookup a = none)
    (hsp : sp [.ref a] H (fun v _ => v = .bl true) fun _ _ _ => False) (hCX : ∀ H e s', CX [] H s₁ (fun _ _ _ => False) e s' → False) :
    codeAny (model P w) callerA (.call (.ref fa) ⟨[.ref a], []⟩) (fun r s' => r = .ok (.ret (.bool true)) ∧ OldK s₁.heap s'.heap ∧ s'.os = s₁.os ∧ AllBare s'.gens) s₁ := by
  have free : ∀ {b : Addr}, b ≠ a → H b = none := fun {b} hne => by
    cases q : H b with
    | none => rfl
    | some u => exact absurd (only_a b u q) hne
  have dic : ∀ {b : Addr} {m : Str → Option Value}, s₁.heap.Ns b m → (hidT s₁.heap H).Ns b m := by
    rintro b m ⟨o, es, ep, e, d, r⟩
    refine ⟨o, es, ep, hidT_get e (free ?_), d, r⟩
    rintro rfl
    rw [ha] at e
    cases e
    cases d
  have kin : K.In (hidT s₁.heap H) := by
    intro b o e
    refine hidT_get (KX b o e) ?_
    cases q : H b with
    | none => rfl
    | some u =>
      have hba := only_a b u q
      subst hba
      rw [notK ⟨u, q⟩] at e
      cases e
  obtain ⟨mc, l1, l2⟩ := hlim
  have e0 : Env0 P w K mg (hidT s₁.heap H) callerA [] s₁ H :=
    { frames := rfl, mod := ⟨kin, dic hns, ⟨mb, dic hb, hbb⟩, ⟨mc, dic l1, l2⟩⟩, bs := fun b o e => of_hidT e, bsz := Nat.le_of_eq (hidT_size _ _), funs := trivial, frf := fun b z => (List.not_mem_nil z).elim, hok := hok, bare := .of_eq hgen }
  refine codeAny_mono ((F _ kin (dic hns)).go callerA rfl [] s₁ H _ [.ref a] _ _ _ hr e0 (hbind s₁ (.ref a)) (.cons (show RelV (.ref a) (.ref a) from rfl) .nil) hsp) ?_
  intro r s' h
  match r, h with
  | .error e, h => exact (hCX H e s' h).elim
  | .ok .next, h => exact h.elim
  | .ok .brk, h => exact h.elim
  | .ok .cont, h => exact h.elim
  | .ok (.ret u), ⟨v, H', os, bare, un, hok', rv, q⟩ =>
    cases (q : v = .bl true)
    cases (rv : u = .bool true)
    refine ⟨rfl, OldK.of_keep fun b o e => ?_, os, bare⟩
    by_cases q : H b = none
    · exact un.keep b o e q List.not_mem_nil List.not_mem_nil
    · rcases hO b with z | ⟨ob, xs, z⟩
      · exact absurd z q
      · have k1 := (hok b _ z).1
        rw [e] at k1
        cases k1
        exact (hok' b _ (un.frzs b _ _ z)).1

theorem walk {l : PySem.W.OpenLaw} {n k : Nat} {q : Program} {loose : List Str} {XP : (Str → Option Value) → Heap → Prop} {YP : World → Heap → Prop} {d : DefRec} {K : Params → PySem.W.Frag} {sp : PySem.W.Frag → Sp} {x : Str}
    (hn : l.most = some n) (hn2 : n ≤ sizeLine) (hdf : d.params.defaults = []) (hr : Room k callerA) (hY : ∀ (w : World) (h : Heap), YP w h → (K w.params).In h)
    (F : ∀ (w : World) (mg : Str → Option Value) (fa : Addr) (h : Heap), (K w.params).In h → h.Ns mainGlobals mg → mg d.name = some (.ref fa) →
      ∃ fd : FuncData, (∀ (s : Shared) (u : Value), BindsTo s fd ⟨[u], []⟩ [(x, u)]) ∧ ∀ base : Heap, (K w.params).In base → base.Ns mainGlobals mg → Ok l.prog w (K w.params) mg base CX0 k fa fd [x] (sp (K w.params)))
    (hsp : ∀ (K : PySem.W.Frag) (H : Hp) (a : Addr) (ns : List Int), ns.length ≤ n → (∀ z ∈ ns, Builtin.Int.intBits z ≤ 1048576) → SqL K H a (ns.map V.int) → sp K [.ref a] H (fun v _ => v = .bl true) fun _ _ _ => False) :
    PySem.W.WalkO q loose XP YP l.row.toRowW d [] (fun f vs => PySem.call f vs) := by
  refine Att.attach_callB hn hdf ?_
  intro w s₀ s₁ mg mb fa o pm cd doc a vs ns G Y ho hd hcd hmg hobj hints hlen hbits hg
  have KX := hY w _ Y
  obtain ⟨fd, hb, hF⟩ := F w mg fa _ KX G.T.g hmg
  have rv := vals_ints hints
  have zl : ns.length ≤ sizeLine := Nat.le_trans hlen hn2
  have wish := fun (H : Hp) (S : SqL (K w.params) H a (ns.map V.int)) => hsp (K w.params) H a ns hlen hbits S
  by_cases hk : (K w.params).lookup a = none
  · refine enter (H := fun b => if b = a then some (.frz { cls := .type "list", data := .seq vs.toArray } (.lst (ns.map V.int))) else none) KX G.T.g G.T.b G.T.builtins G.T.nolimit hg hobj hr hF hb ?_ ?_ ?_ (fun _ => hk) (wish _ ?_) fun _ _ _ z => z
    · intro b
      by_cases e : b = a
      · exact .inr ⟨_, _, if_pos e⟩
      · exact .inl (if_neg e)
    · intro b o e
      by_cases z : b = a
      · subst z
        cases (if_pos rfl).symm.trans e
        exact ⟨hobj, by rw [List.length_map]; exact zl, vs, _, rv, hobj⟩
      · cases (if_neg z).symm.trans e
    · intro b o e
      by_cases z : b = a
      · exact z
      · cases (if_neg z).symm.trans e
    · exact .inl (.inr ⟨_, if_pos rfl⟩)
  · obtain ⟨o, ek⟩ := Option.ne_none_iff_exists'.mp hk
    have eo := (KX a o ek).symm.trans hobj
    cases eo
    refine enter (H := fun _ => none) KX G.T.g G.T.b G.T.builtins G.T.nolimit hg hobj hr hF hb (fun _ => .inl rfl) (fun b o e => nomatch e) (fun b o e => nomatch e) (fun ⟨o, e⟩ => nomatch e) (wish _ ?_) fun _ _ _ z => z
    refine .inr ⟨_, vs.toArray, _, ek, rfl, rfl, rfl, ?_, by simpa using rv⟩
    rw [List.size_toArray, hints.length]
    exact zl
end
end G

end
section
set_option Elab.async false
set_option linter.all false
set_option maxRecDepth 100000
set_option maxHeartbeats 4000000
/-! ## repr of containers; int ** int of great ints -/
namespace G
open PySem PySem.Spec PyProof.Rows L2
def keyD : Key → PyData
  | .inl i => .int i
  | .inr x => .str x
mutual
/-- data at a value: as it is read off the abstract heap; lists and no dict (true), or dicts and no list (false) -/
inductive Dr (K : PySem.W.Frag) (H : Hp) : Bool → V → PyData → Prop
  | non {m : Bool} : Dr K H m .non .none
  | bl {m : Bool} (b : Bool) : Dr K H m (.bl b) (.bool b)
  | int {m : Bool} (i : Int) : Dr K H m (.int i) (.int i)
  | str {m : Bool} (x : Str) : Dr K H m (.str x) (.str x)
  | lst {a : Addr} {xs : List V} {ds : List PyData} : SqL K H a xs → DrA K H true xs ds → Dr K H true (.ref a) (.list ds)
  | tup {m : Bool} {a : Addr} {xs : List V} {ds : List PyData} : SqT K H a xs → DrA K H m xs ds → Dr K H m (.ref a) (.tuple ds)
  | dic {a : Addr} {kvs : List (Key × V)} {ds : List PyData} : H a = some (.dK kvs) → DrA K H false (kvs.map (·.2)) ds → Dr K H false (.ref a) (.dict ((kvs.map fun p => keyD p.1).zip ds))
inductive DrA (K : PySem.W.Frag) (H : Hp) : Bool → List V → List PyData → Prop
  | nil {m : Bool} : DrA K H m [] []
  | cons {m : Bool} {v : V} {vs : List V} {d : PyData} {ds : List PyData} : Dr K H m v d → DrA K H m vs ds → DrA K H m (v :: vs) (d :: ds)
end
theorem DrA.len {K : PySem.W.Frag} {H : Hp} {m : Bool} : ∀ {vs : List V} {ds : List PyData}, DrA K H m vs ds → vs.length = ds.length
  | _, _, .nil => rfl
  | _, _, .cons _ t => congrArg Nat.succ (DrA.len t)
mutual
theorem Dr.noDict {K : PySem.W.Frag} {H : Hp} : ∀ (d : PyData) (v : V), Dr K H true v d → d.hasDict = false
  | .none, _, _ => by simp only [PyData.hasDict]
  | .bool _, _, _ => by simp only [PyData.hasDict]
  | .int _, _, _ => by simp only [PyData.hasDict]
  | .str _, _, _ => by simp only [PyData.hasDict]
  | .list ds, _, h => by
    cases h with
    | lst _ ha => simp only [PyData.hasDict]; exact DrA.noDict ds _ ha
  | .tuple ds, _, h => by
    cases h with
    | tup _ ha => simp only [PyData.hasDict]; exact DrA.noDict ds _ ha
  | .dict _, _, h => by cases h
theorem DrA.noDict {K : PySem.W.Frag} {H : Hp} : ∀ (ds : List PyData) (vs : List V), DrA K H true vs ds → PyData.hasDictAll ds = false
  | [], _, _ => by simp only [PyData.hasDictAll]
  | d :: ds, _, h => by
    cases h with
    | cons a b => simp only [PyData.hasDictAll, Dr.noDict d _ a, DrA.noDict ds _ b, Bool.or_self]
end
theorem keys_read {P : Program} {w : World} {h : Heap} : ∀ {es : List DictEntry} {kvs : List (Key × V)} {vs : List (Key × Value)}, Pairs (mixKind P w) es vs → KV kvs vs →
    ∃ as, ReadsAll h (es.map (·.key)) (kvs.map fun p => keyD p.1) as ∧ as = []
  | _, _, _, .nil, .nil => ⟨_, .nil, rfl⟩
  | _, _, _, .cons hk hv hp, .cons r t => by
    obtain ⟨as, q, e⟩ := keys_read (P := P) (w := w) (h := h) hp t
    subst e
    have hk' : keyIs _ _ = true := hk
    rw [← r.1] at hk'
    rename_i e' _ _ _ p' _
    rcases keyIs_shape hk' with ⟨i, t, ek, ev⟩ | ⟨x, t, ek, ev⟩
    · refine ⟨[], ?_, rfl⟩
      have z := ReadsAll.cons (h := h) (Reads.int i t) q
      rw [← ev] at z
      have ke : keyD p'.1 = .int i := by rw [ek]; rfl
      rw [List.map_cons, List.map_cons, ke]
      exact z
    · refine ⟨[], ?_, rfl⟩
      have z := ReadsAll.cons (h := h) (Reads.str x t) q
      rw [← ev] at z
      have ke : keyD p'.1 = .str x := by rw [ek]; rfl
      rw [List.map_cons, List.map_cons, ke]
      exact z
theorem vals_of {P : Program} {w : World} : ∀ {es : List DictEntry} {kvs : List (Key × V)} {vs : List (Key × Value)}, Pairs (mixKind P w) es vs → KV kvs vs → Vals (kvs.map (·.2)) (es.map (·.val))
  | _, _, _, .nil, .nil => .nil
  | _, _, _, .cons hk hv hp, .cons r t => .cons (by show RelV _ (DictEntry.val _); rw [hv]; exact r.2) (vals_of hp t)
section
variable {X : Cx} {pins : List (Addr × Obj)} {σ : L2.St} {H : Hp} {s : Shared}
mutual
theorem Dr.reads (I : Inv X pins σ H s) {m : Bool} : ∀ (d : PyData) (v : V) (u : Value), Dr X.K H m v d → RelV v u → ∃ as, Reads s.heap u d as ∧ (m = false → sysModules ∉ as)
  | .none, _, _, h, r => by
    cases h
    cases r
    exact ⟨_, Reads.none, fun _ => List.not_mem_nil⟩
  | .bool b, _, _, h, r => by
    cases h
    cases r
    exact ⟨_, Reads.bool b, fun _ => List.not_mem_nil⟩
  | .int i, _, _, h, r => by
    cases h
    obtain ⟨t, rfl⟩ := r
    exact ⟨_, Reads.int i t, fun _ => List.not_mem_nil⟩
  | .str x, _, _, h, r => by
    cases h
    obtain ⟨t, rfl⟩ := r
    exact ⟨_, Reads.str x t, fun _ => List.not_mem_nil⟩
  | .list ds, _, _, h, r => by
    cases h with
    | @lst a xs _ hs ha =>
      cases r
      obtain ⟨its, rv, ⟨o, n, ho, hc, _, hd⟩, _⟩ := I.list hs
      obtain ⟨as, hr, hn⟩ := DrA.reads I ds _ its ha rv
      exact ⟨_, Reads.list ho hc hd hr, fun z => by cases z⟩
  | .tuple ds, _, _, h, r => by
    cases h with
    | tup hs ha =>
      cases r
      obtain ⟨its, rv, ⟨o, ho, hc, n, hd⟩, _⟩ := I.tuple hs
      obtain ⟨as, hr, hn⟩ := DrA.reads I ds _ its ha rv
      exact ⟨_, Reads.tuple ho hc hd hr, hn⟩
  | .dict kds, _, _, h, r => by
    cases h with
    | @dic a kvs ds hs ha =>
      cases r
      obtain ⟨_, hsys, vs, rk, o, es, ep, ho, hx, hd, _, hp, _⟩ := (show ObjOk X.prog X.w H s.heap a (.dK kvs) from I.hok a _ hs)
      obtain ⟨_, hk, e⟩ := keys_read (h := s.heap) hp rk
      subst e
      have hl : (kvs.map fun p => keyD p.1).length = ds.length := by rw [List.length_map, ← ha.len, List.length_map]
      have e1 : ((kvs.map fun p => keyD p.1).zip ds).map (·.1) = kvs.map fun p => keyD p.1 := List.map_fst_zip (Nat.le_of_eq hl)
      have e2 : ((kvs.map fun p => keyD p.1).zip ds).map (·.2) = ds := List.map_snd_zip (Nat.le_of_eq hl.symm)
      have ha' : DrA X.K H false (kvs.map (·.2)) (((kvs.map fun p => keyD p.1).zip ds).map (·.2)) := by rw [e2]; exact ha
      obtain ⟨bs, hr, hn⟩ := DrA.reads2 I ((kvs.map fun p => keyD p.1).zip ds) _ _ ha' (vals_of hp rk)
      refine ⟨_, Reads.dict ho hx.1 hd (by rw [e1]; exact hk) hr, fun _ z => ?_⟩
      rcases List.mem_append.mp z with z | z
      · rcases List.mem_cons.mp z with e | e
        · rw [← e] at hsys
          simp at hsys
        · exact absurd e List.not_mem_nil
      · exact hn rfl z
theorem DrA.reads (I : Inv X pins σ H s) {m : Bool} : ∀ (ds : List PyData) (vs : List V) (us : List Value), DrA X.K H m vs ds → Vals vs us → ∃ as, ReadsAll s.heap us ds as ∧ (m = false → sysModules ∉ as)
  | [], _, _, h, r => by
    cases h
    cases r
    exact ⟨_, ReadsAll.nil, fun _ => List.not_mem_nil⟩
  | d :: ds, _, _, h, r => by
    cases h with
    | cons h1 h2 =>
      cases r with
      | cons r1 r2 =>
        obtain ⟨as, q1, n1⟩ := Dr.reads I d _ _ h1 r1
        obtain ⟨bs, q2, n2⟩ := DrA.reads I ds _ _ h2 r2
        exact ⟨_, ReadsAll.cons q1 q2, fun e z => (List.mem_append.mp z).elim (n1 e) (n2 e)⟩
theorem DrA.reads2 (I : Inv X pins σ H s) {m : Bool} : ∀ (kds : List (PyData × PyData)) (vs : List V) (us : List Value), DrA X.K H m vs (kds.map (·.2)) → Vals vs us → ∃ as, ReadsAll s.heap us (kds.map (·.2)) as ∧ (m = false → sysModules ∉ as)
  | [], _, _, h, r => by
    cases h
    cases r
    exact ⟨_, ReadsAll.nil, fun _ => List.not_mem_nil⟩
  | (k, d) :: ds, _, _, h, r => by
    cases h with
    | cons h1 h2 =>
      cases r with
      | cons r1 r2 =>
        obtain ⟨as, q1, n1⟩ := Dr.reads I d _ _ h1 r1
        obtain ⟨bs, q2, n2⟩ := DrA.reads2 I ds _ _ h2 r2
        exact ⟨_, ReadsAll.cons q1 q2, fun e z => (List.mem_append.mp z).elim (n1 e) (n2 e)⟩
end
end
/-- repr of a list that is not empty: what is read below it is none of the interpreter's own dict -/
theorem repr_top {prog : Program} {w : World} {A : Around} {E : Value → Shared → Prop} {s : Shared} {a : Addr} {o : Obj} {v : Value} {vs : List Value} {n : Nat} {ds : List PyData} {as : List Addr} {Q : Value → Shared → Prop} (ho : s.heap.get? a = some o) (hc : o.cls = .type "list") (hd : o.data = .seq (v :: vs).toArray n)
    (hr : ReadsAll s.heap (v :: vs) ds as) (hn : sysModules ∉ as) (hs : PyData.showableAll ds = true) (hg : A.guards = some []) (hu : A.units + ((PyData.list ds).depth + 1) < cLine) (hz : (PyData.list ds).shown.length ≤ sizeLine)
    (hQ : ∀ h' u tk, (∀ b o, s.heap.get? b = some o → h'.get? b = some o) → Q (.str (PyData.list ds).shown u) { s with heap := h', toks := tk }) : wpAny (model prog w) A (call (.builtin "repr") [.ref a]) Q E s := by
  have depth : (PyData.list ds).depth = PyData.depthAll ds + 1 := by simp only [PyData.depth]
  have text : (PyData.list ds).shown = listText (PyData.shownAll ds) := by simp only [PyData.shown]
  rw [text] at hz
  rw [depth] at hu
  obtain ⟨bs, most, items⟩ := ReprAllK.of_readsAll (prog := prog) (w := w) hr hs (fun _ => hn) (fun t ht => Nat.le_trans (listText_mem_le ht) hz)
  have apart : a ∉ bs := not_mem_of_deeper (.list ho hc hd (by simpa using hr)) (by rw [depth]; omega) most
  refine call_repr_slot (by omega) ⟨o, ho, hc⟩ F.slot_list_repr.toG ?_
  refine call_list_reprK ho hc hd apart (by simpa using items.length_eq) (fun i y e => items.item i y (by simpa using e)) hg (fun b _ => Clear.nil b) (by show A.units + 1 + _ < cLine; omega) (fun _ _ e => e) (fun h' u tk k => ⟨_, _, rfl, ?_⟩) hz
  rw [← text]
  exact hQ h' u tk k
def rRepr (K : PySem.W.Frag) : List V → Hp → VK → Prop := fun xs H Q => ∃ (a : Addr) (m : Bool) (y : V) (ys : List V) (ds : List PyData), xs = [.ref a] ∧ SqL K H a (y :: ys) ∧ DrA K H m (y :: ys) ds ∧ (PyData.list ds).showable = true ∧ (PyData.list ds).depth ≤ 20 ∧ (PyData.list ds).shown.length ≤ sizeLine ∧ Q (.str (PyData.list ds).shown) H
theorem call_repr {X : Cx} (hg : X.A.guards = some []) (hu : X.A.units + 64 < cLine) : CallR X (.builtin "repr") (rRepr X.K) := by
  intro pins s σ H xs us Q I r h
  obtain ⟨a, m, y, ys, ds, rfl, hL, hd, hs, hl, hz, q⟩ := h
  cases r with
  | cons rx rr =>
    cases rr
    cases rx
    have fin : ∀ (h' : Heap) (u : Tok) (tk : Nat), (∀ b o, s.heap.get? b = some o → h'.get? b = some o) → EP X pins σ Q (.str (PyData.list ds).shown u) { s with heap := h', toks := tk } := fun h' u tk k => ⟨.str (PyData.list ds).shown, H, I.kept (t' := tk) k, ⟨u, rfl⟩, q⟩
    obtain ⟨its, rv, ⟨o, n, ho, hc, _, hd'⟩, _⟩ := I.list hL
    obtain ⟨as, hr, hn⟩ := DrA.reads I ds _ its hd rv
    cases m with
    | true =>
      refine repr_of_reads' (.list ho hc hd' hr) hs (fun z => ?_) hg (by omega) (fun _ _ e => e) fin hz
      rw [show (PyData.list ds).hasDict = PyData.hasDictAll ds by simp only [PyData.hasDict], DrA.noDict ds _ hd] at z
      cases z
    | false =>
      cases rv with
      | cons r1 r2 => exact repr_top ho hc hd' hr (hn rfl) (by simpa only [PyData.showable] using hs) hg (by omega) hz fin
def rReprF : List V → Hp → VK → Prop := fun xs H Q => (xs = [.non] ∧ Q (.str "None") H) ∨ (∃ b, xs = [.bl b] ∧ Q (.str (if b then "True" else "False")) H) ∨ ∃ i, xs = [.int i] ∧ i.natAbs.log2 < 1920 ∧ Q (.str (toString i)) H
theorem call_reprF {X : Cx} : CallR X (.builtin "repr") rReprF := by
  intro pins s σ H xs us Q I r h
  rcases h with ⟨rfl, q⟩ | ⟨b, rfl, q⟩ | ⟨i, rfl, hz, q⟩
  · cases r with
    | cons rx rr => cases rr; cases rx; exact PySem.P.repr_of_none ⟨.str _, H, I.tok _, ⟨_, rfl⟩, q⟩
  · cases r with
    | cons rx rr => cases rr; cases rx; exact PySem.P.repr_of_bool ⟨.str _, H, I.tok _, ⟨_, rfl⟩, q⟩
  · cases r with
    | cons rx rr => cases rr; obtain ⟨t, rfl⟩ := rx; exact PySem.P.repr_of_int hz ⟨.str _, H, I.tok _, ⟨_, rfl⟩, q⟩
/-- a ** n, n a small written number, a of any size -/
theorem op_powN {X : Cx} : OpR X (binaryOp .Pow) (rI (fun i j => 0 ≤ j ∧ (Builtin.Int.intBits i : Int) * j ≤ 2 ^ 27) fun i j => .int (i ^ j.toNat)) := opI fun _ _ _ _ _ _ _ hc q => pow_int hc.1 hc.2 q
end G

end
section
set_option Elab.async false
set_option linter.all false
set_option maxRecDepth 100000
set_option maxHeartbeats 4000000
/-! ## max of a list of ints, with and without default= -/
namespace G
open PySem PySem.Spec PyProof.Rows L2 PySem.W
theorem ints_reads {h : Heap} : ∀ {ns : List Int} {us : List Value}, Vals (ns.map V.int) us → ReadsAll h us (ns.map PyData.int) []
  | [], _, r => by cases r; exact .nil
  | n :: ns, _, r => by
    cases r with
    | cons a b =>
      obtain ⟨t, rfl⟩ := a
      exact .cons (as := []) (bs := []) (.int n t) (ints_reads b)
theorem ints_alike : ∀ ns : List Int, AlikeAll (ns.map PyData.int) := by
  intro ns
  refine ⟨fun x hx y hy => ?_, fun x hx => ?_⟩
  · obtain ⟨a, _, rfl⟩ := List.mem_map.mp hx
    obtain ⟨b, _, rfl⟩ := List.mem_map.mp hy
    rfl
  · obtain ⟨a, _, rfl⟩ := List.mem_map.mp hx
    intro z
    cases z
theorem ints_depth : ∀ ns : List Int, PyData.depthAll (ns.map PyData.int) = 0
  | [] => by simp only [List.map_nil, PyData.depthAll]
  | n :: ns => by simp only [List.map_cons, PyData.depthAll, PyData.depth, ints_depth ns, Nat.max_self]
theorem int_reads {h : Heap} {v : Value} {n : Int} {bs : List Addr} (r : Reads h v (.int n) bs) : RelV (.int n) v := by
  cases r
  exact ⟨_, rfl⟩
def rMaxID (K : PySem.W.Frag) : List V → List V → Hp → VK → Prop := fun xs zs H Q => ∃ (a : Addr) (ns : List Int) (d : Int), xs = [.ref a] ∧ zs = [.int d] ∧ SqL K H a (ns.map V.int) ∧ Q (.int (match ns with | [] => d | n :: r => r.foldl max n)) H
section
variable {X : Cx}
theorem call_maxID (hc : X.calm = true) (hu : X.A.units + 64 < cLine) : CallRK X (.builtin "max") ["default"] (rMaxID X.K) := by
  intro pins s σ H xs zs us ws Q I r rz h
  obtain ⟨a, ns, d, rfl, rfl, hL, q⟩ := h
  cases r with
  | cons rx rr =>
    cases rr
    cases rx
    cases rz with
    | cons ra rb =>
      cases rb
      obtain ⟨td, rfl⟩ := ra
      obtain ⟨its, rv, pl, _⟩ := I.list hL
      have hr := ints_reads (h := s.heap) rv
      refine max_list_default (xs := ns.map .int) (d := .int d td) (I.ok.hd hc) pl.isList (by simpa using hr) (ints_alike ns) (by rw [ints_depth]; omega) (fun e h' tk k => ?_) fun y ys i v h' tk bs e hv hR k => ?_
      · cases ns with
        | nil => exact ⟨.int d, H, I.kept (t' := tk) k, ⟨td, rfl⟩, q⟩
        | cons n r => cases e
      · cases ns with
        | nil => cases e
        | cons n r =>
          injection e with e1 e2
          subst e1 e2
          rw [maxD_ints] at hR
          exact ⟨.int _, H, I.kept (t' := tk) k, int_reads hR, q⟩
end
end G

end
section
set_option autoImplicit false
/-! ## ways and what becomes of letters: a mirror, and that a lesser body fares no worse -/
namespace M
inductive LW where
  | cut | tell | drop
  deriving DecidableEq
inductive TW where
  | turn | keep | lose
  deriving DecidableEq
mutual
inductive Way where
  | mk (head : Nat) (steps : List Step)
inductive Step where
  | road (size : Nat) (tellS : Bool) (loose : LW)
  | join (most : Nat)
  | tunnel (w : Way) (most : Nat) (t : TW)
end
def Way.head : Way → Nat
  | .mk h _ => h
def Way.steps : Way → List Step
  | .mk _ s => s
inductive Fate where
  | comes (l : List Nat)
  | told (size : Int) (place : List Nat)
  | silent (place : List Nat)
  deriving DecidableEq
/-- what a step makes of stretches; an end as it is seen from the step -/
def parts (c x : Nat) : List Nat := (List.range ((x + c - 1) / c)).map fun k => min c (x - k * c)
def cutAll (c : Nat) (l : List Nat) : List Nat := l.flatMap (parts c)
def road (h size : Nat) (tellS : Bool) (lw : LW) (sealed : Bool) (l : List Nat) : Fate :=
  if ∀ x ∈ l, x ≤ size - h then .comes l
  else if sealed then (if tellS then .told size [] else .silent [])
  else match lw with
    | .cut => .comes (cutAll (size - h) l)
    | .tell => .told size []
    | .drop => .silent []
def join (most : Nat) (l : List Nat) : Fate := if l.length > most then .silent [] else .comes [l.sum]
def turned (ih : Nat) (t : TW) : Fate → Fate
  | .told s p => if t = .turn then .told (s - ih) p else .silent p
  | .silent p => .silent p
  | .comes _ => .silent []
def seen (i : Nat) : Fate → Fate
  | .told s p => .told s (i :: p)
  | .silent p => .silent (i :: p)
  | .comes l => .comes l
/-- the tunnel, by what the inner way makes of each stretch -/
def tunnel (inner : Nat → Fate) (ih most : Nat) (t : TW) (l : List Nat) : List Nat → Fate
  | [] => .comes l
  | x :: r => match inner x with
    | .comes m => if m.length > most then .silent [] else tunnel inner ih most t l r
    | f => turned ih t f
mutual
def Way.walk (sealed : Bool) : Way → Nat → Fate
  | .mk h steps, b => Way.from sealed h steps 0 [b]
def Way.from (sealed : Bool) (h : Nat) : List Step → Nat → List Nat → Fate
  | [], _, l => .comes l
  | s :: r, i, l => match Step.does sealed h s l with
    | .comes m => Way.from sealed h r (i + 1) m
    | f => seen i f
def Step.does (sealed : Bool) (h : Nat) : Step → List Nat → Fate
  | .road size ts lw, l => road h size ts lw sealed l
  | .join most, l => join most l
  | .tunnel w most t, l => tunnel (fun x => Way.walk sealed w (h + x)) w.head most t l l
end
/-! ### truncation -/
def tr : List Nat → Nat → List Nat
  | _, 0 => []
  | [], _ + 1 => []
  | x :: l, b + 1 => if b + 1 ≤ x then [b + 1] else x :: tr l (b + 1 - x)
theorem tr_zero (l : List Nat) : tr l 0 = [] := by cases l <;> rfl
theorem tr_cons {x b : Nat} {l : List Nat} (hb : 0 < b) : tr (x :: l) b = if b ≤ x then [b] else x :: tr l (b - x) := by
  cases b with
  | zero => omega
  | succ b => rfl
theorem tr_nil (b : Nat) : tr [] b = [] := by cases b <;> rfl
theorem tr_mem : ∀ (l : List Nat) (b x : Nat), x ∈ tr l b → ∃ y ∈ l, x ≤ y
  | [], b, x, h => by rw [tr_nil] at h; cases h
  | y :: l, b, x, h => by
    by_cases hb : 0 < b
    · rw [tr_cons hb] at h
      split at h
      · rename_i hy
        have e : x = b := by simpa using h
        exact ⟨y, List.mem_cons_self, by omega⟩
      · rcases List.mem_cons.mp h with e | e
        · exact ⟨y, List.mem_cons_self, by omega⟩
        · obtain ⟨z, hz, hx⟩ := tr_mem l _ x e
          exact ⟨z, List.mem_cons_of_mem _ hz, hx⟩
    · have e : b = 0 := by omega
      subst e
      rw [tr_zero] at h
      cases h
theorem tr_len : ∀ (l : List Nat) (b : Nat), (tr l b).length ≤ l.length
  | [], b => by rw [tr_nil]; exact Nat.le_refl _
  | y :: l, b => by
    by_cases hb : 0 < b
    · rw [tr_cons hb]
      split
      · simp
      · have := tr_len l (b - y)
        simp; omega
    · have e : b = 0 := by omega
      subst e
      rw [tr_zero]; simp
theorem tr_sum : ∀ (l : List Nat) (b : Nat), b ≤ l.sum → (tr l b).sum = b
  | [], b, h => by rw [tr_nil]; simp at h ⊢; omega
  | y :: l, b, h => by
    by_cases hb : 0 < b
    · rw [tr_cons hb]
      split
      · simp
      · simp at h ⊢
        have := tr_sum l (b - y) (by omega)
        omega
    · have e : b = 0 := by omega
      subst e
      rw [tr_zero]; rfl
theorem tr_all {l : List Nat} (h : ∀ x ∈ l, 0 < x) : tr l l.sum = l := by
  induction l with
  | nil => rfl
  | cons x l ih =>
    have hx := h x List.mem_cons_self
    rw [tr_cons (by simp; omega)]
    cases l with
    | nil => simp
    | cons y r =>
      have hy := h y (by simp)
      rw [if_neg (by simp; omega)]
      have e : (x :: y :: r).sum - x = (y :: r).sum := by simp
      rw [e, ih fun z hz => h z (List.mem_cons_of_mem _ hz)]
theorem tr_append : ∀ (l m : List Nat) (b : Nat), tr (l ++ m) b = if b ≤ l.sum then tr l b else l ++ tr m (b - l.sum)
  | [], m, b => by
    cases b with
    | zero => simp [tr_zero]
    | succ b => simp
  | x :: l, m, b => by
    by_cases hb : 0 < b
    · rw [List.cons_append, tr_cons hb, tr_cons hb, tr_append l m (b - x), List.sum_cons]
      by_cases h1 : b ≤ x
      · rw [if_pos h1, if_pos (by omega), if_pos h1]
      · rw [if_neg h1, if_neg h1]
        by_cases h2 : b ≤ x + l.sum
        · rw [if_pos (by omega), if_pos h2]
        · rw [if_neg (by omega), if_neg h2]
          have e : b - x - l.sum = b - (x + l.sum) := by omega
          rw [e]; rfl
    · have e : b = 0 := by omega
      subst e
      simp [tr_zero]
/-! ### cutting -/
theorem parts_small {c x : Nat} (h0 : 0 < x) (h : x ≤ c) : parts c x = [x] := by
  unfold parts
  have e : (x + c - 1) / c = 1 := by
    have e1 : x + c - 1 = (x - 1) + c * 1 := by omega
    rw [e1, Nat.add_mul_div_left _ _ (by omega : 0 < c), Nat.div_eq_of_lt (by omega)]
  rw [e]
  show [min c (x - 0 * c)] = [x]
  rw [Nat.zero_mul, Nat.sub_zero, Nat.min_eq_right h]
theorem parts_more {c x : Nat} (hc : 0 < c) (h : c < x) : parts c x = c :: parts c (x - c) := by
  unfold parts
  have e : (x + c - 1) / c = (x - c + c - 1) / c + 1 := by
    have e1 : x + c - 1 = (x - c + c - 1) + c * 1 := by omega
    rw [e1, Nat.add_mul_div_left _ _ hc]
  rw [e, List.range_succ_eq_map, List.map_cons, List.map_map]
  congr 1
  · rw [Nat.zero_mul, Nat.sub_zero, Nat.min_eq_left (by omega)]
  · apply List.map_congr_left
    intro k _
    show min c (x - (k + 1) * c) = min c (x - c - k * c)
    rw [Nat.succ_mul]
    congr 1
    omega
theorem parts_ind {c : Nat} {P : Nat → Prop} (hc : 0 < c) (small : ∀ x, 0 < x → x ≤ c → P x) (more : ∀ x, c < x → P (x - c) → P x) (x : Nat) (hx : 0 < x) : P x := by
  induction x using Nat.strongRecOn with
  | _ x ih =>
    by_cases h : x ≤ c
    · exact small x hx h
    · exact more x (by omega) (ih (x - c) (by omega) (by omega))
theorem parts_sum {c x : Nat} (hc : 0 < c) (hx : 0 < x) : (parts c x).sum = x := by
  refine parts_ind (P := fun x => (parts c x).sum = x) hc (fun x h1 h2 => ?_) (fun x h1 ih => ?_) x hx
  · rw [parts_small h1 h2]; simp
  · rw [parts_more hc h1, List.sum_cons, ih]; omega
theorem parts_pos {c x : Nat} (hc : 0 < c) (hx : 0 < x) : ∀ y ∈ parts c x, 0 < y ∧ y ≤ c ∧ y ≤ x := by
  refine parts_ind (P := fun x => ∀ y ∈ parts c x, 0 < y ∧ y ≤ c ∧ y ≤ x) hc (fun x h1 h2 => ?_) (fun x h1 ih => ?_) x hx
  · rw [parts_small h1 h2]
    intro y hy
    have e : y = x := by simpa using hy
    omega
  · rw [parts_more hc h1]
    intro y hy
    rcases List.mem_cons.mp hy with e | e
    · omega
    · have := ih y e
      omega
/-- the first piece -/
theorem parts_head {c x : Nat} (hc : 0 < c) (hx : 0 < x) : ∃ r, parts c x = min c x :: r := by
  by_cases h : x ≤ c
  · exact ⟨[], by rw [parts_small hx h, Nat.min_eq_right h]⟩
  · exact ⟨_, by rw [parts_more hc (by omega), Nat.min_eq_left (by omega)]⟩
theorem parts_tr {c : Nat} (hc : 0 < c) (x : Nat) (hx : 0 < x) : ∀ b, 0 < b → b ≤ x → tr (parts c x) b = parts c b := by
  refine parts_ind (P := fun x => ∀ b, 0 < b → b ≤ x → tr (parts c x) b = parts c b) hc (fun x h1 h2 b hb hbx => ?_) (fun x h1 ih b hb hbx => ?_) x hx
  · rw [parts_small h1 h2, tr_cons hb, if_pos hbx, parts_small hb (by omega)]
  · rw [parts_more hc h1, tr_cons hb]
    by_cases h : b ≤ c
    · rw [if_pos h, parts_small hb h]
    · rw [if_neg h, parts_more (x := b) hc (by omega), ih (b - c) (by omega) (by omega)]
theorem cut_sum {c : Nat} (hc : 0 < c) : ∀ {l : List Nat}, (∀ x ∈ l, 0 < x) → (cutAll c l).sum = l.sum
  | [], _ => rfl
  | x :: l, h => by
    show (parts c x ++ cutAll c l).sum = _
    rw [List.sum_append, parts_sum hc (h x List.mem_cons_self), cut_sum hc fun y hy => h y (List.mem_cons_of_mem _ hy), List.sum_cons]
theorem cut_tr {c : Nat} (hc : 0 < c) : ∀ {l : List Nat} {b : Nat}, (∀ x ∈ l, 0 < x) → b ≤ l.sum → cutAll c (tr l b) = tr (cutAll c l) b
  | [], b, _, _ => by rw [tr_nil]; show [] = tr [] b; rw [tr_nil]
  | x :: l, b, h, hb => by
    have hx := h x List.mem_cons_self
    show _ = tr (parts c x ++ cutAll c l) b
    by_cases h0 : 0 < b
    · rw [tr_append, parts_sum hc hx, tr_cons h0]
      by_cases h1 : b ≤ x
      · rw [if_pos h1, if_pos h1, parts_tr hc x hx b h0 h1]
        show parts c b ++ [] = _
        rw [List.append_nil]
      · rw [if_neg h1, if_neg h1]
        show parts c x ++ cutAll c (tr l (b - x)) = _
        rw [cut_tr hc (fun y hy => h y (List.mem_cons_of_mem _ hy)) (by simp at hb; omega)]
    · have e : b = 0 := by omega
      subst e
      rw [tr_zero, tr_zero]; rfl
theorem cut_same {c : Nat} : ∀ {l : List Nat}, (∀ x ∈ l, 0 < x ∧ x ≤ c) → cutAll c l = l
  | [], _ => rfl
  | x :: l, h => by
    show parts c x ++ cutAll c l = _
    have hx := h x List.mem_cons_self
    rw [parts_small hx.1 hx.2, cut_same fun y hy => h y (List.mem_cons_of_mem _ hy)]
    rfl
/-! ### the stretches of a letter, and those of a lesser one -/
/-- stretches of a body b -/
structure Good (b : Nat) (l : List Nat) : Prop where
  sum : l.sum = b
  ne : l ≠ []
  pos : 0 < b → ∀ x ∈ l, 0 < x
  zero : b = 0 → l = [0]
  first : ∀ x ∈ l, x ≤ l.headD 0
/-- stretches of b beside those of a body that is not less -/
def Rel (b : Nat) (l l' : List Nat) : Prop := if b = 0 then l = [0] else l = tr l' b
theorem good_one (b : Nat) : Good b [b] where
  sum := by simp
  ne := by simp
  pos := fun h x hx => by
    have e : x = b := by simpa using hx
    omega
  zero := fun h => by rw [h]
  first := fun x hx => by
    have e : x = b := by simpa using hx
    rw [e]
    exact Nat.le_refl b
theorem rel_one {b b' : Nat} (h : b ≤ b') : Rel b [b] [b'] := by
  unfold Rel
  split
  · rename_i e; rw [e]
  · rw [tr_cons (by omega), if_pos h]
/-- lesser stretches: each at most one of the greater, the first at most the first; no more of them -/
theorem rel_mem {b b' : Nat} {l l' : List Nat} (h : Rel b l l') (g : Good b' l') : ∀ x ∈ l, ∃ y ∈ l', x ≤ y := by
  unfold Rel at h
  split at h
  · subst h
    intro x hx
    have e : x = 0 := by simpa using hx
    cases l' with
    | nil => exact absurd rfl g.ne
    | cons y r => exact ⟨y, List.mem_cons_self, by omega⟩
  · subst h
    exact tr_mem l' b
theorem rel_len {b b' : Nat} {l l' : List Nat} (h : Rel b l l') (g : Good b' l') : l.length ≤ l'.length := by
  unfold Rel at h
  split at h
  · subst h
    cases l' with
    | nil => exact absurd rfl g.ne
    | cons y r => simp
  · subst h
    exact tr_len l' b
theorem good_cut {b c : Nat} {l : List Nat} (hc : 0 < c) (hb : 0 < b) (g : Good b l) : Good b (cutAll c l) := by
  have p := g.pos hb
  obtain ⟨y, r, rfl⟩ : ∃ y r, l = y :: r := by
    cases l with
    | nil => exact absurd rfl g.ne
    | cons y r => exact ⟨y, r, rfl⟩
  obtain ⟨r', hr⟩ := parts_head hc (p y List.mem_cons_self)
  have e : cutAll c (y :: r) = min c y :: (r' ++ cutAll c r) := by
    show parts c y ++ cutAll c r = _
    rw [hr]; rfl
  refine ⟨by rw [cut_sum hc p, g.sum], by rw [e]; simp, fun _ x hx => ?_, fun h => by omega, fun x hx => ?_⟩
  · obtain ⟨z, hz, hx⟩ := List.mem_flatMap.mp hx
    exact (parts_pos hc (p z hz) x hx).1
  · rw [e]
    show x ≤ min c y
    obtain ⟨z, hz, hx⟩ := List.mem_flatMap.mp hx
    have q := parts_pos hc (p z hz) x hx
    have f : z ≤ y := g.first z hz
    omega
mutual
/-- what a way's steps are: sizes above heads, at least one piece put together -/
def Way.ok : Way → Prop
  | .mk h steps => 0 < h ∧ Step.okAll h steps
def Step.okAll (h : Nat) : List Step → Prop
  | [] => True
  | s :: r => Step.ok h s ∧ Step.okAll h r
def Step.ok (h : Nat) : Step → Prop
  | .road size _ _ => h < size
  | .join most => 0 < most
  | .tunnel w most _ => Way.ok w ∧ 0 < most
end
theorem road_comes {h size : Nat} {ts : Bool} {lw : LW} {sealed : Bool} {l m : List Nat} (e : road h size ts lw sealed l = .comes m) : (m = l ∧ ∀ x ∈ l, x ≤ size - h) ∨ (m = cutAll (size - h) l ∧ sealed = false ∧ lw = .cut ∧ ¬ ∀ x ∈ l, x ≤ size - h) := by
  unfold road at e
  split at e
  · rename_i q
    injection e with e
    exact .inl ⟨e.symm, q⟩
  · rename_i q
    split at e
    · split at e <;> cases e
    · rename_i qs
      split at e
      · injection e with e
        exact .inr ⟨e.symm, by simpa using qs, rfl, q⟩
      · cases e
      · cases e
theorem tunnel_comes {inner : Nat → Fate} {ih most : Nat} {t : TW} {l m : List Nat} : ∀ {r : List Nat}, tunnel inner ih most t l r = .comes m → m = l ∧ ∀ x ∈ r, ∃ k, inner x = .comes k ∧ k.length ≤ most
  | [], e => by
    unfold tunnel at e
    injection e with e
    exact ⟨e.symm, fun x hx => by cases hx⟩
  | x :: r, e => by
    unfold tunnel at e
    split at e
    · rename_i k hk
      split at e
      · cases e
      · rename_i hl
        obtain ⟨h1, h2⟩ := tunnel_comes e
        refine ⟨h1, fun y hy => ?_⟩
        rcases List.mem_cons.mp hy with z | z
        · exact ⟨k, z ▸ hk, by omega⟩
        · exact h2 y z
    · rename_i f hf
      cases hi : inner x with
      | comes k => exact absurd hi (hf k)
      | told s p =>
        rw [hi] at e
        simp only [turned] at e
        split at e <;> cases e
      | silent p =>
        rw [hi] at e
        cases e
theorem tunnel_pass {inner : Nat → Fate} {ih most : Nat} {t : TW} {l : List Nat} : ∀ {r : List Nat}, (∀ x ∈ r, ∃ k, inner x = .comes k ∧ k.length ≤ most) → tunnel inner ih most t l r = .comes l
  | [], _ => rfl
  | x :: r, h => by
    obtain ⟨k, e, hk⟩ := h x List.mem_cons_self
    unfold tunnel
    rw [e]
    show (if k.length > most then _ else _) = _
    rw [if_neg (by omega)]
    exact tunnel_pass fun y hy => h y (List.mem_cons_of_mem _ hy)
theorem rel_cut {b b' c : Nat} {l l' : List Nat} (hc : 0 < c) (hle : b ≤ b') (h : Rel b l l') (g : Good b' l') (g0 : Good b l) : Rel b (if b = 0 then l else cutAll c l) (cutAll c l') := by
  unfold Rel at h ⊢
  split
  · rename_i e
    rw [if_pos e] at h
    exact h
  · rename_i e
    rw [if_neg e] at h
    subst h
    exact cut_tr hc (g.pos (by omega)) (by rw [g.sum]; exact hle)
/-- one road, both letters -/
theorem road_mono {h size : Nat} {ts : Bool} {lw : LW} {sealed : Bool} {b b' : Nat} {l l' m' : List Nat} (hs : h < size) (hle : b ≤ b') (g : Good b l) (g' : Good b' l') (r : Rel b l l') (e : road h size ts lw sealed l' = .comes m') :
    ∃ m, road h size ts lw sealed l = .comes m ∧ Good b m ∧ Good b' m' ∧ Rel b m m' := by
  have hc : 0 < size - h := by omega
  rcases road_comes e with ⟨rfl, ha⟩ | ⟨rfl, rfl, rfl, hn⟩
  · have hl : ∀ x ∈ l, x ≤ size - h := fun x hx => by
      obtain ⟨y, hy, hxy⟩ := rel_mem r g' x hx
      exact Nat.le_trans hxy (ha y hy)
    exact ⟨l, by unfold road; rw [if_pos hl], g, g', r⟩
  · have hb' : 0 < b' := by
      rcases Nat.eq_zero_or_pos b' with z | z
      · rw [g'.zero z] at hn
        exact absurd (fun x hx => by have e : x = 0 := by simpa using hx
                                     omega) hn
      · exact z
    have gm' := good_cut hc hb' g'
    have rm := rel_cut hc hle r g' g
    by_cases hl : ∀ x ∈ l, x ≤ size - h
    · refine ⟨l, by unfold road; rw [if_pos hl], g, gm', ?_⟩
      by_cases hb : b = 0
      · rw [if_pos hb] at rm; exact rm
      · rw [if_neg hb, cut_same fun x hx => ⟨g.pos (by omega) x hx, hl x hx⟩] at rm
        exact rm
    · have hb : ¬ b = 0 := fun z => hl fun x hx => by
        rw [g.zero z] at hx
        have e : x = 0 := by simpa using hx
        omega
      rw [if_neg hb] at rm
      exact ⟨_, by unfold road; rw [if_neg hl, if_neg (by simp)], good_cut hc (by omega) g, gm', rm⟩
mutual
/-- a letter that comes does so for each lesser body -/
theorem Way.mono (sealed : Bool) : ∀ (w : Way), w.ok → ∀ (b b' : Nat) (m' : List Nat), b ≤ b' → w.walk sealed b' = .comes m' → ∃ m, w.walk sealed b = .comes m ∧ Good b m ∧ Good b' m' ∧ Rel b m m'
  | .mk h steps, hw, b, b', m', hle, e => Way.from_mono sealed h steps hw.1 hw.2 0 b b' [b] [b'] m' hle (good_one b) (good_one b') (rel_one hle) e
theorem Way.from_mono (sealed : Bool) (h : Nat) : ∀ (steps : List Step), 0 < h → Step.okAll h steps → ∀ (i b b' : Nat) (l l' m' : List Nat), b ≤ b' → Good b l → Good b' l' → Rel b l l' → Way.from sealed h steps i l' = .comes m' →
    ∃ m, Way.from sealed h steps i l = .comes m ∧ Good b m ∧ Good b' m' ∧ Rel b m m'
  | [], _, _, i, b, b', l, l', m', hle, g, g', r, e => by
    unfold Way.from at e
    injection e with e
    subst e
    exact ⟨l, by unfold Way.from; rfl, g, g', r⟩
  | s :: rest, h0, hok, i, b, b', l, l', m', hle, g, g', r, e => by
    unfold Way.from at e
    split at e
    · rename_i k' hk
      obtain ⟨k, e1, gk, gk', rk⟩ := Step.mono sealed h s h0 hok.1 b b' l l' k' hle g g' r hk
      obtain ⟨m, e2, q⟩ := Way.from_mono sealed h rest h0 hok.2 (i + 1) b b' k k' m' hle gk gk' rk e
      exact ⟨m, by unfold Way.from; rw [e1]; exact e2, q⟩
    · rename_i f hf
      cases hd : Step.does sealed h s l' with
      | comes k => exact absurd hd (hf k)
      | told a p => rw [hd] at e; cases e
      | silent p => rw [hd] at e; cases e
theorem Step.mono (sealed : Bool) (h : Nat) : ∀ (s : Step), 0 < h → Step.ok h s → ∀ (b b' : Nat) (l l' m' : List Nat), b ≤ b' → Good b l → Good b' l' → Rel b l l' → Step.does sealed h s l' = .comes m' →
    ∃ m, Step.does sealed h s l = .comes m ∧ Good b m ∧ Good b' m' ∧ Rel b m m'
  | .road size ts lw, _, hok, b, b', l, l', m', hle, g, g', r, e => by
    unfold Step.does at e ⊢
    exact road_mono hok hle g g' r e
  | .join most, _, hok, b, b', l, l', m', hle, g, g', r, e => by
    unfold Step.does join at e
    split at e
    · cases e
    · rename_i q
      injection e with e
      subst e
      refine ⟨[b], ?_, good_one b, by rw [g'.sum]; exact good_one b', by rw [g'.sum]; exact rel_one hle⟩
      unfold Step.does join
      rw [if_neg (by have := rel_len r g'; omega), g.sum]
  | .tunnel w most t, _, hok, b, b', l, l', m', hle, g, g', r, e => by
    unfold Step.does at e ⊢
    obtain ⟨rfl, ha⟩ := tunnel_comes e
    refine ⟨l, tunnel_pass fun x hx => ?_, g, g', r⟩
    obtain ⟨y, hy, hxy⟩ := rel_mem r g' x hx
    obtain ⟨k', hk', hl'⟩ := ha y hy
    obtain ⟨k, hk, gk, gk', rk⟩ := Way.mono sealed w hok.1 (h + x) (h + y) k' (by omega) hk'
    exact ⟨k, hk, by have := rel_len rk gk'; omega⟩
end
/-- a sealed letter is one piece -/
theorem Way.from_sealed (h : Nat) : ∀ (steps : List Step) (i b : Nat) (m : List Nat), Way.from true h steps i [b] = .comes m → m = [b]
  | [], i, b, m, e => by
    unfold Way.from at e
    injection e with e
    exact e.symm
  | s :: rest, i, b, m, e => by
    unfold Way.from at e
    split at e
    · rename_i k hk
      have hb : k = [b] := by
        cases s with
        | road size ts lw =>
          unfold Step.does at hk
          rcases road_comes hk with ⟨q, _⟩ | ⟨_, q, _⟩
          · exact q
          · cases q
        | join most =>
          unfold Step.does join at hk
          split at hk
          · cases hk
          · injection hk with hk
            simpa using hk.symm
        | tunnel w most t =>
          unfold Step.does at hk
          exact (tunnel_comes hk).1
      subst hb
      exact Way.from_sealed h rest (i + 1) b m e
    · rename_i f hf
      cases hd : Step.does true h s [b] with
      | comes k => exact absurd hd (hf k)
      | told a p => rw [hd] at e; cases e
      | silent p => rw [hd] at e; cases e
theorem Way.walk_sealed (w : Way) (b : Nat) (m : List Nat) (e : w.walk true b = .comes m) : m = [b] := by
  obtain ⟨h, steps⟩ := w
  exact Way.from_sealed h steps 0 b m e
theorem from_cons (sealed : Bool) (h : Nat) (x : Step) (s : List Step) (i : Nat) (l : List Nat) : Way.from sealed h (x :: s) i l = match Step.does sealed h x l with
    | .comes m => Way.from sealed h s (i + 1) m
    | f => seen i f := by
  conv => lhs; unfold Way.from
/-- one way behind another -/
theorem Way.from_append (sealed : Bool) (h : Nat) (r : List Step) : ∀ (s : List Step) (i : Nat) (l : List Nat), Way.from sealed h (s ++ r) i l = match Way.from sealed h s i l with
    | .comes m => Way.from sealed h r (i + s.length) m
    | f => f
  | [], i, l => by
    show Way.from sealed h r i l = _
    rw [show Way.from sealed h [] i l = .comes l by unfold Way.from; rfl]
    rfl
  | x :: s, i, l => by
    rw [List.cons_append, from_cons, from_cons]
    cases hd : Step.does sealed h x l with
    | comes k =>
      show Way.from sealed h (s ++ r) (i + 1) k = _
      rw [Way.from_append sealed h r s (i + 1) k]
      have e : i + 1 + s.length = i + (x :: s).length := by simp; omega
      rw [e]
    | told a p => rfl
    | silent p => rfl
/-- the places of the steps behind i: as if the way began there -/
def shift (i : Nat) : Fate → Fate
  | .told s (p :: q) => .told s ((p + i) :: q)
  | .silent (p :: q) => .silent ((p + i) :: q)
  | f => f
theorem shift_seen (i j : Nat) (f : Fate) : shift i (seen j f) = seen (j + i) f := by cases f <;> rfl
theorem Way.from_shift (sealed : Bool) (h i : Nat) : ∀ (s : List Step) (j : Nat) (l : List Nat), Way.from sealed h s (j + i) l = shift i (Way.from sealed h s j l)
  | [], j, l => by
    rw [show Way.from sealed h [] j l = .comes l by unfold Way.from; rfl, show Way.from sealed h [] (j + i) l = .comes l by unfold Way.from; rfl]
    rfl
  | x :: s, j, l => by
    rw [from_cons, from_cons]
    cases hd : Step.does sealed h x l with
    | comes k =>
      show Way.from sealed h s (j + i + 1) k = shift i (Way.from sealed h s (j + 1) k)
      rw [show j + i + 1 = j + 1 + i by omega]
      exact Way.from_shift sealed h i s (j + 1) k
    | told a p => exact (shift_seen i j _).symm
    | silent p => exact (shift_seen i j _).symm
end M

end
section
set_option Elab.async false
set_option linter.all false
set_option maxRecDepth 100000
set_option maxHeartbeats 4000000
/-! ## the program's ways: good ones -/
namespace WP
open PySem L2 G
def top (i : Nat) : Stmt := PySem.Challenge.pw_roadsizes_k08_whole_roads_part_as_chains.main.body.getD i (.Pass ⟨0, 0, 0, 0⟩)
abbrev sInteger : Stmt := top 2
abbrev sWithin : Stmt := top 3
abbrev sBody : Stmt := top 4
abbrev sMost : Stmt := top 49
abbrev sList : Stmt := top 47
abbrev sStep : Stmt := top 51
abbrev sRoad : Stmt := top 48
abbrev sTells : Stmt := top 50
abbrev sHead : Stmt := top 46
abbrev sInit : Stmt := inClass (top 45) 0
abbrev sLen : Stmt := inClass (top 45) 1
abbrev sAdd : Stmt := inClass (top 45) 5
structure Bn (mg : Str → Option Value) : Prop where
  isi : mg "isinstance" = none
  bool : mg "bool" = none
  int : mg "int" = none
  tuple : mg "tuple" = none
  list : mg "list" = none
  len : mg "len" = none
  enum : mg "enumerate" = none
  max : mg "max" = none
  sum : mg "sum" = none
section
variable {P : Program} {w : World} {K : PySem.W.Frag} {mg : Str → Option Value} {base : Heap}
def spInteger : Sp := fun vs H Q _ => ∃ v : Int, vs = [.int v] ∧ Q (.bl true) H
theorem scIn : FnScope ["value"] ["value"] (defScope sInteger) := ⟨rfl, rfl, rfl, by decide +kernel, rfl, by decide +kernel, by decide +kernel⟩
theorem ok_integer {f : Addr} {fd : FuncData} (F : Fun K "is_integer" "is_integer" sInteger f fd) (B : Bn mg) : FnOk P w K mg base CX0 1 f fd ["value"] spInteger := by
  refine F.ok scIn (fun vs H Q E h => ?_) (fun cdv A outer s H vs Q E hr h => ?_)
  · obtain ⟨v, rfl, _⟩ := h
    rfl
  · obtain ⟨v, rfl, k⟩ := h
    refine ⟨_, pss_one (ps_ret (pe_and (pe_callB call_isi (by rfl) B.isi (by decide +kernel) (pa_cons (pv 0) (pa_cons (pe_bltn (v := .ty "int") (by rfl) B.int (by decide +kernel) rfl) pa_nil)))
      (pe_one (pe_not (pe_callB call_isi (by rfl) B.isi (by decide +kernel) (pa_cons (pv 0) (pa_cons (pe_bltn (v := .ty "bool") (by rfl) B.bool (by decide +kernel) rfl) pa_nil))))))), ?_⟩
    exact ⟨_, rfl, _, _, _, _, _, rfl, .ty _, .base (.int _), kit_ty (r := true) (by decide +kernel), _, rfl, iteT ⟨_, rfl, _, _, _, _, _, rfl, .ty _, .base (.int _), kit_ty (r := false) (by decide +kernel), _, rfl, k⟩⟩
def spWithin : Sp := fun vs H Q _ => ∃ v a b : Int, vs = [.int v, .int a, .int b] ∧ Q (.bl (decide (a ≤ v ∧ v ≤ b))) H
theorem sc3 : FnScope ["value", "least", "greatest"] ["value", "least", "greatest"] (defScope sWithin) := ⟨rfl, rfl, rfl, by decide +kernel, rfl, by decide +kernel, by decide +kernel⟩
theorem ok_within {f fI : Addr} {fd fdI : FuncData} (F : Fun K "is_within" "is_within" sWithin f fd) (B : Bn mg) (FI : Fun K "is_integer" "is_integer" sInteger fI fdI) (gI : mg "is_integer" = some (.ref fI)) (bI : Binds K fdI ["value"] []) : FnOk P w K mg base CX0 2 f fd ["value", "least", "greatest"] spWithin := by
  have GI : FnOk P w K mg base CX0 1 fI fdI ["value"] spInteger := ok_integer FI B
  refine F.ok sc3 (fun vs H Q E h => ?_) (fun cdv A outer s H vs Q E hr h => ?_)
  · obtain ⟨v, a, b, rfl, _⟩ := h
    rfl
  · obtain ⟨v, a, b, rfl, k⟩ := h
    refine ⟨_, pss_one (ps_ret (pe_and (pe_call GI hr rfl gI FI.kp bI .nil pass0 (pa_cons (pv 0) pa_nil)) (pe_one (pe_chain op_le op_le (pv 1) (pv 0) (pv 2))))), ?_⟩
    refine ⟨_, rfl, v, rfl, _, rfl, iteT ?_⟩
    refine ⟨_, rfl, _, rfl, _, _, rfl, rfl, _, rfl, ?_⟩
    refine ite2 (fun h1 => ⟨_, rfl, _, _, rfl, rfl, ?_⟩) (fun h1 => ?_)
    · have e1 : a ≤ v := of_decide_eq_true h1
      have e : decide (a ≤ v ∧ v ≤ b) = decide (v ≤ b) := by
        by_cases z : v ≤ b
        · rw [decide_eq_true z, decide_eq_true ⟨e1, z⟩]
        · rw [decide_eq_false z, decide_eq_false fun q => z q.2]
      rw [e] at k
      exact k
    · have e : decide (a ≤ v ∧ v ≤ b) = false := decide_eq_false fun q => h1 (decide_eq_true q.1)
      rw [e] at k
      exact k
/-- is_body, _is_most of ints -/
def spIn1 (a b : Int) : Sp := fun vs H Q _ => ∃ v : Int, vs = [.int v] ∧ Q (.bl (decide (a ≤ v ∧ v ≤ b))) H
structure Wi (P : Program) (w : World) (K : PySem.W.Frag) (mg : Str → Option Value) (base : Heap) (f : Addr) (fd : FuncData) : Prop where
  ok : FnOk P w K mg base CX0 2 f fd ["value", "least", "greatest"] spWithin
  g : mg "is_within" = some (.ref f)
  k : PySem.W.keepIn K (.ref f) = true
  b : Binds K fd ["value", "least", "greatest"] []
theorem scB : FnScope ["value"] ["value"] (defScope sBody) := ⟨rfl, rfl, rfl, by decide +kernel, rfl, by decide +kernel, by decide +kernel⟩
theorem scM : FnScope ["value"] ["value"] (defScope sMost) := ⟨rfl, rfl, rfl, by decide +kernel, rfl, by decide +kernel, by decide +kernel⟩
theorem ok_body {f fW : Addr} {fd fdW : FuncData} {t : Tok} (F : Fun K "is_body" "is_body" sBody f fd) (W : Wi P w K mg base fW fdW) (g : mg "GREATEST_BODY" = some (.int 1000000000000000000 t)) : FnOk P w K mg base CX0 3 f fd ["value"] (spIn1 0 1000000000000000000) := by
  refine F.ok scB (fun vs H Q E h => ?_) (fun cdv A outer s H vs Q E hr h => ?_)
  · obtain ⟨v, rfl, _⟩ := h
    rfl
  · obtain ⟨v, rfl, k⟩ := h
    exact ⟨_, pss_one (ps_ret (pe_call W.ok hr rfl W.g W.k W.b .nil pass0 (pa_cons (pv 0) (pa_cons pe_int (pa_cons (pe_glob (v := .int 1000000000000000000) rfl g ⟨_, rfl⟩) pa_nil))))), _, rfl, v, 0, 1000000000000000000, rfl, k⟩
theorem ok_most {f fW : Addr} {fd fdW : FuncData} {t : Tok} (F : Fun K "is_most" "is_most" sMost f fd) (W : Wi P w K mg base fW fdW) (g : mg "GREATEST_MOST" = some (.int 1000000000000 t)) : FnOk P w K mg base CX0 3 f fd ["value"] (spIn1 1 1000000000000) := by
  refine F.ok scM (fun vs H Q E h => ?_) (fun cdv A outer s H vs Q E hr h => ?_)
  · obtain ⟨v, rfl, _⟩ := h
    rfl
  · obtain ⟨v, rfl, k⟩ := h
    exact ⟨_, pss_one (ps_ret (pe_call W.ok hr rfl W.g W.k W.b .nil pass0 (pa_cons (pv 0) (pa_cons pe_int (pa_cons (pe_glob (v := .int 1000000000000) rfl g ⟨_, rfl⟩) pa_nil))))), _, rfl, v, 1, 1000000000000, rfl, k⟩
theorem scHd : FnScope ["value"] ["value"] (defScope sHead) := ⟨rfl, rfl, rfl, by decide +kernel, rfl, by decide +kernel, by decide +kernel⟩
theorem ok_head {f fW : Addr} {fd fdW : FuncData} {t : Tok} (F : Fun K "is_head" "is_head" sHead f fd) (W : Wi P w K mg base fW fdW) (g : mg "GREATEST_HEAD" = some (.int 40 t)) : FnOk P w K mg base CX0 3 f fd ["value"] (spIn1 1 40) := by
  refine F.ok scHd (fun vs H Q E h => ?_) (fun cdv A outer s H vs Q E hr h => ?_)
  · obtain ⟨v, rfl, _⟩ := h
    rfl
  · obtain ⟨v, rfl, k⟩ := h
    exact ⟨_, pss_one (ps_ret (pe_call W.ok hr rfl W.g W.k W.b .nil pass0 (pa_cons (pv 0) (pa_cons pe_int (pa_cons (pe_glob (v := .int 40) rfl g ⟨_, rfl⟩) pa_nil))))), _, rfl, v, 1, 40, rfl, k⟩
end
end WP

end
section
set_option Elab.async false
set_option linter.all false
set_option maxRecDepth 100000
set_option maxHeartbeats 4000000
/-! ## ways on the heap -/
namespace M
mutual
def Way.depth : Way → Nat
  | .mk _ s => 1 + Step.deepest s
def Step.deepest : List Step → Nat
  | [] => 0
  | .tunnel w _ _ :: r => max w.depth (Step.deepest r)
  | .road _ _ _ :: r => Step.deepest r
  | .join _ :: r => Step.deepest r
end
mutual
def Way.size : Way → Nat
  | .mk _ s => s.length + Step.inner s
def Step.inner : List Step → Nat
  | [] => 0
  | .tunnel w _ _ :: r => w.size + Step.inner r
  | .road _ _ _ :: r => Step.inner r
  | .join _ :: r => Step.inner r
end
mutual
/-- a way that the program takes -/
def Way.fine : Way → Prop
  | .mk h s => (1 ≤ h ∧ h ≤ 40) ∧ (1 ≤ s.length ∧ s.length ≤ 12) ∧ Step.fineAll h s ∧ 1 + Step.deepest s ≤ 3 ∧ s.length + Step.inner s ≤ 40
def Step.fineAll (h : Nat) : List Step → Prop
  | [] => True
  | s :: r => Step.fine h s ∧ Step.fineAll h r
def Step.fine (h : Nat) : Step → Prop
  | .road size _ _ => h < size ∧ size ≤ 1000
  | .join most => 1 ≤ most ∧ most ≤ 1000000000000
  | .tunnel w most _ => Way.fine w ∧ 1 ≤ most ∧ most ≤ 1000000000000
end
end M
namespace WP
open PySem L2 G
def sdS (b : Bool) : Str := if b then "tell" else "drop"
def lwS : M.LW → Str
  | .cut => "cut"
  | .tell => "tell"
  | .drop => "drop"
def twS : M.TW → Str
  | .turn => "turn"
  | .keep => "keep"
  | .lose => "lose"
def flds (h : Int) (t : Addr) (D Z : Int) : List (Str × V) := putF "size" (.int Z) (putF "depth" (.int D) (putF "steps" (.ref t) (putF "head" (.int h) [])))
theorem nk : ¬ (("head" : Str) = "steps") ∧ ¬ (("head" : Str) = "depth") ∧ ¬ (("head" : Str) = "size") ∧ ¬ (("steps" : Str) = "depth") ∧ ¬ (("steps" : Str) = "size") ∧ ¬ (("depth" : Str) = "size") := by decide +kernel
theorem flds_head (h : Int) (t : Addr) (D Z : Int) : (flds h t D Z).lookup ("head" : Str) = some (.int h) := by
  unfold flds
  rw [lookup_putF, if_neg nk.2.2.1, lookup_putF, if_neg nk.2.1, lookup_putF, if_neg nk.1, lookup_putF, if_pos rfl]
theorem flds_steps (h : Int) (t : Addr) (D Z : Int) : (flds h t D Z).lookup ("steps" : Str) = some (.ref t) := by
  unfold flds
  rw [lookup_putF, if_neg nk.2.2.2.2.1, lookup_putF, if_neg nk.2.2.2.1, lookup_putF, if_pos rfl]
theorem flds_depth (h : Int) (t : Addr) (D Z : Int) : (flds h t D Z).lookup ("depth" : Str) = some (.int D) := by
  unfold flds
  rw [lookup_putF, if_neg nk.2.2.2.2.2, lookup_putF, if_pos rfl]
theorem flds_size (h : Int) (t : Addr) (D Z : Int) : (flds h t D Z).lookup ("size" : Str) = some (.int Z) := by
  unfold flds
  rw [lookup_putF, if_pos rfl]
mutual
/-- a way stands at a -/
def WayAt (C : Addr) (H : Hp) : M.Way → Addr → Prop
  | .mk h s, a => ∃ dx t xs, H a = some (.ins C dx (flds h t ((1 + M.Step.deepest s : Nat) : Int) ((s.length + M.Step.inner s : Nat) : Int))) ∧ H t = some (.tup xs) ∧ StepsAt C H s xs
def StepsAt (C : Addr) (H : Hp) : List M.Step → List V → Prop
  | [], xs => xs = []
  | s :: r, xs => ∃ x ys, xs = x :: ys ∧ StepAt C H s x ∧ StepsAt C H r ys
def StepAt (C : Addr) (H : Hp) : M.Step → V → Prop
  | .road size ts lw, x => ∃ t, x = .ref t ∧ H t = some (.tup [.str "road", .int (size : Int), .str (sdS ts), .str (lwS lw)])
  | .join most, x => ∃ t, x = .ref t ∧ H t = some (.tup [.str "join", .int (most : Int)])
  | .tunnel w most tw, x => ∃ t a, x = .ref t ∧ H t = some (.tup [.str "tunnel", .ref a, .int (most : Int), .str (twS tw)]) ∧ WayAt C H w a
end
mutual
theorem WayAt.mono {C : Addr} {H H' : Hp} (s : Same H H') : ∀ {w : M.Way} {a : Addr}, WayAt C H w a → WayAt C H' w a
  | .mk h st, a, x => by
    unfold WayAt at x ⊢
    obtain ⟨dx, t, xs, h1, h2, h3⟩ := x
    exact ⟨dx, t, xs, s _ _ h1, s _ _ h2, StepsAt.mono s h3⟩
theorem StepsAt.mono {C : Addr} {H H' : Hp} (s : Same H H') : ∀ {st : List M.Step} {xs : List V}, StepsAt C H st xs → StepsAt C H' st xs
  | [], xs, x => by
    unfold StepsAt at x ⊢
    exact x
  | y :: r, xs, x => by
    unfold StepsAt at x ⊢
    obtain ⟨u, ys, e, h1, h2⟩ := x
    exact ⟨u, ys, e, StepAt.mono s h1, StepsAt.mono s h2⟩
theorem StepAt.mono {C : Addr} {H H' : Hp} (s : Same H H') : ∀ {st : M.Step} {x : V}, StepAt C H st x → StepAt C H' st x
  | .road size ts lw, v, x => by
    unfold StepAt at x ⊢
    obtain ⟨t, e, h⟩ := x
    exact ⟨t, e, s _ _ h⟩
  | .join most, v, x => by
    unfold StepAt at x ⊢
    obtain ⟨t, e, h⟩ := x
    exact ⟨t, e, s _ _ h⟩
  | .tunnel w most tw, v, x => by
    unfold StepAt at x ⊢
    obtain ⟨t, a, e, h, h2⟩ := x
    exact ⟨t, a, e, s _ _ h, WayAt.mono s h2⟩
end
theorem StepsAt.get {C : Addr} {H : Hp} : ∀ {st : List M.Step} {xs : List V} {i : Nat} {x : V}, StepsAt C H st xs → xs[i]? = some x → ∃ s, st[i]? = some s ∧ StepAt C H s x
  | [], xs, i, x, h, e => by
    unfold StepsAt at h
    subst h
    cases e
  | y :: r, xs, 0, x, h, e => by
    unfold StepsAt at h
    obtain ⟨u, ys, rfl, h1, _⟩ := h
    cases e
    exact ⟨y, rfl, h1⟩
  | y :: r, xs, i + 1, x, h, e => by
    unfold StepsAt at h
    obtain ⟨u, ys, rfl, _, h2⟩ := h
    obtain ⟨s, a, b⟩ := StepsAt.get (i := i) h2 e
    exact ⟨s, a, b⟩
theorem StepsAt.len {C : Addr} {H : Hp} : ∀ {st : List M.Step} {xs : List V}, StepsAt C H st xs → xs.length = st.length
  | [], xs, h => by
    unfold StepsAt at h
    subst h
    rfl
  | y :: r, xs, h => by
    unfold StepsAt at h
    obtain ⟨u, ys, rfl, _, h2⟩ := h
    exact congrArg Nat.succ h2.len
theorem fine_get {h : Nat} : ∀ {st : List M.Step} {i : Nat} {s : M.Step}, M.Step.fineAll h st → st[i]? = some s → M.Step.fine h s
  | [], i, s, _, e => by cases e
  | y :: r, 0, s, f, e => by
    unfold M.Step.fineAll at f
    cases e
    exact f.1
  | y :: r, i + 1, s, f, e => by
    unfold M.Step.fineAll at f
    exact fine_get (i := i) f.2 e
end WP

end
section
set_option Elab.async false
set_option linter.all false
set_option maxRecDepth 100000
set_option maxHeartbeats 4000000
namespace WP
open PySem L2 G
theorem Same.of_upd {H : Hp} {p : Addr} {o : HO} (h : H p = none) : Same H (upd H p o) := fun a u e => by
  rw [upd_ne (ne_of_none e h)]
  exact e
/-- the class Way, the module's constants -/
structure Wt (K : PySem.W.Frag) (mg : Str → Option Value) (C : Addr) : Prop where
  g : mg "Way" = some (.ref C)
  cl : Cls K C
  nH : NoAttr K C "head"
  nS : NoAttr K C "steps"
  nD : NoAttr K C "depth"
  nZ : NoAttr K C "size"
  iA : PySem.W.findIn K (.ref C) "__class__" = some (some (.builtin "object.__class__"))
  iN : PySem.W.specialIn K (.builtin "object.__class__") "__get__" = some (some (.builtin "getset_descriptor.__get__"))
  iT : PySem.W.takesIn K (.builtin "object.__class__") = some true
  iM : PySem.W.mroIn K C (.type "object") = some true
  gHead : ∃ t, mg "GREATEST_HEAD" = some (.int 40 t)
  gRoad : ∃ t, mg "GREATEST_ROAD" = some (.int 1000 t)
  gMost : ∃ t, mg "GREATEST_MOST" = some (.int 1000000000000 t)
  gSteps : ∃ t, mg "MOST_STEPS" = some (.int 12 t)
  gDepth : ∃ t, mg "GREATEST_DEPTH" = some (.int 3 t)
  gSize : ∃ t, mg "GREATEST_SIZE" = some (.int 40 t)
  wS : ∃ a, mg "SEALED_WORDS" = some (.ref a) ∧ ∀ H, SqT K H a [.str "tell", .str "drop"]
  wL : ∃ a, mg "LOOSE_WORDS" = some (.ref a) ∧ ∀ H, SqT K H a [.str "cut", .str "tell", .str "drop"]
  wT : ∃ a, mg "TELLS_WORDS" = some (.ref a) ∧ ∀ H, SqT K H a [.str "turn", .str "keep", .str "lose"]
/-- a def of the text that is called by its name -/
structure Df (P : Program) (w : World) (K : PySem.W.Frag) (mg : Str → Option Value) (base : Heap) (k : Nat) (x : Str) (ps : List Str) (sp : Sp) : Prop where
  ex : ∃ (f : Addr) (fd : FuncData), FnOk P w K mg base CX0 k f fd ps sp ∧ mg x = some (.ref f) ∧ PySem.W.keepIn K (.ref f) = true ∧ Binds K fd ps []
section
variable {P : Program} {w : World} {K : PySem.W.Frag} {mg : Str → Option Value} {base : Heap} {C : Addr}
def spRoad : Sp := fun vs H Q _ => ∃ (size : Nat) (least : Int) (ts : Bool) (lw : M.LW), vs = [.int (size : Int), .str (sdS ts), .str (lwS lw), .int least] ∧ least ≤ (size : Int) ∧ size ≤ 1000 ∧ Q (.bl true) H
theorem in_sd (b : Bool) : inV (.str (sdS b)) [.str "tell", .str "drop"] = true := by cases b <;> decide +kernel
theorem in_lw (l : M.LW) : inV (.str (lwS l)) [.str "cut", .str "tell", .str "drop"] = true := by cases l <;> decide +kernel
theorem in_tw (l : M.TW) : inV (.str (twS l)) [.str "turn", .str "keep", .str "lose"] = true := by cases l <;> decide +kernel
theorem scR : FnScope ["size", "sealed", "loose", "least"] ["size", "sealed", "loose", "least"] (defScope sRoad) := ⟨rfl, rfl, rfl, by decide +kernel, rfl, by decide +kernel, by decide +kernel⟩
theorem ok_road {f : Addr} {fd : FuncData} (F : Fun K "is_road" "is_road" sRoad f fd) (T : Wt K mg C) (W : Df P w K mg base 2 "is_within" ["value", "least", "greatest"] spWithin) : FnOk P w K mg base CX0 3 f fd ["size", "sealed", "loose", "least"] spRoad := by
  obtain ⟨fW, fdW, GW, gW, kW, bW⟩ := W.ex
  obtain ⟨t1, g1⟩ := T.gRoad
  obtain ⟨aS, g2, q2⟩ := T.wS
  obtain ⟨aL, g3, q3⟩ := T.wL
  refine F.ok scR (fun vs H Q E h => ?_) (fun cdv A outer s H vs Q E hr h => ?_)
  · obtain ⟨size, least, ts, lw, rfl, _⟩ := h
    rfl
  · obtain ⟨size, least, ts, lw, rfl, hs, hs2, k⟩ := h
    refine ⟨_, pss_one (ps_ret (pe_and (pe_call GW hr rfl gW kW bW .nil pass0 (pa_cons (pv 0) (pa_cons (pv 3) (pa_cons (pe_glob (v := .int 1000) rfl g1 ⟨_, rfl⟩) pa_nil)))) (pe_and (pe_cmpR op_in_seq (pv 1) (pe_glob (v := .ref aS) rfl g2 rfl) (by rfl)) (pe_one (pe_cmpR op_in_seq (pv 2) (pe_glob (v := .ref aL) rfl g3 rfl) (by rfl)))))), ?_⟩
    have e : decide (least ≤ (size : Int) ∧ (size : Int) ≤ 1000) = true := decide_eq_true (by omega)
    refine ⟨_, rfl, _, rfl, (size : Int), least, 1000, rfl, ?_⟩
    rw [e]
    refine ⟨_, rfl, ?_⟩
    refine iteT ⟨_, rfl, aS, _, rfl, .inr (q2 _), rfl, rfl, ?_⟩
    rw [in_sd]
    refine ⟨_, rfl, iteT ⟨_, rfl, aL, _, rfl, .inr (q3 _), rfl, rfl, ?_⟩⟩
    rw [in_lw]
    exact k
def spTells : Sp := fun vs H Q _ => ∃ tw : M.TW, vs = [.str (twS tw)] ∧ Q (.bl true) H
theorem scT : FnScope ["value"] ["value"] (defScope sTells) := ⟨rfl, rfl, rfl, by decide +kernel, rfl, by decide +kernel, by decide +kernel⟩
theorem ok_tells {f : Addr} {fd : FuncData} (F : Fun K "is_tells" "is_tells" sTells f fd) (T : Wt K mg C) : FnOk P w K mg base CX0 1 f fd ["value"] spTells := by
  obtain ⟨aT, g2, q2⟩ := T.wT
  refine F.ok scT (fun vs H Q E h => ?_) (fun cdv A outer s H vs Q E hr h => ?_)
  · obtain ⟨tw, rfl, _⟩ := h
    rfl
  · obtain ⟨tw, rfl, k⟩ := h
    refine ⟨_, pss_one (ps_ret (pe_cmpR op_in_seq (pv 0) (pe_glob (v := .ref aT) rfl g2 rfl) (by rfl))), ?_⟩
    refine ⟨_, rfl, aT, _, rfl, .inr (q2 _), rfl, rfl, ?_⟩
    rw [in_tw]
    exact k
/-- is_step_list, of a list or a tuple -/
def spList (K : PySem.W.Frag) : Sp := fun vs H Q _ => ∃ (l : Addr) (xs : List V), vs = [.ref l] ∧ (H l = some (.lst xs) ∨ H l = some (.tup xs)) ∧ 1 ≤ xs.length ∧ xs.length ≤ 12 ∧ ∀ H', Same H H' → Q (.bl true) H'
theorem scLi : FnScope ["value"] ["value"] (defScope sList) := ⟨rfl, rfl, rfl, by decide +kernel, rfl, by decide +kernel, by decide +kernel⟩
theorem ok_list {f : Addr} {fd : FuncData} (F : Fun K "is_step_list" "is_step_list" sList f fd) (B : Bn mg) (T : Wt K mg C) : FnOk P w K mg base CX0 1 f fd ["value"] (spList K) := by
  obtain ⟨t1, g1⟩ := T.gSteps
  refine F.ok scLi (fun vs H Q E h => ?_) (fun cdv A outer s H vs Q E hr h => ?_)
  · obtain ⟨l, xs, rfl, _⟩ := h
    rfl
  · obtain ⟨l, xs, rfl, hl, l1, l2, k⟩ := h
    refine ⟨_, pss_one (ps_ret (pe_and (pe_callB call_isiT (by rfl) B.isi (by decide +kernel) (pa_cons (pv 0) (pa_cons (pe_tup (pa_cons (pe_bltn (v := .ty "list") (by rfl) B.list (by decide +kernel) rfl) (pa_cons (pe_bltn (v := .ty "tuple") (by rfl) B.tuple (by decide +kernel) rfl) pa_nil))) pa_nil)))
      (pe_one (pe_chain op_le op_le pe_int (pe_callB call_len_seq (by rfl) B.len PySem.boot_len (pa_cons (pv 0) pa_nil)) (pe_glob (v := .int 12) rfl g1 ⟨_, rfl⟩))))), ?_⟩
    refine ⟨_, rfl, by show 2 ≤ sizeLine; decide, fun p np => ?_⟩
    have sp : Same H (upd H p (.tup [.ty "list", .ty "tuple"])) := Same.of_upd np
    have fin : ∀ (n : Int), n = (xs.length : Int) → ∀ Q' : VK, (∀ H', Same H H' → Q' (.bl true) H') → (∃ i j, V.int 1 = .int i ∧ V.int n = .int j ∧ ∃ k, V.bl (decide (i ≤ j)) = .bl k ∧ if k = true then ∃ i2 j2, V.int n = .int i2 ∧ V.int 12 = .int j2 ∧ Q' (.bl (decide (i2 ≤ j2))) (upd H p (.tup [.ty "list", .ty "tuple"])) else Q' (.bl false) (upd H p (.tup [.ty "list", .ty "tuple"]))) := by
      intro n hn Q' k'
      refine ⟨_, _, rfl, rfl, _, rfl, ?_⟩
      rw [decide_eq_true (by omega)]
      refine iteT ⟨_, _, rfl, rfl, ?_⟩
      rw [decide_eq_true (by omega)]
      exact k' _ sp
    have kl : PySem.W.kitAny K (.type "list") [.type "list", .type "tuple"] = some true := by
      unfold PySem.W.kitAny
      rw [kit_ty (r := true) (by decide +kernel)]
    have kt : PySem.W.kitAny K (.type "tuple") [.type "list", .type "tuple"] = some true := by
      unfold PySem.W.kitAny
      rw [kit_ty (r := false) (by decide +kernel)]
      unfold PySem.W.kitAny
      rw [kit_ty (r := true) (by decide +kernel)]
    rcases hl with hl | hl
    · exact ⟨_, p, _, _, _, _, rfl, upd_same, .cons (.ty _) (.cons (.ty _) .nil), .base (.lst (sp _ _ hl)), kl, _, rfl, iteT ⟨_, rfl, l, xs, rfl, .inl (SqL.of (sp _ _ hl)), fin _ rfl _ k⟩⟩
    · exact ⟨_, p, _, _, _, _, rfl, upd_same, .cons (.ty _) (.cons (.ty _) .nil), .base (.tup (sp _ _ hl)), kt, _, rfl, iteT ⟨_, rfl, l, xs, rfl, .inr (SqT.of (sp _ _ hl)), fin _ rfl _ k⟩⟩
/-- _is_step of a good step -/
def spStep (C : Addr) : Sp := fun vs H Q _ => ∃ (x : V) (h : Nat) (st : M.Step), vs = [x, .int (h : Int)] ∧ StepAt C H st x ∧ M.Step.fine h st ∧ Q (.bl true) H
theorem scSt : FnScope ["value", "head", "kind"] ["value", "head"] (defScope sStep) := ⟨rfl, rfl, rfl, by decide +kernel, rfl, by decide +kernel, by decide +kernel⟩
theorem kinds : ("road" : Str) ≠ "join" ∧ ("road" : Str) ≠ "tunnel" ∧ ("join" : Str) ≠ "tunnel" ∧ ("join" : Str) ≠ "road" ∧ ("tunnel" : Str) ≠ "road" ∧ ("tunnel" : Str) ≠ "join" := by decide +kernel
theorem ok_step {f : Addr} {fd : FuncData} (F : Fun K "_is_step" "_is_step" sStep f fd) (B : Bn mg) (T : Wt K mg C) (WR : Df P w K mg base 3 "is_road" ["size", "sealed", "loose", "least"] spRoad) (WM : Df P w K mg base 3 "is_most" ["value"] (spIn1 1 1000000000000)) (WT : Df P w K mg base 1 "is_tells" ["value"] spTells) :
    FnOk P w K mg base CX0 5 f fd ["value", "head"] (spStep C) := by
  obtain ⟨fR, fdR, GR, gR, kR, bR⟩ := WR.ex
  obtain ⟨fM, fdM, GM, gM, kM, bM⟩ := WM.ex
  obtain ⟨fT, fdT, GT, gT, kT, bT⟩ := WT.ex
  refine F.ok scSt (fun vs H Q E h => ?_) (fun cdv A outer s H vs Q E hr h => ?_)
  · obtain ⟨x, h, st, rfl, _⟩ := h
    rfl
  · obtain ⟨x, h, st, rfl, hx, hf, k⟩ := h
    refine ⟨_, pss_cons (ps_if (PW.pt (pw_or (pt_not (pt_val (pe_callB call_isi (by rfl) B.isi (by decide +kernel) (pa_cons (pv 0) (pa_cons (pe_bltn (v := .ty "tuple") (by rfl) B.tuple (by decide +kernel) rfl) pa_nil))))) (pw_or1 (pt_cmpR (op_eq) (pe_callB call_len_seq (by rfl) B.len PySem.boot_len (pa_cons (pv 0) pa_nil)) (pe_int) (nomark _))))) (pss_one (ps_ret pe_bl)) (pss_nil))
      (pss_cons (ps_set (i := 2) scSt.nd rfl (Or.inl rfl) (pe_ix ix_tup (pv 0) pe_int (fun _ _ => rfl)))
      (pss_cons (ps_if (pt_cmpR (op_eq) (pv 2) (pe_str) (nomark _)) (pss_one (ps_ret (pe_and (pe_cmpR (op_eq) (pe_callB call_len_seq (by rfl) B.len PySem.boot_len (pa_cons (pv 0) pa_nil)) (pe_int) (nomark _)) (pe_one (pe_call GR (hr.mono (by decide)) rfl gR kR bR .nil pass0 (pa_cons (pe_ix ix_tup (pv 0) pe_int (fun _ _ => rfl)) (pa_cons (pe_ix ix_tup (pv 0) pe_int (fun _ _ => rfl)) (pa_cons (pe_ix ix_tup (pv 0) pe_int (fun _ _ => rfl)) (pa_cons (pe_op op_add (pv 1) (pe_int)) pa_nil))))))))) (pss_nil))
      (pss_cons (ps_if (pt_cmpR (op_eq) (pv 2) (pe_str) (nomark _)) (pss_one (ps_ret (pe_and (pe_cmpR (op_eq) (pe_callB call_len_seq (by rfl) B.len PySem.boot_len (pa_cons (pv 0) pa_nil)) (pe_int) (nomark _)) (pe_one (pe_call GM (hr.mono (by decide)) rfl gM kM bM .nil pass0 (pa_cons (pe_ix ix_tup (pv 0) pe_int (fun _ _ => rfl)) pa_nil)))))) (pss_nil))
      (pss_cons (ps_if (pt_cmpR (op_eq) (pv 2) (pe_str) (nomark _)) (pss_one (ps_ret (pe_and (pe_cmpR (op_eq) (pe_callB call_len_seq (by rfl) B.len PySem.boot_len (pa_cons (pv 0) pa_nil)) (pe_int) (nomark _)) (pe_and (pe_callB call_isi (by rfl) B.isi (by decide +kernel) (pa_cons (pe_ix ix_tup (pv 0) pe_int (fun _ _ => rfl)) (pa_cons (pe_glob (v := .ref C) rfl T.g rfl) pa_nil))) (pe_and (pe_call GM (hr.mono (by decide)) rfl gM kM bM .nil pass0 (pa_cons (pe_ix ix_tup (pv 0) pe_int (fun _ _ => rfl)) pa_nil)) (pe_one (pe_call GT (hr.mono (by decide)) rfl gT kT bT .nil pass0 (pa_cons (pe_ix ix_tup (pv 0) pe_int (fun _ _ => rfl)) pa_nil)))))))) (pss_nil))
      (pss_one (ps_ret pe_bl)))))), ?_⟩
    have pre : ∀ (t : Addr) (y : V) (ys : List V), x = .ref t → H t = some (.tup (y :: ys)) → ∀ (D : Ends) (rest : TS), rest D [some x, some (.int (h : Int)), some y] H →
        tSeq (tIfS (tOr (tNot (tB (tCB (rIsi K) (tCons (tVar 0) (tCons (tC (.ty "tuple")) tNil))))) (tTest (tOp rEq (tCB (fun xs H Q => ∃ p ys, xs = [.ref p] ∧ (SqL K H p ys ∨ SqT K H p ys) ∧ Q (.int ys.length) H) (tCons (tVar 0) tNil)) (tC (.int 0))))) (tRet (tC (.bl false))) tNext)
          (tSeq (tAsg (tOp (rIxT K) (tVar 0) (tC (.int 0))) (gName 2)) rest) D [some x, some (.int (h : Int)), none] H := by
      intro t y ys ex ht D rest q
      subst ex
      refine ⟨_, rfl, _, _, _, _, _, rfl, .ty _, .base (.tup ht), kit_ty (r := true) (by decide +kernel), _, rfl, iteF ⟨_, rfl, t, _, rfl, .inr (SqT.of ht), rfl, _, rfl, ?_⟩⟩
      have e : decide (V.int ((y :: ys).length : Int) = V.int 0) = false := decide_eq_false (by
        intro z
        injection z with z
        simp at z
        omega)
      rw [e]
      exact iteF ⟨_, rfl, t, _, _, y, rfl, rfl, SqT.of ht, (by exact atI_nat (xs := y :: ys) (j := 0) rfl), q⟩
    have yes : ∀ {a : Str}, decide (V.str a = V.str a) = true := decide_eq_true rfl
    have no : ∀ {a b : Str}, a ≠ b → decide (V.str a = V.str b) = false := fun h => decide_eq_false fun z => h (V.str.inj z)
    cases st with
    | road size ts lw =>
      unfold StepAt at hx
      unfold M.Step.fine at hf
      obtain ⟨t, rfl, ht⟩ := hx
      refine pre t _ _ rfl ht _ _ ⟨_, rfl, rfl, _, rfl, ?_⟩
      rw [yes]
      exact iteT ⟨_, rfl, t, _, rfl, .inr (SqT.of ht), rfl, _, rfl, iteT ⟨_, rfl, t, _, _, _, rfl, rfl, SqT.of ht, (by exact atI_nat (xs := [V.str "road", .int (size : Int), .str (sdS ts), .str (lwS lw)]) (j := 1) rfl), _, rfl, t, _, _, _, rfl, rfl, SqT.of ht, (by exact atI_nat (xs := [V.str "road", .int (size : Int), .str (sdS ts), .str (lwS lw)]) (j := 2) rfl), _, rfl, t, _, _, _, rfl, rfl, SqT.of ht, (by exact atI_nat (xs := [V.str "road", .int (size : Int), .str (sdS ts), .str (lwS lw)]) (j := 3) rfl), _, rfl, _, _, rfl, rfl, size, (h : Int) + 1, ts, lw, rfl, by omega, hf.2, k⟩⟩
    | join most =>
      unfold StepAt at hx
      unfold M.Step.fine at hf
      obtain ⟨t, rfl, ht⟩ := hx
      refine pre t _ _ rfl ht _ _ ⟨_, rfl, rfl, _, rfl, ?_⟩
      rw [no kinds.2.2.2.1]
      refine iteF ⟨_, rfl, rfl, _, rfl, ?_⟩
      rw [yes]
      refine iteT ⟨_, rfl, t, _, rfl, .inr (SqT.of ht), rfl, _, rfl, iteT ⟨_, rfl, t, _, _, _, rfl, rfl, SqT.of ht, (by exact atI_nat (xs := [V.str "join", V.int (most : Int)]) (j := 1) rfl), most, rfl, ?_⟩⟩
      rw [decide_eq_true (by omega)]
      exact k
    | tunnel w most tw =>
      unfold StepAt at hx
      unfold M.Step.fine at hf
      obtain ⟨t, a, rfl, ht, hw⟩ := hx
      refine pre t _ _ rfl ht _ _ ⟨_, rfl, rfl, _, rfl, ?_⟩
      rw [no kinds.2.2.2.2.1]
      refine iteF ⟨_, rfl, rfl, _, rfl, ?_⟩
      rw [no kinds.2.2.2.2.2]
      refine iteF ⟨_, rfl, rfl, _, rfl, ?_⟩
      rw [yes]
      obtain ⟨wh, ws⟩ := w
      unfold WayAt at hw
      obtain ⟨dx, u, xs, h1, _, _⟩ := hw
      have kit : PySem.W.kitOne K (.ref C) (.ref C) = some true := by
        unfold PySem.W.kitOne
        rw [if_pos (by simp)]
      refine iteT ⟨_, rfl, t, _, rfl, .inr (SqT.of ht), rfl, _, rfl, iteT ⟨_, rfl, t, _, _, _, rfl, rfl, SqT.of ht, (by exact atI_nat (xs := [V.str "tunnel", .ref a, .int (most : Int), .str (twS tw)]) (j := 1) rfl), _, _, _, _, true, rfl, .own C, .base (.ins h1 T.cl T.iA T.iN T.iT T.iM), kit, _, rfl, iteT ⟨_, rfl, t, _, _, _, rfl, rfl, SqT.of ht, (by exact atI_nat (xs := [V.str "tunnel", .ref a, .int (most : Int), .str (twS tw)]) (j := 2) rfl), most, rfl, ?_⟩⟩⟩
      rw [decide_eq_true (by omega)]
      exact ⟨_, rfl, iteT ⟨_, rfl, t, _, _, _, rfl, rfl, SqT.of ht, (by exact atI_nat (xs := [V.str "tunnel", .ref a, .int (most : Int), .str (twS tw)]) (j := 3) rfl), tw, rfl, k⟩⟩
end
end WP

end
section
set_option autoImplicit false
set_option Elab.async false
set_option linter.all false
set_option maxRecDepth 100000
set_option maxHeartbeats 4000000
namespace WP
open PySem L2 G PyProof.Rows
/-! ### a tuple that is counted through -/
theorem en_new {v : Value} {o : Obj} {Hd : Heap → Prop} (B : Begins v o Hd) : Meets (Builtin.«enumerate.__new__» ⟨[.type "enumerate", v], []⟩) (fun _ R u => Hd u.heap ∧ R (.ok (.ret (.ref (u.heap.push o).objs.size))) { u with heap := (u.heap.push o).push { cls := .type "enumerate", data := .fields #[.none, .bool false, .ref u.heap.objs.size, rawInt 0, .none, .none] } }) :=
  .of_wp fun prog w A R u h => by
    obtain ⟨x, g, d, k, os⟩ := u
    obtain ⟨h1, h⟩ := h
    have sb := sub_enumerate
    have q1 : ∀ {A2 : Around} {E : Value → Shared → Prop} {Q : Value → Shared → Prop}, Q (.ref x.objs.size) ⟨x.push o, g, d, k, os⟩ → wpAny (model prog w) A2 (pyIter v) Q E ⟨x, g, d, k, os⟩ := fun q => B.iter prog w _ _ ⟨x, g, d, k, os⟩ _ h1 q
    wp_walk using q1
    refine wpAny_stack_any fun _ => wpAny_pure ?_
    split
    · rename_i c _ _ _ _ _
      cases (c == Value.type "enumerate") <;> (wp_walk using q1; exact ⟨_, rfl, h⟩)
    · (wp_walk using q1; exact ⟨_, rfl, h⟩)
theorem en_call {prog : Program} {w : World} {A : Around} {E : Value → Shared → Prop} {s : Shared} {v : Value} {o : Obj} {Hd : Heap → Prop} {Q : Value → Shared → Prop} (B : Begins v o Hd) (h1 : Hd s.heap)
    (h : ∀ u, IsEnum u (s.heap.objs.size + 1) s.heap.objs.size 0 .none → u.get? s.heap.objs.size = some o → (∀ b p, s.heap.get? b = some p → u.get? b = some p) → Q (.ref (s.heap.objs.size + 1)) { s with heap := u }) : wpAny (model prog w) A (call (.type "enumerate") [v]) Q E s := by
  refine callType_new F.called_enumerate (by decide) (F.typeCall_enumerate_1 _) (F.newCall_enumerate_1 _) (fun x => F.args_object_init_2 x _) F.entry_enumerate_new (en_new B) ⟨h1, ?_⟩
  have z : (s.heap.push o).objs.size = s.heap.objs.size + 1 := Heap.size_push ..
  show _ ∧ _
  rw [z]
  have he := Heap.get?_push_size (s.heap.push o) (o := { cls := .type "enumerate", data := .fields #[.none, .bool false, .ref s.heap.objs.size, rawInt 0, .none, .none] }) rfl
  rw [z] at he
  exact ⟨⟨_, he, rfl⟩, h _ he (Heap.get?_push_of_some _ (Heap.get?_push_size _ B.free)) fun b p e => Heap.get?_push_of_some _ (Heap.get?_push_of_some _ e)⟩
/-- the tuple at a, each item in a new pair behind its place -/
def Iet (K : PySem.W.Frag) (a : Addr) : It where
  go := fun i H => ∃ (xs : List V) (x : V), SqT K H a xs ∧ xs[i]? = some x
  yld := fun i H v H' => ∃ T x, v = .ref T ∧ H T = none ∧ H' = upd H T (.tup [.int (i : Nat), x]) ∧ ∀ xs, SqT K H a xs → xs[i]? = some x
  stop := fun i H => ∃ xs : List V, SqT K H a xs ∧ xs.length ≤ i
theorem turn_et {P : Program} {w : World} {K : PySem.W.Frag} {elts : List Expr} {kk : Nat} {tpos : Pos} (a e it : Addr) (hae : a ≠ e) (hai : a ≠ it) :
    Turn P w K (.Tuple elts kk tpos) (Iet K a) [e, it] e (fun i h => (∃ x, IsEnum h e it ((i : Nat) : Int) x) ∧ h.IsTupleIter it a i ∧ e ≠ it) where
  mem := List.mem_cons_self
  obj := fun i h st b hb => by
    obtain ⟨⟨x, he⟩, ⟨o, ho, hc, hd⟩, _⟩ := st
    rcases List.mem_cons.mp hb with z | z
    · subst z
      exact ⟨_, he, fun v q => nomatch q⟩
    · have z2 : b = it := by simpa using z
      subst z2
      exact ⟨o, ho, fun v q => by rw [hd] at q; cases q⟩
  keep := fun i h h' st k => by
    obtain ⟨⟨x, he⟩, hi, hn⟩ := st
    exact ⟨⟨x, k e (by simp) _ he⟩, hi.at fun o q => k it (by simp) o q, hn⟩
  item := by
    intro X hP hw hK hc i
    intro pins s σ H E I hf st hg
    subst hP hw hK
    obtain ⟨⟨_, he⟩, hit, hne⟩ := st
    obtain ⟨xs, x, hq, hx⟩ := hg
    obtain ⟨its, rv, p, lz⟩ := I.tuple hq
    obtain ⟨u, hu, ru⟩ := rv.get hx
    have hi : i < its.toArray.size := by
      have := List.getElem?_eq_some_iff.mp hu
      obtain ⟨z, _⟩ := this
      simpa using z
    have le : e < s.heap.objs.size := Heap.lt_size he
    have li : it < s.heap.objs.size := by
      obtain ⟨_, q, _⟩ := hit
      exact Heap.lt_size q
    have hef : e ∉ [it, a] := by
      intro z
      rcases List.mem_cons.mp z with z | z
      · exact hne z
      · have z2 : e = a := by simpa using z
        exact hae z2.symm
    refine wpAny_pyNext_enum_itemD (Draws.tuple (A := X.A.in1) (by exact I.ok.hd hc) it a hai its.toArray) he ⟨hit, show s.heap.IsTuple a its.toArray from p⟩ hi hne hef fun y h' tk hy ho hs hT hsz hk => ?_
    have ey : y = u := by
      have q : its.toArray[i]? = some u := by simpa using hu
      rw [q] at hy
      exact (Option.some.inj hy).symm
    subst ey
    refine ⟨_, rfl, wpAny_letOwnedTupleGo_enum (s := { s with heap := h', toks := tk + 1 }) ho fun h2 he2 sb => ?_⟩
    have hT2 : h2.get? s.heap.objs.size = some { cls := .type "tuple", data := .seq #[.int i tk, y] } := (sb.2 _ (Nat.ne_of_gt le)).trans hT
    have new : ObjOk X.prog X.w (upd H s.heap.objs.size (.tup [.int (i : Nat), x])) h2 s.heap.objs.size (.tup [.int (i : Nat), x]) :=
      ⟨by show 2 ≤ sizeLine; decide, [.int i tk, y], .cons ⟨_, rfl⟩ (.cons ru .nil), ⟨_, hT2, rfl, _, rfl⟩⟩
    have keep : ∀ b ob, b ∉ [e, it] → s.heap.get? b = some ob → h2.get? b = some ob := fun b ob hb q => (sb.2 b (fun z => hb (by simp [z]))).trans (hk b ob (fun z => hb (by simp [z])) (fun z => hb (by simp [z])) q)
    have I1 : Inv X pins σ (upd H s.heap.objs.size (.tup [.int (i : Nat), x])) { s with heap := h2, toks := tk + 1 } := I.turnedNew (ch := [e, it]) keep hf (Nat.le_refl _) new
    refine ⟨.ref s.heap.objs.size, _, I1, rfl, ⟨_, x, rfl, I.hok.fresh (Nat.le_refl _), rfl, fun ys hy => by rw [I.tuple_inj hy hq]; exact hx⟩, ⟨⟨y, ?_⟩, hs.1.at fun o q => (sb.2 it (Ne.symm hne)).trans q, hne⟩, fun b hb => ?_⟩
    · rw [show ((i + 1 : Nat) : Int) = (i : Int) + 1 by omega]
      exact he2
    · have lb : b < s.heap.objs.size := by
        rcases List.mem_cons.mp hb with z | z
        · rw [z]; exact le
        · rw [show b = it by simpa using z]; exact li
      rw [upd_ne (Nat.ne_of_lt lb)]
      exact (hf b hb).1
  done := by
    intro X hP hw hK hc i
    intro pins s σ H E I hf st hg
    subst hP hw hK
    obtain ⟨⟨_, he⟩, hit, hne⟩ := st
    obtain ⟨xs, hq, hx⟩ := hg
    obtain ⟨its, rv, p, lz⟩ := I.tuple hq
    have ⟨f0, f1, f2, f3, f4, f5⟩ := hf it (List.mem_cons_of_mem _ List.mem_cons_self)
    have hl := rv.length
    have hTe : s.TypeIs (.ref e) "enumerate" := ⟨_, he, rfl⟩
    unfold pyNext
    refine wpAny_bind (wpAny_attempt (wpAny_callSpecial?_slot (name := Str.ofString "__next__") hTe F.slot_enumerate_next (wpAny_call_entry F.slot_enumerate_next hTe F.entry_enumerate_next ?_ (F.args_enumerate_next_1 _))))
    refine (show wpAny _ _ (field (.ref e) 2 >>= _) _ _ _ from ?_)
    refine wpAny_bind (wpAny_field he rfl (x := .ref it) rfl (wpAny_bind (wpAny_nextOf_tuple_end (I.ok.hd hc) hit (show s.heap.IsTuple a its.toArray from p) (by simp; omega) fun h' x hx1 hx2 => ?_)))
    obtain ⟨o, ho, hc2⟩ := hx2
    exact wpAny_bind (wpAny_isInstance (T := "StopIteration") (b := true) ⟨o, ho, hc2⟩ isSubtype_stop (wpAny_pure ⟨rfl, I.turned (t' := s.toks) (fun b o hb q => hx1 b o hb q) f0 f1 f3 f4 f5⟩))
  self := fun _ _ s Q E st h => by
    obtain ⟨⟨x, he⟩, _⟩ := st
    exact wpAny_pyIter_enum he h
def iEnT (K : PySem.W.Frag) (ta : TA) : TI := fun σ H R => ta σ H fun vs H1 => ∃ a xs, vs = [.ref a] ∧ SqT K H1 a xs ∧ R (Iet K a) H1
theorem pi_et {X : Cx} {e : Expr} {ta : TA} {p pos tpos : Pos} {elts : List Expr} {kk : Nat} (hg : Gl X "enumerate") (hm : X.mg "enumerate" = none) (ha : PA X [e] ta) (hs : starEach [e] X.env = [(false, eval e X.env)] := by rfl) : PI X (.Tuple elts kk tpos) (.Call (.Name "enumerate" p) [e] [] pos) (iEnT X.K ta) := by
  constructor
  intro pins s σ H R I h
  refine Call_ (ld_blt I hg hm boot_enumerate (PyProof.Rows.callWith_type1 (thn (ha.run pos pins s σ H _ I h) fun us s1 ⟨vs, H1, I1, r1, a, xs, ex, hq, q⟩ => ?_) hs rfl))
  subst ex
  cases r1 with
  | cons r rr =>
    cases rr
    cases r
    obtain ⟨its, rv, p', hz⟩ := I1.tuple hq
    have p2 : s1.heap.IsTuple a its.toArray := p'
    have la : a < s1.heap.objs.size := by
      obtain ⟨_, q, _⟩ := p2
      exact Heap.lt_size q
    refine en_call (begins_tuple a its.toArray) p2 fun u he hit hk => wpAny_pyIter_enum he ?_
    have I2 : Inv X pins σ H1 { s1 with heap := u } := I1.kept (t' := s1.toks) hk
    refine ⟨_, [s1.heap.objs.size + 1, s1.heap.objs.size], _, _, H1, rfl, I2, turn_et a (s1.heap.objs.size + 1) s1.heap.objs.size (Nat.ne_of_lt (Nat.lt_succ_of_lt la)) (Nat.ne_of_lt la), ⟨⟨.none, he⟩, ⟨_, hit, rfl, rfl⟩, Nat.succ_ne_self _⟩, fun b hb => ?_, q⟩
    have sb : s1.heap.objs.size ≤ b := by
      rcases List.mem_cons.mp hb with z | z
      · rw [z]; exact Nat.le_add_right _ _
      · rw [show b = s1.heap.objs.size by simpa using z]
        exact Nat.le_refl _
    exact I1.fpOk sb (I1.hok.fresh sb)
theorem walk_et {K : PySem.W.Frag} {a : Addr} {xs : List V} : Walk (Iet K a) xs.length (fun H => SqT K H a xs) (YPair (fun i => some (.int (i : Nat))) (fun i => xs[i]?)) where
  goes := fun i _ hi q => ⟨xs, xs[i], q, by simp [hi]⟩
  stops := fun _ q => ⟨xs, q, Nat.le_refl _⟩
  yields := fun i H v H' _ q y => by
    obtain ⟨T, x, h1, h2, h3, h4⟩ := y
    exact ⟨T, _, x, h1, h2, h3, rfl, h4 xs q⟩
end WP

end
section
set_option autoImplicit false
set_option Elab.async false
set_option linter.all false
set_option maxRecDepth 100000
set_option maxHeartbeats 4000000
/-! ## Way.__init__ for good rows: the pieces -/
namespace M
def tuns : List Step → List Way
  | [] => []
  | .tunnel w _ _ :: r => w :: tuns r
  | .road _ _ _ :: r => tuns r
  | .join _ :: r => tuns r
theorem tuns_app : ∀ (l m : List Step), tuns (l ++ m) = tuns l ++ tuns m
  | [], m => rfl
  | .tunnel w a b :: r, m => by
    show w :: tuns (r ++ m) = w :: tuns r ++ tuns m
    rw [tuns_app r m]; rfl
  | .road a b c :: r, m => tuns_app r m
  | .join a :: r, m => tuns_app r m
theorem tuns_len : ∀ l : List Step, (tuns l).length ≤ l.length
  | [] => Nat.le_refl _
  | .tunnel w a b :: r => by
    show (tuns r).length + 1 ≤ r.length + 1
    exact Nat.succ_le_succ (tuns_len r)
  | .road a b c :: r => Nat.le_succ_of_le (tuns_len r)
  | .join a :: r => Nat.le_succ_of_le (tuns_len r)
theorem inner_eq : ∀ st : List Step, Step.inner st = ((tuns st).map Way.size).sum
  | [] => by simp [Step.inner, tuns]
  | .tunnel w a b :: r => by
    unfold Step.inner tuns
    rw [inner_eq r, List.map_cons, List.sum_cons]
  | .road a b c :: r => by
    unfold Step.inner tuns
    exact inner_eq r
  | .join a :: r => by
    unfold Step.inner tuns
    exact inner_eq r
theorem deepest_eq : ∀ st : List Step, Step.deepest st = (tuns st).foldr (fun w d => max w.depth d) 0
  | [] => by simp [Step.deepest, tuns]
  | .tunnel w a b :: r => by
    unfold Step.deepest tuns
    rw [deepest_eq r, List.foldr_cons]
  | .road a b c :: r => by
    unfold Step.deepest tuns
    exact deepest_eq r
  | .join a :: r => by
    unfold Step.deepest tuns
    exact deepest_eq r
theorem fold_max : ∀ (l : List Int) (a b : Int), (l.foldl max (max a b)) = max a (l.foldl max b)
  | [], a, b => rfl
  | c :: r, a, b => by
    show r.foldl max (max (max a b) c) = max a (r.foldl max (max b c))
    rw [Int.max_assoc, fold_max r a (max b c)]
theorem deep_max (ws : List Way) : (match ws.map fun w => ((w.depth : Nat) : Int) with | [] => (0 : Int) | n :: r => r.foldl max n) = ((ws.foldr (fun w d => max w.depth d) 0 : Nat) : Int) := by
  induction ws with
  | nil => rfl
  | cons w r ih =>
    show ((r.map fun w => ((w.depth : Nat) : Int)).foldl max ((w.depth : Nat) : Int)) = _
    cases r with
    | nil => show ((w.depth : Nat) : Int) = ((max w.depth 0 : Nat) : Int); rw [Nat.max_zero]
    | cons v q =>
      show ((q.map fun w => ((w.depth : Nat) : Int)).foldl max (max ((w.depth : Nat) : Int) ((v.depth : Nat) : Int))) = _
      rw [fold_max]
      have e : ((q.map fun w => ((w.depth : Nat) : Int)).foldl max ((v.depth : Nat) : Int)) = (((v :: q).foldr (fun w d => max w.depth d) 0 : Nat) : Int) := ih
      rw [e]
      show _ = ((max w.depth ((v :: q).foldr (fun w d => max w.depth d) 0) : Nat) : Int)
      omega
theorem sum_cast (ws : List Way) : (ws.map fun w => ((w.size : Nat) : Int)).sum = (((ws.map Way.size).sum : Nat) : Int) := by
  induction ws with
  | nil => rfl
  | cons w r ih => rw [List.map_cons, List.sum_cons, ih, List.map_cons, List.sum_cons]; omega
end M
namespace WP
open PySem L2 G
section
variable {X : Cx} {tg it : Expr}
theorem pi_or {w1 w2 : TI} (h1 : PI X tg it w1) (h2 : PI X tg it w2) : PI X tg it (fun σ H R => w1 σ H R ∨ w2 σ H R) := ⟨fun pins s σ H R I h => h.elim (h1.run pins s σ H R I) (h2.run pins s σ H R I)⟩
def tDead : TS := fun _ _ _ => False
theorem ps_dead {b : List Stmt} : PSs X b tDead := ⟨fun _ _ _ _ _ _ h => h.elim⟩
end
def SAt (H : Hp) (l : Addr) (xs : List V) : Prop := H l = some (.lst xs) ∨ H l = some (.tup xs)
theorem SAt.mono {H H' : Hp} {l : Addr} {xs : List V} (s : Same H H') (h : SAt H l xs) : SAt H' l xs := h.elim (fun e => .inl (s _ _ e)) fun e => .inr (s _ _ e)
section
variable {K : PySem.W.Frag} {H : Hp} {σ : St} {l : Addr} {xs : List V}
theorem or_seq {te : TE} {R : It → Hp → Prop} (ht : ∀ Q : VK, Q (.ref l) H → te σ H Q) (hl : SAt H l xs) (k : ∀ (J : It) (Gd : Hp → Prop), (∀ H', Same H H' → Gd H') → Walk J xs.length Gd (YAt xs) → R J H) : iList K te σ H R ∨ iTup K te σ H R :=
  hl.elim (fun e => .inl (ht _ ⟨l, rfl, ⟨xs, SqL.of e⟩, k _ _ (fun H' s => SqL.of (s _ _ e)) walk_list⟩)) fun e => .inr (ht _ ⟨l, rfl, ⟨xs, SqT.of e⟩, k _ _ (fun H' s => SqT.of (s _ _ e)) walk_tup⟩)
theorem or_enum {ta : TA} {R : It → Hp → Prop} (ht : ∀ Q : List V → Hp → Prop, Q [.ref l] H → ta σ H Q) (hl : SAt H l xs) (k : ∀ (J : It) (Gd : Hp → Prop), (∀ H', Same H H' → Gd H') → Walk J xs.length Gd (YPair (fun i => some (.int (i : Nat))) (fun i => xs[i]?)) → R J H) : iEnum K ta σ H R ∨ iEnT K ta σ H R :=
  hl.elim (fun e => .inl (ht _ ⟨l, xs, rfl, SqL.of e, k _ _ (fun H' s => SqL.of (s _ _ e)) walk_enum⟩)) fun e => .inr (ht _ ⟨l, xs, rfl, SqT.of e, k _ _ (fun H' s => SqT.of (s _ _ e)) walk_et⟩)
end
/-- ways at addresses -/
inductive WaysAt (C : Addr) (H : Hp) : List M.Way → List V → Prop
  | nil : WaysAt C H [] []
  | cons {w : M.Way} {a : Addr} {ws : List M.Way} {vs : List V} (h : WayAt C H w a) (t : WaysAt C H ws vs) : WaysAt C H (w :: ws) (.ref a :: vs)
theorem WaysAt.mono {C : Addr} {H H' : Hp} (s : Same H H') {ws : List M.Way} {vs : List V} (h : WaysAt C H ws vs) : WaysAt C H' ws vs := by
  induction h with
  | nil => exact .nil
  | cons h _ ih => exact .cons (h.mono s) ih
theorem WaysAt.snoc {C : Addr} {H : Hp} {ws : List M.Way} {vs : List V} {w : M.Way} {a : Addr} (h : WaysAt C H ws vs) (hw : WayAt C H w a) : WaysAt C H (ws ++ [w]) (vs ++ [.ref a]) := by
  induction h with
  | nil => exact .cons hw .nil
  | cons h _ ih => exact .cons h ih
theorem WaysAt.len {C : Addr} {H : Hp} {ws : List M.Way} {vs : List V} (h : WaysAt C H ws vs) : vs.length = ws.length := by
  induction h with
  | nil => rfl
  | cons _ _ ih => simp [ih]
theorem WaysAt.get {C : Addr} {H : Hp} {ws : List M.Way} {vs : List V} (h : WaysAt C H ws vs) : ∀ {i : Nat} {v : V}, vs[i]? = some v → ∃ w a, ws[i]? = some w ∧ v = .ref a ∧ WayAt C H w a := by
  induction h with
  | nil => intro i v e; cases e
  | cons h t ih =>
    intro i v e
    cases i with
    | zero => cases e; exact ⟨_, _, rfl, rfl, h⟩
    | succ i => obtain ⟨w, a, e1, e2, e3⟩ := ih (i := i) e; exact ⟨w, a, e1, e2, e3⟩
end WP

end
section
set_option autoImplicit false
set_option Elab.async false
set_option linter.all false
set_option maxRecDepth 100000
set_option maxHeartbeats 4000000
/-! ## Way.__init__ for good rows -/
namespace WP
open PySem L2 G
section
variable {P : Program} {w : World} {K : PySem.W.Frag} {mg : Str → Option Value} {base : Heap} {C : Addr}
abbrev NI : List Str := ["self", "head", "steps", "position", "step", "inner_ways", "depth", "size", "inner"]
theorem scI : FnScope NI ["self", "head", "steps"] (defScope sInit) := ⟨rfl, rfl, rfl, by decide +kernel, rfl, by decide +kernel, by decide +kernel⟩
/-- the ways of the tunnels -/
def tTuns (K : PySem.W.Frag) : TE := tLc (fun σ H R => iList K (tVar 2) σ H R ∨ iTup K (tVar 2) σ H R) (gName 4) (tTest (tOp rEq (tOp (rIxT K) (tVar 4) (tC (.int 0))) (tC (.str "tunnel")))) (tOp (rIxT K) (tVar 4) (tC (.int 1))) [4]
theorem add_upd {H G : Hp} {D : Addr} {o : HO} (nD : H D = none) (s : Same H G) : Same H (upd G D o) := fun b u e => by
  rw [upd_ne (ne_of_none e nD)]
  exact s _ _ e
theorem take_snoc {α : Type} {l : List α} {i : Nat} {x : α} (h : l[i]? = some x) : l.take (i + 1) = l.take i ++ [x] := by
  rw [List.take_succ, h]
  rfl
theorem tuns_run {σ : St} {H : Hp} {a0 a1 p q a5 a6 a7 a8 : Option V} {l : Addr} {xs : List V} {st : List M.Step} {Q : VK} (hσ : σ = [a0, a1, some (.ref l), p, q, a5, a6, a7, a8]) (hl : SAt H l xs) (hs : StepsAt C H st xs) (hn : xs.length ≤ 1000)
    (k : ∀ D vs H', Same H H' → H' D = some (.lst vs) → WaysAt C H (M.tuns st) vs → Q (.ref D) H') : tTuns K σ H Q := by
  subst hσ
  have yes : ∀ {a : Str}, decide (V.str a = V.str a) = true := decide_eq_true rfl
  have no : ∀ {a b : Str}, a ≠ b → decide (V.str a = V.str b) = false := fun h => decide_eq_false fun z => h (V.str.inj z)
  refine or_seq (fun Q h => ⟨_, rfl, h⟩) hl fun J Gd hG wk D nD => ?_
  refine lc_it wk (fun i G => Same H G ∧ ∃ acc, acc.length ≤ i ∧ G D = some (.lst acc) ∧ WaysAt C H (M.tuns (st.take i)) acc) ⟨Same.of_upd nD, [], Nat.le_refl _, upd_same, .nil⟩ (fun i G _ p => hG G p.1) ?_ ?_
  · rintro i v G G' hi ⟨s, acc, hA, hD, hw⟩ ⟨rfl, hx⟩
    obtain ⟨sp, hsp, hst⟩ := hs.get hx
    have et := take_snoc hsp
    have la : acc.length < sizeLine := Nat.lt_of_lt_of_le (Nat.lt_of_le_of_lt hA hi) (Nat.le_trans hn (by decide))
    have z1 : ∀ {y0 : V} {ys : List V}, atI (y0 :: ys) (0 : Int) = some y0 := fun {y0 ys} => by exact atI_nat (xs := y0 :: ys) (j := 0) rfl
    refine ⟨rfl, ?_⟩
    have hst2 := hst
    cases sp with
    | road size ts lw =>
      unfold StepAt at hst
      obtain ⟨t, rfl, ht⟩ := hst
      refine ⟨_, rfl, t, _, _, _, rfl, rfl, SqT.of (s _ _ ht), z1, rfl, _, rfl, ?_⟩
      rw [no kinds.2.1]
      refine iteF ⟨s, acc, Nat.le_succ_of_le hA, hD, ?_⟩
      rw [et, M.tuns_app]
      exact (List.append_nil _).symm ▸ hw
    | join most =>
      unfold StepAt at hst
      obtain ⟨t, rfl, ht⟩ := hst
      refine ⟨_, rfl, t, _, _, _, rfl, rfl, SqT.of (s _ _ ht), z1, rfl, _, rfl, ?_⟩
      rw [no kinds.2.2.1]
      refine iteF ⟨s, acc, Nat.le_succ_of_le hA, hD, ?_⟩
      rw [et, M.tuns_app]
      exact (List.append_nil _).symm ▸ hw
    | tunnel wy most tw =>
      unfold StepAt at hst
      obtain ⟨t, a, rfl, ht, hway⟩ := hst
      refine ⟨_, rfl, t, _, _, _, rfl, rfl, SqT.of (s _ _ ht), z1, rfl, _, rfl, ?_⟩
      rw [yes]
      refine iteT ⟨_, rfl, t, _, _, _, rfl, rfl, SqT.of (s _ _ ht), (by exact atI_nat (xs := [V.str "tunnel", V.ref a, V.int (most : Int), V.str (twS tw)]) (j := 1) rfl), acc, hD, la, add_upd nD s, _, by simp; exact hA, upd_same, ?_⟩
      rw [et, M.tuns_app]
      exact hw.snoc hway
  · rintro G ⟨s, acc, hA, hD, hw⟩
    have e : st.take xs.length = st := by rw [hs.len]; exact List.take_length
    rw [e] at hw
    exact k D acc G s hD hw
/-- a field of each of the ways, ints -/
def tFlds (K : PySem.W.Frag) (f : Str) : TE := tLc (iList K (tVar 5)) (gName 8) tYes (tFld K (tVar 8) f) [8]
theorem flds_run {f : Str} {g : M.Way → Int} {σ : St} {H : Hp} {a0 a1 a2 p q a6 a7 a8 : Option V} {D0 : Addr} {vs : List V} {ws : List M.Way} {Q : VK} (T : Wt K mg C) (nf : NoAttr K C f) (hg : ∀ H wy a, WayAt C H wy a → ∃ dx fs, H a = some (.ins C dx fs) ∧ fs.lookup f = some (.int (g wy)))
    (hσ : σ = [a0, a1, a2, p, q, some (.ref D0), a6, a7, a8]) (hl : H D0 = some (.lst vs)) (hw : WaysAt C H ws vs) (hn : vs.length ≤ 1000) (k : ∀ D H', Same H H' → H' D = some (.lst ((ws.map g).map V.int)) → Q (.ref D) H') : tFlds K f σ H Q := by
  subst hσ
  refine ⟨_, rfl, D0, rfl, ⟨vs, SqL.of hl⟩, fun D nD => ?_⟩
  refine lc_it walk_list (fun i G => Same H G ∧ G D = some (.lst ((((ws.take i).map g)).map V.int))) ⟨Same.of_upd nD, upd_same⟩ (fun i G _ p => SqL.of (p.1 _ _ hl)) ?_ ?_
  · rintro i v G G' hi ⟨s, hD⟩ ⟨rfl, hx⟩
    obtain ⟨wy, a, hwi, rfl, hat⟩ := hw.get hx
    obtain ⟨dx, fs, h1, h2⟩ := hg H wy a hat
    refine ⟨rfl, _, rfl, a, C, dx, fs, _, rfl, s _ _ h1, T.cl, nf, h2, _, hD, ?_, add_upd nD s, ?_⟩
    · rw [List.length_map, List.length_map, List.length_take]
      exact Nat.lt_of_le_of_lt (Nat.le_trans (Nat.min_le_left _ _) (Nat.le_of_lt (Nat.lt_of_lt_of_le hi hn))) (by decide)
    · rw [take_snoc hwi, List.map_append, List.map_append, upd_same]
      rfl
  · rintro G ⟨s, hD⟩
    have e : ws.take vs.length = ws := by rw [hw.len]; exact List.take_length
    rw [e] at hD
    exact k D G s hD
theorem depth_fld (H : Hp) (wy : M.Way) (a : Addr) (h : WayAt C H wy a) : ∃ dx fs, H a = some (.ins C dx fs) ∧ fs.lookup ("depth" : Str) = some (.int ((wy.depth : Nat) : Int)) := by
  obtain ⟨wh, ws⟩ := wy
  unfold WayAt at h
  obtain ⟨dx, t, xs, h1, _, _⟩ := h
  refine ⟨dx, _, h1, ?_⟩
  rw [flds_depth]
  unfold M.Way.depth
  rfl
theorem size_fld (H : Hp) (wy : M.Way) (a : Addr) (h : WayAt C H wy a) : ∃ dx fs, H a = some (.ins C dx fs) ∧ fs.lookup ("size" : Str) = some (.int ((wy.size : Nat) : Int)) := by
  obtain ⟨wh, ws⟩ := wy
  unfold WayAt at h
  obtain ⟨dx, t, xs, h1, _, _⟩ := h
  refine ⟨dx, _, h1, ?_⟩
  rw [flds_size]
  unfold M.Way.size
  rfl
end
end WP

end
section
set_option autoImplicit false
set_option Elab.async false
set_option linter.all false
set_option maxRecDepth 100000
set_option maxHeartbeats 4000000
/-! ## Way.__init__ for good rows: the def -/
namespace WP
open PySem L2 G
theorem set_then {te : TE} {i : Nat} {t2 : TS} {D : Ends} {σ : St} {H : Hp} (h : te σ H fun v H1 => t2 D (σ.set i (some v)) H1) : tSeq (tAsg te (gName i)) t2 D σ H := h
theorem add_of {tb : TE} {i : Int} {σ : St} {H : Hp} {Q : VK} (h : tb σ H fun y H2 => ∃ a b, V.int i = .int a ∧ y = .int b ∧ Q (.int (a + b)) H2) : tOp (rI0 fun i j => .int (i + j)) (tC (.int i)) tb σ H Q := h
theorem maxID_at {K : PySem.W.Frag} {H : Hp} {Q : VK} {a : Addr} {ns : List Int} {n : Int} (e : (match ns with | [] => (0 : Int) | n :: r => r.foldl max n) = n) (hq : SqL K H a (ns.map V.int)) (q : Q (.int n) H) : G.rMaxID K [.ref a] [.int 0] H Q := by
  subst e
  refine ⟨a, ns, 0, rfl, rfl, hq, ?_⟩
  cases ns <;> exact q
theorem maxD_of {K : PySem.W.Frag} {tl : TE} {σ : St} {H : Hp} {Q : VK} (h : tl σ H fun x H1 => G.rMaxID K [x] [.int 0] H1 Q) : tCKw (G.rMaxID K) (tCons tl tNil) (tCons (tC (.int 0)) tNil) σ H Q := h
theorem sum_of {K : PySem.W.Frag} {tl : TE} {σ : St} {H : Hp} {Q : VK} (h : tl σ H fun x H1 => rSum K [x] H1 Q) : tCB (rSum K) (tCons tl tNil) σ H Q := h
theorem len_add {K : PySem.W.Frag} {tl : TE} {σ : St} {H : Hp} {Q : VK} {l : Addr} {xs : List V} (hσ : σ[2]? = some (some (.ref l))) (hl : SAt H l xs) (h : tl σ H fun x H1 => rSum K [x] H1 fun y H2 => ∃ a b, V.int (xs.length : Int) = .int a ∧ y = .int b ∧ Q (.int (a + b)) H2) :
    tOp (rI0 fun i j => .int (i + j)) (tCB (fun zs H Q => ∃ p ys, zs = [.ref p] ∧ (SqL K H p ys ∨ SqT K H p ys) ∧ Q (.int ys.length) H) (tCons (tVar 2) tNil)) (tCB (rSum K) (tCons tl tNil)) σ H Q :=
  ⟨_, hσ, l, xs, rfl, hl.elim (fun e => .inl (SqL.of e)) (fun e => .inr (SqT.of e)), h⟩
theorem tup_or {K : PySem.W.Frag} {H : Hp} {l : Addr} {xs : List V} {Q : VK} (hl : SAt H l xs) (k : ∀ t G, Same H G → G t = some (.tup xs) → Q (.ref t) G) : (SqL K H l xs ∧ ∀ q, H q = none → Q (.ref q) (upd H q (.tup xs))) ∨ (SqT K H l xs ∧ Q (.ref l) H) :=
  hl.elim (fun e => .inl ⟨SqL.of e, fun q hq => k _ _ (Same.of_upd hq) upd_same⟩) fun e => .inr ⟨SqT.of e, k _ _ (Same.refl _) e⟩
theorem len_put {f : Str} {v : V} {fs : List (Str × V)} {n : Nat} (h : fs.length < n) : (putF f v fs).length < n + 1 := by
  exact Nat.lt_of_le_of_lt (length_putF f v fs) (Nat.succ_lt_succ h)
section
variable {P : Program} {w : World} {K : PySem.W.Frag} {mg : Str → Option Value} {base : Heap} {C : Addr}
/-- at a new instance x: steps of a list or a tuple, as they stood before it was made -/
def spInit (C : Addr) : Sp := fun vs H Q _ => ∃ (x l dx : Addr) (h : Nat) (xs : List V) (st : List M.Step) (H0 : Hp), vs = [.ref x, .int (h : Int), .ref l] ∧ H x = some (.ins C dx []) ∧ H0 x = none ∧ Same H0 H ∧ SAt H0 l xs ∧ StepsAt C H0 st xs ∧ M.Way.fine (.mk h st) ∧
  ∀ H', Same H0 H' → WayAt C H' (.mk h st) x → Q .non H'
theorem ok_init {f : Addr} {fd : FuncData} (F : Fun K "__init__" "Way.__init__" sInit f fd) (B : Bn mg) (T : Wt K mg C) (W : Df P w K mg base 3 "is_head" ["value"] (spIn1 1 40)) (WL : Df P w K mg base 1 "is_step_list" ["value"] (spList K)) (WS : Df P w K mg base 5 "_is_step" ["value", "head"] (spStep C)) :
    FnOk P w K mg base CX0 6 f fd ["self", "head", "steps"] (spInit C) := by
  obtain ⟨fW, fdW, GW, gW, kW, bW⟩ := W.ex
  obtain ⟨fL, fdL, GL, gL, kL, bL⟩ := WL.ex
  obtain ⟨fS, fdS, GS, gS, kS, bS⟩ := WS.ex
  obtain ⟨t2, g2⟩ := T.gDepth
  obtain ⟨t3, g3⟩ := T.gSize
  refine F.ok scI (fun vs H Q E h => ?_) (fun cdv A outer s H vs Q E hr h => ?_)
  · obtain ⟨x, l, dx, h, xs, st, H0, rfl, _⟩ := h
    rfl
  · obtain ⟨x, l, dx, h, xs, st, H0, rfl, hx, hx0, s0, hl, hs, hf, k⟩ := h
    have r1 := hr.mono (by decide : 1 ≤ 5)
    have r0 := hr.mono (by decide : 3 ≤ 5)
    refine ⟨_, pss_cons (ps_if (pt_not (pt_val (pe_call GW r0 rfl gW kW bW .nil pass0 (pa_cons (pv 1) pa_nil)))) ps_dead pss_nil)
      (pss_cons (ps_if (pt_not (pt_val (pe_call GL r1 rfl gL kL bL .nil pass0 (pa_cons (pv 2) pa_nil)))) ps_dead pss_nil)
      (pss_cons (ps_for PassesOwn.never rfl (pi_or (pi_enum (by rfl) B.enum (pa_cons (pv 2) pa_nil)) (pi_et (by rfl) B.enum (pa_cons (pv 2) pa_nil))) (pg_tup (by rfl) (pgs_cons (pg_name (i := 3) scI.nd rfl (Or.inl rfl)) (pgs_cons (pg_name (i := 4) scI.nd rfl (Or.inl rfl)) pgs_nil)))
        (pss_one (ps_if (pt_not (pt_val (pe_call GS hr rfl gS kS bS .nil pass0 (pa_cons (pv 4) (pa_cons (pv 1) pa_nil))))) ps_dead pss_nil)))
      (pss_cons (ps_setLc (i := 5) (own := [("step", 4)]) (g := gName 4) (tt := tTest (tOp rEq (tOp (rIxT K) (tVar 4) (tC (.int 0))) (tC (.str "tunnel")))) (te := tOp (rIxT K) (tVar 4) (tC (.int 1))) rfl scI.nd rfl rfl (sw_true rfl rfl rfl (by decide +kernel)) (pi_or (pi_list (pv 2)) (pi_tup (pv 2))) (blkOk_by (N := NI) (sc := defScope sInit) (by decide +kernel))
          (fun _ _ _ _ _ => pg_name (i := 4) scI.nd rfl (Or.inl rfl)) (fun _ _ _ _ _ => pts_one (by exact pt_cmpR op_eq (pe_ix ix_tup (pv 4) pe_int (fun _ _ => rfl)) pe_str (nomark _))) (fun _ _ _ _ _ => by exact pe_ix ix_tup (pv 4) pe_int (fun _ _ => rfl)))
      (pss_cons (ps_set (i := 6) scI.nd rfl (Or.inl rfl) (pe_op op_add pe_int (pe_callBK (G.call_maxID rfl hr.units) (by rfl) B.max (by decide +kernel) (pa_cons (pe_lc (own := [("inner", 8)]) (g := gName 8) (tt := tYes) (te := tFld K (tVar 8) "depth") rfl scI.nd (pi_list (pv 5)) (blkOk_by (N := NI) (sc := defScope sInit) (by decide +kernel))
          (fun _ _ _ _ _ => pg_name (i := 8) scI.nd rfl (Or.inl rfl)) (fun _ _ _ _ _ => pts_nil) (fun _ _ _ _ _ => by exact pe_fld (pv 8) rfl)) pa_nil) (pk_cons pe_int pk_nil))))
      (pss_cons (ps_if (pt_cmpR op_gt (pv 6) (pe_glob (v := .int 3) rfl g2 ⟨_, rfl⟩) (nomark _)) ps_dead pss_nil)
      (pss_cons (ps_set (i := 7) scI.nd rfl (Or.inl rfl) (pe_op op_add (pe_callB call_len_seq (by rfl) B.len PySem.boot_len (pa_cons (pv 2) pa_nil)) (pe_callB (cr_sum rfl) (by rfl) B.sum (by decide +kernel) (pa_cons (pe_lc (own := [("inner", 8)]) (g := gName 8) (tt := tYes) (te := tFld K (tVar 8) "size") rfl scI.nd (pi_list (pv 5)) (blkOk_by (N := NI) (sc := defScope sInit) (by decide +kernel))
          (fun _ _ _ _ _ => pg_name (i := 8) scI.nd rfl (Or.inl rfl)) (fun _ _ _ _ _ => pts_nil) (fun _ _ _ _ _ => by exact pe_fld (pv 8) rfl)) pa_nil))))
      (pss_cons (ps_if (pt_cmpR op_gt (pv 7) (pe_glob (v := .int 40) rfl g3 ⟨_, rfl⟩) (nomark _)) ps_dead pss_nil)
      (pss_cons (ps_fld (pv 0) (pv 1) rfl)
      (pss_cons (ps_fld (pv 0) (pe_callTy call_tuple_of (by rfl) B.tuple (by decide +kernel) (pa_cons (pv 2) pa_nil)) rfl)
      (pss_cons (ps_fld (pv 0) (pv 6) rfl)
      (pss_one (ps_fld (pv 0) (pv 7) rfl)))))))))))), ?_⟩
    unfold M.Way.fine at hf
    obtain ⟨hh, hn, hall, hd, hz⟩ := hf
    have ln := hs.len
    refine ⟨_, rfl, (h : Int), rfl, ?_⟩
    rw [decide_eq_true (by omega)]
    refine ⟨_, rfl, iteF ⟨_, rfl, l, xs, rfl, hl.mono s0, by omega, by omega, fun H1 s1 => ⟨_, rfl, iteF ?_⟩⟩⟩
    have S1 := s0.trans s1
    have hx1 : H1 x = some (.ins C dx []) := s1 _ _ hx
    clear s1 hx s0
    refine or_enum (fun Q h => ⟨_, rfl, h⟩) (hl.mono S1) fun J Gd hG wk => ?_
    refine for_it wk (fun i σ G => Same H1 G ∧ ∃ p q, σ = [some (.ref x), some (.int (h : Int)), some (.ref l), p, q, none, none, none, none]) ⟨Same.refl _, _, _, rfl⟩ (fun i σ G _ z => hG G z.1) ?_ ?_
    · rintro i v σ G G' hi ⟨s, p, q, rfl⟩ ⟨t, a, b, rfl, nt, rfl, e1, hb⟩
      cases e1
      obtain ⟨sp, hsp, hst⟩ := hs.get hb
      have s2 : Same H1 (upd G t (.tup [V.int (i : Nat), b])) := s.trans (Same.of_upd nt)
      refine ⟨t, _, rfl, SqT.of upd_same, rfl, _, _, rfl, _, _, rfl, rfl, ?_⟩
      exact ⟨_, rfl, _, rfl, b, h, sp, rfl, hst.mono (S1.trans s2), fine_get hall hsp, _, rfl, iteF ⟨s2, _, _, rfl⟩⟩
    · rintro σ G ⟨s, p, q, rfl⟩
      have S2 := S1.trans s
      have hx2 := s _ _ hx1
      dsimp only
      refine set_then (te := tTuns K) (i := 5) ?_
      refine tuns_run (st := st) (xs := xs) rfl (hl.mono S2) (hs.mono S2) (by omega) fun D0 vs H2 s3 hD0 hW => ?_
      have lw : vs.length ≤ 1000 := by
        have e1 := hW.len
        have e2 := M.tuns_len st
        omega
      refine set_then (i := 6) ?_
      refine add_of (i := 1) (maxD_of (tl := tFlds K "depth") ?_)
      refine flds_run (f := "depth") (g := fun w => ((w.depth : Nat) : Int)) T T.nD (fun H wy a => depth_fld H wy a) rfl hD0 (hW.mono s3) lw fun D1 H3 s4 hD1 => ?_
      refine maxID_at (M.deep_max _) (SqL.of hD1) ⟨_, _, rfl, rfl, ?_⟩
      rw [← M.deepest_eq]
      refine ⟨_, rfl, _, _, rfl, rfl, _, rfl, ?_⟩
      rw [decide_eq_false (by omega)]
      refine iteF ?_
      unfold tNext
      dsimp only
      have s5 := s3.trans s4
      refine set_then (i := 7) (len_add (l := l) (xs := xs) (tl := tFlds K "size") rfl (hl.mono (S2.trans s5)) ?_)
      refine flds_run (f := "size") (g := fun w => ((w.size : Nat) : Int)) T T.nZ (fun H wy a => size_fld H wy a) rfl (s4 _ _ hD0) (hW.mono s5) lw fun D2 H4 s6 hD2 => ?_
      refine ⟨D2, _, rfl, SqL.of hD2, _, _, rfl, rfl, ?_⟩
      rw [M.sum_cast, ← M.inner_eq]
      refine ⟨_, rfl, _, _, rfl, rfl, _, rfl, ?_⟩
      rw [decide_eq_false (by omega)]
      refine iteF ?_
      dsimp only
      have S4 : Same H0 H4 := S2.trans (s5.trans s6)
      have hx4 : H4 x = some (.ins C dx []) := s6 _ _ (s5 _ _ hx2)
      refine ⟨_, rfl, _, rfl, x, C, dx, [], rfl, hx4, T.cl, T.nH, by decide, ?_⟩
      have S5 : Same H0 (upd H4 x (.ins C dx (putF "head" (.int (h : Int)) []))) := add_upd hx0 S4
      have e1 : (1 : Int) + ((M.Step.deepest st : Nat) : Int) = ((1 + M.Step.deepest st : Nat) : Int) := by omega
      have e2 : ((xs.length : Nat) : Int) + ((M.Step.inner st : Nat) : Int) = ((st.length + M.Step.inner st : Nat) : Int) := by omega
      have fin : ∀ (t : Addr) (G2 : Hp), Same (upd H4 x (.ins C dx (putF "head" (.int (h : Int)) []))) G2 → G2 t = some (.tup xs) → tSeq (sFld K (tVar 0) (tC (.ref t)) "steps") (tSeq (sFld K (tVar 0) (tVar 6) "depth") (sFld K (tVar 0) (tVar 7) "size")) { nx := fun _ H' => Q V.non H', rt := Q } [some (.ref x), some (.int (h : Int)), some (.ref l), p, q, some (.ref D0), some (.int (1 + ((M.Step.deepest st : Nat) : Int))), some (.int ((xs.length : Int) + ((M.Step.inner st : Nat) : Int))), none] G2 := fun t G2 sG ht => by
        have hx5 : G2 x = some (.ins C dx (putF "head" (.int (h : Int)) [])) := sG _ _ upd_same
        have tx : t ≠ x := fun z => by
          rw [z, hx5] at ht
          cases ht
        have S6 := S5.trans sG
        rw [e1, e2]
        refine ⟨_, rfl, x, C, dx, _, rfl, hx5, T.cl, T.nS, len_put (by decide), ?_⟩
        refine ⟨_, rfl, _, rfl, x, C, dx, _, rfl, upd_same, T.cl, T.nD, len_put (len_put (by decide)), ?_⟩
        refine ⟨_, rfl, _, rfl, x, C, dx, _, rfl, upd_same, T.cl, T.nZ, len_put (len_put (len_put (by decide))), ?_⟩
        have S7 := add_upd (o := .ins C dx (flds (h : Int) t ((1 + M.Step.deepest st : Nat) : Int) ((st.length + M.Step.inner st : Nat) : Int))) hx0 (add_upd (o := .ins C dx (putF "depth" (.int ((1 + M.Step.deepest st : Nat) : Int)) (putF "steps" (.ref t) (putF "head" (.int (h : Int)) [])))) hx0 (add_upd (o := .ins C dx (putF "steps" (.ref t) (putF "head" (.int (h : Int)) []))) hx0 S6))
        refine k _ S7 ?_
        unfold WayAt
        exact ⟨dx, t, xs, upd_same, by rw [upd_ne tx, upd_ne tx, upd_ne tx]; exact ht, hs.mono S7⟩
      rcases hl.mono S5 with e | e
      · exact ⟨_, rfl, l, xs, rfl, .inl ⟨SqL.of e, fun t nt => fin t _ (Same.of_upd nt) upd_same⟩⟩
      · exact ⟨_, rfl, l, xs, rfl, .inr ⟨SqT.of e, fin l _ (Same.refl _) e⟩⟩
end
end WP

end
section
set_option autoImplicit false
set_option Elab.async false
set_option linter.all false
set_option maxRecDepth 100000
set_option maxHeartbeats 4000000
/-! ## fates on the heap; joins; what is seen from around -/
namespace WP
open PySem L2 G
abbrev sBJoin : Stmt := top 26
abbrev sTurned : Stmt := top 28
abbrev sSeen : Stmt := top 22
def ni (l : List Nat) : List V := (l.map fun n => ((n : Nat) : Int)).map V.int
theorem ni_len (l : List Nat) : (ni l).length = l.length := by
  unfold ni
  rw [List.length_map, List.length_map]
def FateAt (H : Hp) : M.Fate → V → Prop
  | .comes l, v => ∃ t L, v = .ref t ∧ H t = some (.tup [.str "comes", .ref L]) ∧ H L = some (.lst (ni l))
  | .told s p, v => ∃ t q, v = .ref t ∧ H t = some (.tup [.str "told", .int s, .ref q]) ∧ H q = some (.tup (ni p))
  | .silent p, v => ∃ t q, v = .ref t ∧ H t = some (.tup [.str "silent", .ref q]) ∧ H q = some (.tup (ni p))
theorem FateAt.mono {H H' : Hp} (s : Same H H') : ∀ {f : M.Fate} {v : V}, FateAt H f v → FateAt H' f v
  | .comes l, v, ⟨t, L, e, h1, h2⟩ => ⟨t, L, e, s _ _ h1, s _ _ h2⟩
  | .told z p, v, ⟨t, L, e, h1, h2⟩ => ⟨t, L, e, s _ _ h1, s _ _ h2⟩
  | .silent p, v, ⟨t, L, e, h1, h2⟩ => ⟨t, L, e, s _ _ h1, s _ _ h2⟩
theorem line2 : 2 ≤ sizeLine ∧ 3 ≤ sizeLine ∧ 1 ≤ sizeLine ∧ 0 ≤ sizeLine := by decide
theorem ret_silent {σ : St} {H : Hp} {Q : VK} (k : ∀ v H', Same H H' → FateAt H' (.silent []) v → Q v H') : tTup (tCons (tC (.str "silent")) (tCons (tTup tNil) tNil)) σ H Q :=
  ⟨line2.2.2.2, fun q hq => ⟨line2.1, fun t ht => k _ _ ((Same.of_upd hq).trans (Same.of_upd ht)) ⟨t, q, rfl, upd_same, Same.of_upd ht _ _ upd_same⟩⟩⟩
theorem ret_told {σ : St} {H : Hp} {Q : VK} {te : TE} {s : Int} (h : ∀ Q : VK, Q (.int s) H → te σ H Q) (k : ∀ v H', Same H H' → FateAt H' (.told s []) v → Q v H') : tTup (tCons (tC (.str "told")) (tCons te (tCons (tTup tNil) tNil))) σ H Q :=
  h _ ⟨line2.2.2.2, fun q hq => ⟨line2.2.1, fun t ht => k _ _ ((Same.of_upd hq).trans (Same.of_upd ht)) ⟨t, q, rfl, upd_same, Same.of_upd ht _ _ upd_same⟩⟩⟩
theorem sum_ni (l : List Nat) : (l.map fun n => ((n : Nat) : Int)).sum = ((l.sum : Nat) : Int) := by
  induction l with
  | nil => rfl
  | cons x l ih => rw [List.map_cons, List.sum_cons, List.sum_cons, ih]; omega
theorem catT_of {K : PySem.W.Frag} {H : Hp} {a b : Addr} {xs ys : List V} {Q : VK} (ha : H a = some (.tup xs)) (hb : H b = some (.tup ys)) (ne : xs ≠ []) (hl : xs.length + ys.length ≤ sizeLine) (k : ∀ u G, Same H G → G u = some (.tup (xs ++ ys)) → Q (.ref u) G) : rCatT K (.ref a) (.ref b) H Q :=
  ⟨a, b, xs, ys, rfl, rfl, SqT.of ha, SqT.of hb, ne, hl, fun e => k a H (Same.refl _) (by rw [e, List.append_nil]; exact ha), fun _ p hp => k p _ (Same.of_upd hp) upd_same⟩
def plen : M.Fate → Nat
  | .comes _ => 0
  | .told _ p => p.length
  | .silent p => p.length
section
variable {P : Program} {w : World} {K : PySem.W.Frag} {mg : Str → Option Value} {base : Heap} {C : Addr}
def spJoin : Sp := fun vs H Q _ => ∃ (t L : Addr) (most : Nat) (l : List Nat), vs = [.ref t, .ref L] ∧ H t = some (.tup [.str "join", .int (most : Int)]) ∧ H L = some (.lst (ni l)) ∧ ∀ v H', Same H H' → FateAt H' (M.join most l) v → Q v H'
theorem scJ : FnScope ["step", "stretches"] ["step", "stretches"] (defScope sBJoin) := ⟨rfl, rfl, rfl, by decide +kernel, rfl, by decide +kernel, by decide +kernel⟩
theorem ok_join {f : Addr} {fd : FuncData} (F : Fun K "_behind_join" "_behind_join" sBJoin f fd) (B : Bn mg) : FnOk P w K mg base CX0 1 f fd ["step", "stretches"] spJoin := by
  refine F.ok scJ (fun vs H Q E h => ?_) (fun cdv A outer s H vs Q E hr h => ?_)
  · obtain ⟨t, L, most, l, rfl, _⟩ := h
    rfl
  · obtain ⟨t, L, most, l, rfl, ht, hL, k⟩ := h
    refine ⟨_, pss_cons (ps_if (pt_cmpR op_gt (pe_callB call_len_seq (by rfl) B.len PySem.boot_len (pa_cons (pv 1) pa_nil)) (pe_ix ix_tup (pv 0) pe_int (fun _ _ => rfl)) (nomark _)) (pss_one (ps_ret (pe_tup (pa_cons pe_str (pa_cons (pe_tup pa_nil) pa_nil))))) pss_nil)
      (pss_one (ps_ret (pe_tup (pa_cons pe_str (pa_cons (pe_lst (pa_cons (pe_callB (cr_sum rfl) (by rfl) B.sum (by decide +kernel) (pa_cons (pv 1) pa_nil)) pa_nil)) pa_nil))))), ?_⟩
    refine ⟨_, rfl, L, _, rfl, .inl (SqL.of hL), _, rfl, t, _, _, _, rfl, rfl, SqT.of ht, (by exact atI_nat (xs := [V.str "join", V.int (most : Int)]) (j := 1) rfl), _, _, rfl, rfl, _, rfl, ?_⟩
    rw [ni_len]
    refine ite2 (fun c => ret_silent fun v H' s fa => k v H' s ?_) (fun c => ?_)
    · have c2 : (most : Int) < (l.length : Int) := of_decide_eq_true c
      unfold M.join
      rw [if_pos (by omega)]
      exact fa
    · have c2 : ¬ (most : Int) < (l.length : Int) := fun z => c (decide_eq_true z)
      refine ⟨_, rfl, L, _, rfl, SqL.of hL, ?_⟩
      rw [sum_ni]
      refine ⟨line2.2.2.1, fun a ha => ⟨line2.1, fun b hb => k _ _ ((Same.of_upd ha).trans (Same.of_upd hb)) ?_⟩⟩
      unfold M.join
      rw [if_neg (by omega)]
      exact ⟨b, a, rfl, upd_same, Same.of_upd hb _ _ upd_same⟩
/-- the end of an inner letter -/
def spTurned (C : Addr) : Sp := fun vs H Q _ => ∃ (v : V) (a : Addr) (fa : M.Fate) (wy : M.Way) (tw : M.TW), vs = [v, .ref a, .str (twS tw)] ∧ FateAt H fa v ∧ (∀ l, fa ≠ .comes l) ∧ WayAt C H wy a ∧ ∀ u H', Same H H' → FateAt H' (M.turned wy.head tw fa) u → Q u H'
theorem scTu : FnScope ["fate", "inner", "tells"] ["fate", "inner", "tells"] (defScope sTurned) := ⟨rfl, rfl, rfl, by decide +kernel, rfl, by decide +kernel, by decide +kernel⟩
theorem head_fld {H : Hp} {wy : M.Way} {a : Addr} (h : WayAt C H wy a) : ∃ dx fs, H a = some (.ins C dx fs) ∧ fs.lookup ("head" : Str) = some (.int ((wy.head : Nat) : Int)) := by
  obtain ⟨wh, ws⟩ := wy
  unfold WayAt at h
  obtain ⟨dx, t, xs, h1, _, _⟩ := h
  exact ⟨dx, _, h1, flds_head _ _ _ _⟩
theorem steps_fld {H : Hp} {wy : M.Way} {a : Addr} (h : WayAt C H wy a) : ∃ dx fs t xs, H a = some (.ins C dx fs) ∧ fs.lookup ("steps" : Str) = some (.ref t) ∧ H t = some (.tup xs) ∧ StepsAt C H wy.steps xs := by
  obtain ⟨wh, ws⟩ := wy
  unfold WayAt at h
  obtain ⟨dx, t, xs, h1, h2, h3⟩ := h
  exact ⟨dx, _, t, xs, h1, flds_steps _ _ _ _, h2, h3⟩
theorem fk : ("told" : Str) ≠ "silent" ∧ ("silent" : Str) ≠ "told" ∧ ("comes" : Str) ≠ "told" ∧ ("told" : Str) ≠ "comes" ∧ ("silent" : Str) ≠ "comes" := by decide +kernel
theorem tw_turn (t : M.TW) : decide (V.str (twS t) = V.str "turn") = decide (t = .turn) := by
  cases t
  · exact (decide_eq_true rfl).trans (decide_eq_true rfl).symm
  · exact (decide_eq_false fun z => absurd (V.str.inj z) (by decide +kernel)).trans (decide_eq_false fun z => by cases z).symm
  · exact (decide_eq_false fun z => absurd (V.str.inj z) (by decide +kernel)).trans (decide_eq_false fun z => by cases z).symm
theorem ok_turned {f : Addr} {fd : FuncData} (F : Fun K "_turned" "_turned" sTurned f fd) (T : Wt K mg C) : FnOk P w K mg base CX0 1 f fd ["fate", "inner", "tells"] (spTurned C) := by
  refine F.ok scTu (fun vs H Q E h => ?_) (fun cdv A outer s H vs Q E hr h => ?_)
  · obtain ⟨v, a, fa, wy, tw, rfl, _⟩ := h
    rfl
  · obtain ⟨v, a, fa, wy, tw, rfl, hfa, nc, hw, k⟩ := h
    refine ⟨_, pss_cons (ps_if (PW.pt (pw_and (pt_cmpR op_eq (pe_ix ix_tup (pv 0) pe_int (fun _ _ => rfl)) pe_str (nomark _)) (pw_and1 (pt_cmpR op_eq (pv 2) pe_str (nomark _)))))
        (pss_one (ps_ret (pe_tup (pa_cons pe_str (pa_cons (pe_op op_sub (pe_ix ix_tup (pv 0) pe_int (fun _ _ => rfl)) (pe_fld (pv 1) rfl)) (pa_cons (pe_ix ix_tup (pv 0) pe_int (fun _ _ => rfl)) pa_nil)))))) pss_nil)
      (pss_one (ps_ret (pe_tup (pa_cons pe_str (pa_cons (pe_ix ix_tup (pv 0) (pe_un un_neg pe_int) (fun _ _ => rfl)) pa_nil))))), ?_⟩
    have yes : ∀ {a : Str}, decide (V.str a = V.str a) = true := decide_eq_true rfl
    have no : ∀ {a b : Str}, a ≠ b → decide (V.str a = V.str b) = false := fun h => decide_eq_false fun z => h (V.str.inj z)
    obtain ⟨dx, fs, w1, w2⟩ := head_fld hw
    cases fa with
    | comes l => exact absurd rfl (nc l)
    | told z p =>
      obtain ⟨t, q, rfl, h1, h2⟩ := hfa
      have i0 : atI [V.str "told", V.int z, V.ref q] (0 : Int) = some (.str "told") := by exact atI_nat (j := 0) rfl
      have i1 : atI [V.str "told", V.int z, V.ref q] (1 : Int) = some (.int z) := by exact atI_nat (j := 1) rfl
      have i2 : atI [V.str "told", V.int z, V.ref q] (2 : Int) = some (.ref q) := by exact atI_nat (j := 2) rfl
      have im : atI [V.str "told", V.int z, V.ref q] (-1 : Int) = some (.ref q) := rfl
      refine ⟨_, rfl, t, _, _, _, rfl, rfl, SqT.of h1, i0, rfl, _, rfl, ?_⟩
      rw [yes]
      refine iteT ⟨_, rfl, rfl, _, rfl, ?_⟩
      rw [tw_turn]
      refine ite2 (fun c => ?_) (fun c => ?_)
      · have c2 : tw = .turn := of_decide_eq_true c
        refine ⟨_, rfl, t, _, _, _, rfl, rfl, SqT.of h1, i1, _, rfl, a, C, dx, fs, _, rfl, w1, T.cl, T.nH, w2, _, _, rfl, rfl, _, rfl, t, _, _, _, rfl, rfl, SqT.of h1, i2, line2.2.1, fun u hu => k _ _ (Same.of_upd hu) ?_⟩
        show FateAt _ (if tw = .turn then .told (z - wy.head) p else .silent p) _
        rw [if_pos c2]
        exact ⟨u, q, rfl, upd_same, Same.of_upd hu _ _ h2⟩
      · have c2 : tw ≠ .turn := fun z => c (decide_eq_true z)
        refine ⟨_, rfl, 1, rfl, t, _, _, _, rfl, rfl, SqT.of h1, im, line2.1, fun u hu => k _ _ (Same.of_upd hu) ?_⟩
        show FateAt _ (if tw = .turn then .told (z - wy.head) p else .silent p) _
        rw [if_neg c2]
        exact ⟨u, q, rfl, upd_same, Same.of_upd hu _ _ h2⟩
    | silent p =>
      obtain ⟨t, q, rfl, h1, h2⟩ := hfa
      have i0 : atI [V.str "silent", V.ref q] (0 : Int) = some (.str "silent") := by exact atI_nat (j := 0) rfl
      have im : atI [V.str "silent", V.ref q] (-1 : Int) = some (.ref q) := rfl
      refine ⟨_, rfl, t, _, _, _, rfl, rfl, SqT.of h1, i0, rfl, _, rfl, ?_⟩
      rw [no fk.2.1]
      refine iteF (iteF ⟨_, rfl, 1, rfl, t, _, _, _, rfl, rfl, SqT.of h1, im, line2.1, fun u hu => k _ _ (Same.of_upd hu) ?_⟩)
      exact ⟨u, q, rfl, upd_same, Same.of_upd hu _ _ h2⟩
/-- an end, seen from the way around the step -/
def spSeen : Sp := fun vs H Q _ => ∃ (v : V) (fa : M.Fate) (i : Nat), vs = [v, .int (i : Int)] ∧ FateAt H fa v ∧ plen fa ≤ 100 ∧ (∀ l, fa ≠ .comes l) ∧ ∀ u H', Same H H' → FateAt H' (M.seen i fa) u → Q u H'
theorem scSe : FnScope ["fate", "position"] ["fate", "position"] (defScope sSeen) := ⟨rfl, rfl, rfl, by decide +kernel, rfl, by decide +kernel, by decide +kernel⟩
def tSeen (K : PySem.W.Frag) : TE := tOp (rCatT K) (tSl (rSlT K) (tVar 0) (fun _ H Q => Q none H) (tPart (tUn (rU fun i => .int (-i)) (tC (.int 1))))) (tTup (tCons (tOp (rCatT K) (tTup (tCons (tVar 1) tNil)) (tOp (rIxT K) (tVar 0) (tUn (rU fun i => .int (-i)) (tC (.int 1))))) tNil))
theorem seen_run {H : Hp} {Q : VK} {i : Nat} (t q : Addr) (p : List Nat) (xs : List V) (ht : H t = some (.tup (xs ++ [.ref q]))) (hx : xs ≠ []) (hx2 : xs.length ≤ 2) (hq : H q = some (.tup (ni p))) (hp : p.length ≤ 100) (im : atI (xs ++ [V.ref q]) (-1 : Int) = some (.ref q)) (ec : cutV (xs ++ [V.ref q]) none (some (-1)) = xs)
    (en : HT.sIx (xs ++ [V.ref q]).length (xs ++ [V.ref q]).length (some (-1)) ≠ (xs ++ [V.ref q]).length) (kk : ∀ u r G, Same H G → G u = some (.tup (xs ++ [.ref r])) → G r = some (.tup (ni (i :: p))) → Q (.ref u) G) : tSeen K [some (.ref t), some (.int (i : Int))] H Q := by
  refine ⟨_, rfl, 1, rfl, -1, rfl, t, _, rfl, SqT.of ht, fun z => en z.2, fun a na => ?_⟩
  rw [ec]
  have s1 := Same.of_upd (o := .tup xs) na
  refine ⟨_, rfl, line2.2.2.1, fun b nb => ?_⟩
  have s2 := s1.trans (Same.of_upd (o := .tup [.int (i : Int)]) nb)
  refine ⟨_, rfl, 1, rfl, t, _, _, _, rfl, rfl, SqT.of (s2 _ _ ht), im, catT_of upd_same (s2 _ _ hq) (by simp) ?_ fun r G sr hr => ?_⟩
  · rw [ni_len]
    exact Nat.le_trans (by show 1 + p.length ≤ 101; omega) (by decide)
  · refine ⟨line2.2.2.1, fun d nd => catT_of ((Same.of_upd nd) _ _ (sr _ _ (Same.of_upd nb _ _ upd_same))) upd_same hx ?_ fun u G2 su hu => ?_⟩
    · exact Nat.le_trans (by show xs.length + 1 ≤ 3; omega) line2.2.1
    · exact kk u r G2 (s2.trans (sr.trans ((Same.of_upd nd).trans su))) hu (su _ _ (Same.of_upd nd _ _ hr))
theorem ok_seen {f : Addr} {fd : FuncData} (F : Fun K "_seen_from_way" "_seen_from_way" sSeen f fd) : FnOk P w K mg base CX0 1 f fd ["fate", "position"] spSeen := by
  refine F.ok scSe (fun vs H Q E h => ?_) (fun cdv A outer s H vs Q E hr h => ?_)
  · obtain ⟨v, fa, i, rfl, _⟩ := h
    rfl
  · obtain ⟨v, fa, i, rfl, hfa, pl, nc, k⟩ := h
    refine ⟨_, pss_one (ps_ret (pe_op op_catT (pe_slice sl_tup (pv 0) po_none (po_some (pe_un un_neg pe_int))) (pe_tup (pa_cons (pe_op op_catT (pe_tup (pa_cons (pv 1) pa_nil)) (pe_ix ix_tup (pv 0) (pe_un un_neg pe_int) (fun _ _ => rfl))) pa_nil)))), ?_⟩
    cases fa with
    | comes l => exact absurd rfl (nc l)
    | told z p =>
      obtain ⟨t, q, e, h1, h2⟩ := hfa
      subst e
      exact seen_run t q p [.str "told", .int z] h1 (by simp) (by simp) h2 pl rfl rfl (by show HT.sIx 3 3 (some (-1)) ≠ 3; decide) fun u r G sg h3 h4 => k _ _ sg ⟨u, r, rfl, h3, h4⟩
    | silent p =>
      obtain ⟨t, q, e, h1, h2⟩ := hfa
      subst e
      exact seen_run t q p [.str "silent"] h1 (by simp) (by simp) h2 pl rfl rfl (by show HT.sIx 2 2 (some (-1)) ≠ 2; decide) fun u r G sg h3 h4 => k _ _ sg ⟨u, r, rfl, h3, h4⟩
end
end WP

end
section
set_option autoImplicit false
set_option Elab.async false
set_option linter.all false
set_option maxRecDepth 100000
set_option maxHeartbeats 4000000
/-! ## cutting, roads -/
namespace WP
open PySem L2 G
abbrev sParts : Stmt := top 25
abbrev sBRoad : Stmt := top 24
theorem rs_of {x c : Nat} (c0 : 0 < c) : Builtin.Range.rangeSize 0 (x : Int) (c : Int) = (((x + c - 1) / c : Nat) : Int) := by
  rw [PyProof.Rows.rangeSize_pos (by omega) (by omega), show (x : Int) + (c : Int) - 1 = ((x + c - 1 : Nat) : Int) by omega, Int.natCast_ediv]
theorem rg_of {x c : Nat} (c0 : 0 < c) (c1 : c ≤ 1000000) (x1 : x ≤ 100000) : RgC 0 (x : Int) (c : Int) ((x + c - 1) / c) := by
  refine ⟨by omega, by omega, ?_, rs_of c0⟩
  have lt : (x + c - 1) / c ≤ x + c := Nat.le_trans (Nat.div_le_self _ _) (by omega)
  unfold Builtin.Range.small
  rw [rs_of c0]
  generalize (x + c - 1) / c = n at lt ⊢
  simp only [Builtin.Range.rangeFitsLong, Bool.and_eq_true, Bool.or_eq_true, decide_eq_true_eq, beq_iff_eq]
  split
  · refine ⟨by omega, .inr ?_⟩
    rw [Bool.and_eq_true, decide_eq_true_eq, decide_eq_true_eq]
    omega
  · omega
theorem inside {x c k : Nat} (c0 : 0 < c) (h : k < (x + c - 1) / c) : k * c < x := by
  have h2 := (Nat.le_div_iff_mul_le c0).mp h
  rw [Nat.succ_mul] at h2
  omega
section
variable {P : Program} {w : World} {K : PySem.W.Frag} {mg : Str → Option Value} {base : Heap} {C : Addr}
def spParts : Sp := fun vs H Q _ => ∃ x c : Nat, vs = [.int (x : Int), .int (c : Int)] ∧ 0 < c ∧ c ≤ 1000000 ∧ x ≤ 100000 ∧ ∀ L H', H L = none → Same H H' → H' L = some (.lst (ni (M.parts c x))) → Q (.ref L) H'
abbrev NP : List Str := ["stretch", "carried", "start"]
theorem scP : FnScope NP ["stretch", "carried"] (defScope sParts) := ⟨rfl, rfl, rfl, by decide +kernel, rfl, by decide +kernel, by decide +kernel⟩
theorem ok_parts {f : Addr} {fd : FuncData} (F : Fun K "_parts" "_parts" sParts f fd) (rng : mg "range" = none) (mn : mg "min" = none) : FnOk P w K mg base CX0 1 f fd ["stretch", "carried"] spParts := by
  refine F.ok scP (fun vs H Q E h => ?_) (fun cdv A outer s H vs Q E hr h => ?_)
  · obtain ⟨x, c, rfl, _⟩ := h
    rfl
  · obtain ⟨x, c, rfl, c0, c1, x1, k⟩ := h
    refine ⟨_, pss_one (ps_ret (pe_lc (own := [("start", 2)]) (g := gName 2) (tt := tYes) (te := tCB (fun xs H Q => ∃ i j, xs = [.int i, .int j] ∧ Q (.int (if j < i then j else i)) H) (tCons (tVar 1) (tCons (tOp (rI0 fun i j => .int (i - j)) (tVar 0) (tVar 2)) tNil))) rfl scP.nd (pi_range3 (by rfl) rng (pa_cons pe_int (pa_cons (pv 0) (pa_cons (pv 1) pa_nil)))) (blkOk_by (N := NP) (sc := defScope sParts) (by decide +kernel))
      (fun _ _ _ _ _ => pg_name (i := 2) scP.nd rfl (Or.inl rfl)) (fun _ _ _ _ _ => pts_nil) (fun _ _ _ _ _ => by exact pe_callB (call_min2 rfl) (by rfl) mn (by decide +kernel) (pa_cons (pv 1) (pa_cons (pe_op op_sub (pv 0) (pv 2)) pa_nil))))), ?_⟩
    have rg : RgC 0 (x : Int) (c : Int) ((x + c - 1) / c) := rg_of c0 c1 x1
    refine ⟨_, rfl, _, rfl, 0, (x : Int), (c : Int), _, rfl, rg, fun D nD => ?_⟩
    refine lc_it walk_rangeC (fun i G => Same H G ∧ G D = some (.lst (ni ((M.parts c x).take i)))) ⟨Same.of_upd nD, upd_same⟩ (fun i G _ p => trivial) ?_ ?_
    · rintro i v G G' hi ⟨s, hD⟩ ⟨rfl, rfl⟩
      have hk := inside c0 hi
      have lp : (M.parts c x).length = (x + c - 1) / c := by
        unfold M.parts
        rw [List.length_map, List.length_range]
      have e1 : (M.parts c x)[i]? = some (min c (x - i * c)) := by
        unfold M.parts
        rw [List.getElem?_map, List.getElem?_range hi]
        rfl
      have e2 : ((0 : Int) + (i : Nat) * (c : Int)) = ((i * c : Nat) : Int) := by rw [Int.zero_add, Int.natCast_mul]
      refine ⟨rfl, ?_⟩
      dsimp only
      rw [e2]
      refine ⟨_, rfl, _, rfl, _, rfl, _, _, rfl, rfl, _, _, rfl, _, hD, ?_, add_upd nD s, ?_⟩
      · rw [ni_len, List.length_take]
        exact Nat.lt_of_le_of_lt (Nat.le_trans (Nat.min_le_left _ _) (Nat.le_of_lt (Nat.lt_of_lt_of_le hi (Nat.le_trans (Nat.div_le_self _ _) (by omega : x + c - 1 ≤ 1100000))))) (by decide)
      · have e3 : (if ((x : Int) - ((i * c : Nat) : Int)) < (c : Int) then ((x : Int) - ((i * c : Nat) : Int)) else (c : Int)) = ((min c (x - i * c) : Nat) : Int) := by
          split <;> omega
        rw [take_snoc e1, e3, upd_same]
        unfold ni
        rw [List.map_append, List.map_append]
        rfl
    · rintro G ⟨s, hD⟩
      have e : (M.parts c x).take ((x + c - 1) / c) = M.parts c x := by
        apply List.take_of_length_le
        unfold M.parts
        rw [List.length_map, List.length_range]
        exact Nat.le_refl _
      rw [e] at hD
      exact k D G nD s hD
theorem len_sum : ∀ {l : List Nat}, (∀ x ∈ l, 0 < x) → l.length ≤ l.sum
  | [], _ => Nat.le_refl _
  | x :: l, h => by
    have h1 := h x List.mem_cons_self
    have h2 := len_sum (l := l) fun y hy => h y (List.mem_cons_of_mem _ hy)
    rw [List.length_cons, List.sum_cons]
    omega
theorem sum_take : ∀ (l : List Nat) (i : Nat), (l.take i).sum ≤ l.sum
  | [], i => by rw [List.take_nil]; exact Nat.le_refl _
  | x :: l, 0 => Nat.zero_le _
  | x :: l, i + 1 => by
    have := sum_take l i
    rw [List.take_succ_cons, List.sum_cons, List.sum_cons]
    omega
theorem mem_le_sum : ∀ {l : List Nat} {x : Nat}, x ∈ l → x ≤ l.sum
  | y :: l, x, h => by
    rw [List.sum_cons]
    rcases List.mem_cons.mp h with e | e
    · omega
    · have := mem_le_sum e
      omega
/-- the pieces of all stretches -/
def tCut (K : PySem.W.Frag) (E : XK) : TE := tLc2 (iList K (tVar 2)) (gName 10) tYes (iList K (tCall spParts [] E (tCons (tVar 10) (tCons (tVar 8) tNil)))) (gName 11) tYes (tVar 11) [10, 11] [11]
theorem ni_get {l : List Nat} {i : Nat} {v : V} (h : (ni l)[i]? = some v) : ∃ x, l[i]? = some x ∧ v = .int ((x : Nat) : Int) := by
  unfold ni at h
  rw [List.getElem?_map, List.getElem?_map] at h
  cases e : l[i]? with
  | none => rw [e] at h; cases h
  | some x => rw [e] at h; cases h; exact ⟨x, rfl, rfl⟩
theorem ni_app (l m : List Nat) : ni (l ++ m) = ni l ++ ni m := by
  unfold ni
  rw [List.map_append, List.map_append]
theorem ni_at {l : List Nat} {i : Nat} (h : i < l.length) : (ni l)[i]? = some (.int ((l[i] : Nat) : Int)) := by
  unfold ni
  rw [List.getElem?_map, List.getElem?_map, List.getElem?_eq_getElem h]
  rfl
theorem cut_run {E : XK} {H : Hp} {Q : VK} {a0 a1 a3 a4 a5 a6 a7 a9 a10 a11 : Option V} {L : Addr} {c : Nat} {l : List Nat} (hL : H L = some (.lst (ni l))) (c0 : 0 < c) (c1 : c ≤ 1000000) (hp : ∀ x ∈ l, 0 < x) (hs : l.sum ≤ 100000)
    (k : ∀ D H', Same H H' → H' D = some (.lst (ni (M.cutAll c l))) → Q (.ref D) H') : tCut K E [a0, a1, some (.ref L), a3, a4, a5, a6, a7, some (.int (c : Int)), a9, a10, a11] H Q := by
  refine ⟨_, rfl, L, rfl, ⟨_, SqL.of hL⟩, fun D nD => ?_⟩
  refine ⟨fun i m G => m = l.length - i ∧ i ≤ l.length ∧ Same H G ∧ G D = some (.lst (ni (M.cutAll c (l.take i)))), ⟨_, rfl, Nat.zero_le _, Same.of_upd nD, upd_same⟩, ?_⟩
  rintro i m G ⟨rfl, hi, s, hD⟩
  by_cases lt : i < l.length
  · refine .inr ⟨⟨ni l, _, SqL.of (s _ _ hL), ni_at lt⟩, fun G => i + 1 ≤ l.length ∧ Same H G ∧ G D = some (.lst (ni (M.cutAll c (l.take (i + 1))))), fun G' h => ⟨l.length - (i + 1), by omega, rfl, h.1, h.2.1, h.2.2⟩, ?_⟩
    rintro v G' ⟨rfl, hv⟩
    obtain ⟨x, hx, rfl⟩ := ni_get (hv _ (SqL.of (s _ _ hL)))
    have xm : x ∈ l := List.mem_of_getElem? hx
    have xp := hp x xm
    have x1 := mem_le_sum xm
    refine ⟨rfl, _, rfl, _, rfl, x, c, rfl, c0, c1, by omega, fun L1 G1 n1 s1 hL1 => ⟨L1, rfl, ⟨_, SqL.of hL1⟩, ?_⟩⟩
    have ne : L1 ≠ D := fun z => by rw [z, hD] at n1; cases n1
    refine ⟨fun j m2 G2 => m2 = (M.parts c x).length - j ∧ j ≤ (M.parts c x).length ∧ Same H G2 ∧ G2 L1 = some (.lst (ni (M.parts c x))) ∧ G2 D = some (.lst (ni (M.cutAll c (l.take i) ++ (M.parts c x).take j))), ⟨_, rfl, Nat.zero_le _, s.trans s1, hL1, by rw [List.take_zero, List.append_nil]; exact s1 _ _ hD⟩, ?_⟩
    rintro j m2 G2 ⟨rfl, hj, s2, h1, h2⟩
    by_cases lj : j < (M.parts c x).length
    · refine .inr ⟨⟨_, _, SqL.of h1, ni_at lj⟩, fun G3 => j + 1 ≤ (M.parts c x).length ∧ Same H G3 ∧ G3 L1 = some (.lst (ni (M.parts c x))) ∧ G3 D = some (.lst (ni (M.cutAll c (l.take i) ++ (M.parts c x).take (j + 1)))), fun G3 h => ⟨(M.parts c x).length - (j + 1), by omega, rfl, h.1, h.2.1, h.2.2.1, h.2.2.2⟩, ?_⟩
      rintro v G3 ⟨rfl, hv⟩
      obtain ⟨y, hy, rfl⟩ := ni_get (hv _ (SqL.of h1))
      refine ⟨rfl, _, rfl, _, h2, ?_, lj, add_upd nD s2, by rw [upd_ne ne]; exact h1, ?_⟩
      · rw [ni_len, List.length_append, List.length_take]
        have q1 : (M.cutAll c (l.take i)).length ≤ 100000 := by
          have hp2 : ∀ x ∈ l.take i, 0 < x := fun y hy => hp y (List.mem_of_mem_take hy)
          have z1 := M.cut_sum c0 hp2
          have z2 := sum_take l i
          refine Nat.le_trans (len_sum fun z hz => ?_) (by omega : (M.cutAll c (l.take i)).sum ≤ 100000)
          obtain ⟨u, hu, hz⟩ := List.mem_flatMap.mp hz
          exact (M.parts_pos c0 (hp2 u hu) z hz).1
        have q2 : (M.parts c x).length ≤ 100000 := Nat.le_trans (len_sum fun z hz => (M.parts_pos c0 xp z hz).1) (by rw [M.parts_sum c0 xp]; omega)
        exact Nat.lt_of_le_of_lt (by omega : _ ≤ 200000) (by decide)
      · rw [take_snoc hy, ← List.append_assoc, ni_app (_ ++ _), upd_same]
        rfl
    · refine .inl ⟨⟨_, SqL.of h1, by rw [ni_len]; omega⟩, lt, s2, ?_⟩
      have e : j = (M.parts c x).length := by omega
      rw [e, List.take_length] at h2
      rw [take_snoc hx]
      show G2 D = some (.lst (ni (List.flatMap (M.parts c) (l.take i ++ [x]))))
      rw [List.flatMap_append, List.flatMap_singleton]
      exact h2
  · refine .inl ⟨⟨_, SqL.of (s _ _ hL), by rw [ni_len]; omega⟩, ?_⟩
    have e : i = l.length := by omega
    rw [e, List.take_length] at hD
    exact k D G s hD
end
end WP

end
section
set_option autoImplicit false
set_option Elab.async false
set_option linter.all false
set_option maxRecDepth 100000
set_option maxHeartbeats 4000000
/-! ## a road -/
namespace WP
open PySem L2 G
section
variable {P : Program} {w : World} {K : PySem.W.Frag} {mg : Str → Option Value} {base : Heap} {C : Addr}
abbrev NR : List Str := ["way", "step", "stretches", "sealed", "_", "size", "sealed_word", "loose_word", "carried", "word", "stretch", "part"]
theorem scBR : FnScope NR ["way", "step", "stretches", "sealed"] (defScope sBRoad) := ⟨rfl, rfl, rfl, by decide +kernel, rfl, by decide +kernel, by decide +kernel⟩
def spBRoad (C : Addr) : Sp := fun vs H Q _ => ∃ (a t L : Addr) (se : Bool) (wy : M.Way) (size : Nat) (ts : Bool) (lw : M.LW) (b : Nat) (l : List Nat), vs = [.ref a, .ref t, .ref L, .bl se] ∧ WayAt C H wy a ∧ H t = some (.tup [.str "road", .int (size : Int), .str (sdS ts), .str (lwS lw)]) ∧
  H L = some (.lst (ni l)) ∧ M.Good b l ∧ b ≤ 100000 ∧ wy.head < size ∧ size ≤ 1000 ∧ ∀ v H', Same H H' → FateAt H' (M.road wy.head size ts lw se l) v → Q v H'
theorem sd_tell (b : Bool) : decide (V.str (sdS b) = V.str "cut") = false ∧ decide (V.str (sdS b) = V.str "tell") = b := by
  cases b
  · exact ⟨decide_eq_false fun z => absurd (V.str.inj z) (by decide +kernel), decide_eq_false fun z => absurd (V.str.inj z) (by decide +kernel)⟩
  · exact ⟨decide_eq_false fun z => absurd (V.str.inj z) (by decide +kernel), decide_eq_true rfl⟩
theorem lw_word (l : M.LW) : decide (V.str (lwS l) = V.str "cut") = decide (l = .cut) ∧ decide (V.str (lwS l) = V.str "tell") = decide (l = .tell) := by
  cases l
  · exact ⟨(decide_eq_true rfl).trans (decide_eq_true rfl).symm, (decide_eq_false fun z => absurd (V.str.inj z) (by decide +kernel)).trans (decide_eq_false fun z => by cases z).symm⟩
  · exact ⟨(decide_eq_false fun z => absurd (V.str.inj z) (by decide +kernel)).trans (decide_eq_false fun z => by cases z).symm, (decide_eq_true rfl).trans (decide_eq_true rfl).symm⟩
  · exact ⟨(decide_eq_false fun z => absurd (V.str.inj z) (by decide +kernel)).trans (decide_eq_false fun z => by cases z).symm, (decide_eq_false fun z => absurd (V.str.inj z) (by decide +kernel)).trans (decide_eq_false fun z => by cases z).symm⟩
theorem comes_of {te : TE} {σ : St} {H : Hp} {Q : VK} (h : te σ H fun x H1 => 2 ≤ sizeLine ∧ ∀ p, H1 p = none → Q (.ref p) (upd H1 p (.tup [.str "comes", x]))) : tTup (tCons (tC (.str "comes")) (tCons te tNil)) σ H Q := h
theorem ok_broad {f : Addr} {fd : FuncData} (F : Fun K "_behind_road" "_behind_road" sBRoad f fd) (B : Bn mg) (T : Wt K mg C) (WP : Df P w K mg base 1 "_parts" ["stretch", "carried"] spParts) : FnOk P w K mg base CX0 2 f fd ["way", "step", "stretches", "sealed"] (spBRoad C) := by
  obtain ⟨fP, fdP, GP, gP, kP, bP⟩ := WP.ex
  refine F.ok scBR (fun vs H Q E h => ?_) (fun cdv A outer s H vs Q E hr h => ?_)
  · obtain ⟨a, t, L, se, wy, size, ts, lw, b, l, rfl, _⟩ := h
    rfl
  · obtain ⟨a, t, L, se, wy, size, ts, lw, b, l, rfl, hw, ht, hL, gd, hb, h1, h2, k⟩ := h
    refine ⟨_, pss_cons (ps_asg (pv 1) (pg_tup (by rfl) (pgs_cons (pg_name (i := 4) scBR.nd rfl (.inl rfl)) (pgs_cons (pg_name (i := 5) scBR.nd rfl (.inl rfl)) (pgs_cons (pg_name (i := 6) scBR.nd rfl (.inl rfl)) (pgs_cons (pg_name (i := 7) scBR.nd rfl (.inl rfl)) pgs_nil))))))
      (pss_cons (ps_set (i := 8) scBR.nd rfl (Or.inr rfl) (pe_op op_sub (pv 5) (pe_fld (pv 0) rfl)))
      (pss_cons (ps_if (pt_cmpR op_le (pe_callB (cr_max rfl) (by rfl) B.max (by decide +kernel) (pa_cons (pv 2) pa_nil)) (pv 8) (nomark _)) (pss_one (ps_ret (pe_tup (pa_cons pe_str (pa_cons (pv 2) pa_nil))))) pss_nil)
      (pss_cons (ps_set (i := 9) scBR.nd rfl (Or.inl rfl) (pe_ifExp (pt_val (pv 3)) (pv 6) (pv 7)))
      (pss_cons (ps_if (pt_cmpR op_eq (pv 9) pe_str (nomark _)) (pss_one (ps_ret (pe_tup (pa_cons pe_str (pa_cons (pe_lc2 (own := [("stretch", 10), ("part", 11)]) (vs1 := [11]) (g := gName 10) (g1 := gName 11) (tt := tYes) (tt1 := tYes) (te := tVar 11) (wi1 := iList K (tCall spParts [] E (tCons (tVar 10) (tCons (tVar 8) tNil)))) rfl scBR.nd (pi_list (pv 2)) (blkOk_by (N := NR) (sc := defScope sBRoad) (by decide +kernel)) (by simp)
          (fun _ _ _ _ _ => pg_name (i := 10) scBR.nd rfl (Or.inl rfl)) (fun _ _ _ _ _ => pts_nil) (fun _ _ _ _ _ => by exact pi_list (pe_call GP hr rfl gP kP bP .nil pass0 (pa_cons (pv 10) (pa_cons (pv 8) pa_nil)))) (fun _ _ _ _ _ => pg_name (i := 11) scBR.nd rfl (Or.inl rfl)) (fun _ _ _ _ _ => pts_nil) (fun _ _ _ _ _ => by exact pv 11)) pa_nil))))) pss_nil)
      (pss_cons (ps_if (pt_cmpR op_eq (pv 9) pe_str (nomark _)) (pss_one (ps_ret (pe_tup (pa_cons pe_str (pa_cons (pv 5) (pa_cons (pe_tup pa_nil) pa_nil)))))) pss_nil)
      (pss_one (ps_ret (pe_tup (pa_cons pe_str (pa_cons (pe_tup pa_nil) pa_nil)))))))))), ?_⟩
    obtain ⟨dx, fs, w1, w2⟩ := head_fld hw
    refine ⟨_, rfl, t, _, rfl, SqT.of ht, rfl, _, _, rfl, _, _, rfl, _, _, rfl, _, _, rfl, rfl, ?_⟩
    refine ⟨_, rfl, _, rfl, a, C, dx, fs, _, rfl, w1, T.cl, T.nH, w2, _, _, rfl, rfl, ?_⟩
    dsimp only
    rw [show (size : Int) - ((wy.head : Nat) : Int) = ((size - wy.head : Nat) : Int) by omega]
    refine ⟨_, rfl, L, _, rfl, SqL.of hL, ?_, fun m hm hle => ⟨_, rfl, _, _, rfl, rfl, _, rfl, ite2 (fun c1 => ?_) (fun c1 => ?_)⟩⟩
    · rw [List.length_map]
      exact List.length_pos_iff.mpr gd.ne
    · have c2 : ∀ x ∈ l, x ≤ size - wy.head := fun x hx => by
        have z1 := hle ((x : Nat) : Int) (List.mem_map_of_mem hx)
        have z2 : m ≤ ((size - wy.head : Nat) : Int) := of_decide_eq_true c1
        omega
      refine ⟨_, rfl, line2.1, fun u hu => k _ _ (Same.of_upd hu) ?_⟩
      unfold M.road
      rw [if_pos c2]
      exact ⟨u, L, rfl, upd_same, Same.of_upd hu _ _ hL⟩
    · have c2 : ¬ ∀ x ∈ l, x ≤ size - wy.head := fun z => c1 (decide_eq_true (by
        obtain ⟨x, hx, e⟩ := List.mem_map.mp hm
        have := z x hx
        omega))
      have fate : ∀ v H', Same H H' → FateAt H' (if se then (if ts then .told (size : Int) [] else .silent []) else match lw with | .cut => .comes (M.cutAll (size - wy.head) l) | .tell => .told (size : Int) [] | .drop => .silent []) v → Q v H' := fun v H' s' fa => k v H' s' (by
        unfold M.road
        rw [if_neg c2]
        exact fa)
      unfold tNext
      dsimp only
      cases se with
      | true =>
        refine ⟨_, rfl, _, rfl, iteT ⟨_, rfl, ?_⟩⟩
        refine ⟨_, rfl, rfl, _, rfl, ?_⟩
        rw [(sd_tell ts).1]
        refine iteF ⟨_, rfl, rfl, _, rfl, ?_⟩
        rw [(sd_tell ts).2]
        cases ts with
        | true => exact iteT (ret_told (te := tVar 5) (s := (size : Int)) (fun Q h => ⟨_, rfl, h⟩) fate)
        | false => exact iteF (ret_silent fate)
      | false =>
        refine ⟨_, rfl, _, rfl, iteF ⟨_, rfl, ?_⟩⟩
        refine ⟨_, rfl, rfl, _, rfl, ?_⟩
        rw [(lw_word lw).1]
        cases lw with
        | cut =>
          have b0 : 0 < b := by
            rcases Nat.eq_zero_or_pos b with z | z
            · exfalso
              apply c2
              intro x hx
              rw [gd.zero z] at hx
              have : x = 0 := by simpa using hx
              omega
            · exact z
          refine iteT (comes_of (te := tCut K E) (cut_run hL (by omega) (by omega) (gd.pos b0) (by rw [gd.sum]; exact hb) fun D H' s' hD => ⟨line2.1, fun u hu => fate _ _ (s'.trans (Same.of_upd hu)) ⟨u, D, rfl, upd_same, Same.of_upd hu _ _ hD⟩⟩))
        | tell =>
          refine iteF ⟨_, rfl, rfl, _, rfl, ?_⟩
          rw [(lw_word .tell).2]
          exact iteT (ret_told (te := tVar 5) (s := (size : Int)) (fun Q h => ⟨_, rfl, h⟩) fate)
        | drop =>
          refine iteF ⟨_, rfl, rfl, _, rfl, ?_⟩
          rw [(lw_word .drop).2]
          exact iteF (ret_silent fate)
end
end WP

end
section
set_option autoImplicit false
set_option Elab.async false
set_option linter.all false
set_option maxRecDepth 100000
set_option maxHeartbeats 4000000
/-! ## tunnels: each stretch once -/
namespace M
def ddStep (acc : List Nat) (x : Nat) : List Nat := if x ∈ acc then acc else acc ++ [x]
def dd (l : List Nat) : List Nat := l.foldl ddStep []
section
variable {inner : Nat → Fate} {ih most : Nat} {t : TW} {L : List Nat}
def Passes (inner : Nat → Fate) (most : Nat) (x : Nat) : Prop := ∃ k, inner x = .comes k ∧ k.length ≤ most
theorem tunnel_skip {x : Nat} {r : List Nat} (h : Passes inner most x) : tunnel inner ih most t L (x :: r) = tunnel inner ih most t L r := by
  obtain ⟨k, e, hk⟩ := h
  conv => lhs; unfold tunnel
  rw [e]
  show (if k.length > most then _ else _) = _
  rw [if_neg (by omega)]
theorem tunnel_stop {x : Nat} {r s : List Nat} (h : ¬ Passes inner most x) : tunnel inner ih most t L (x :: r) = tunnel inner ih most t L (x :: s) := by
  unfold tunnel
  cases e : inner x with
  | comes k =>
    have hk : k.length > most := Nat.lt_of_not_le fun z => h ⟨k, e, z⟩
    show (if k.length > most then _ else _) = (if k.length > most then _ else _)
    rw [if_pos hk, if_pos hk]
  | told s p => rfl
  | silent p => rfl
theorem tunnel_pre : ∀ {a b : List Nat}, (∀ x ∈ a, Passes inner most x) → tunnel inner ih most t L (a ++ b) = tunnel inner ih most t L b
  | [], b, _ => rfl
  | x :: a, b, h => by
    rw [List.cons_append, tunnel_skip (h x List.mem_cons_self)]
    exact tunnel_pre fun y hy => h y (List.mem_cons_of_mem _ hy)
theorem tunnel_cut : ∀ {a b c : List Nat}, (¬ ∀ x ∈ a, Passes inner most x) → tunnel inner ih most t L (a ++ b) = tunnel inner ih most t L (a ++ c)
  | [], b, c, h => absurd (fun x hx => by cases hx) h
  | x :: a, b, c, h => by
    by_cases hx : Passes inner most x
    · rw [List.cons_append, List.cons_append, tunnel_skip hx, tunnel_skip hx]
      refine tunnel_cut fun z => h fun y hy => ?_
      rcases List.mem_cons.mp hy with e | e
      · exact e ▸ hx
      · exact z y e
    · rw [List.cons_append, List.cons_append]
      exact tunnel_stop hx
theorem dd_fold : ∀ (l acc : List Nat), tunnel inner ih most t L (l.foldl ddStep acc) = tunnel inner ih most t L (acc ++ l)
  | [], acc => by rw [List.append_nil]; rfl
  | x :: l, acc => by
    rw [List.foldl_cons, dd_fold l (ddStep acc x)]
    unfold ddStep
    split
    · rename_i hx
      by_cases h : ∀ y ∈ acc, Passes inner most y
      · rw [tunnel_pre h, tunnel_pre h, tunnel_skip (h x hx)]
      · exact tunnel_cut h
    · rw [List.append_assoc]
      rfl
theorem dd_tunnel (l : List Nat) : tunnel inner ih most t L (dd l) = tunnel inner ih most t L l := dd_fold l []
theorem dd_snoc (l : List Nat) (x : Nat) : dd (l ++ [x]) = ddStep (dd l) x := by
  unfold dd
  rw [List.foldl_append]
  rfl
theorem dd_mem_aux : ∀ (l acc : List Nat) (x : Nat), x ∈ l.foldl ddStep acc ↔ x ∈ acc ∨ x ∈ l
  | [], acc, x => by simp
  | y :: l, acc, x => by
    rw [List.foldl_cons, dd_mem_aux l]
    unfold ddStep
    split
    · rename_i hy
      rw [List.mem_cons]
      constructor
      · rintro (h | h)
        · exact .inl h
        · exact .inr (.inr h)
      · rintro (h | h | h)
        · exact .inl h
        · exact .inl (h ▸ hy)
        · exact .inr h
    · rw [List.mem_append, List.mem_singleton, List.mem_cons, or_assoc]
theorem dd_mem (l : List Nat) (x : Nat) : x ∈ dd l ↔ x ∈ l := (dd_mem_aux l [] x).trans (by simp)
end
end M
namespace WP
open PySem L2 G
def dk (l : List Nat) : List (Key × V) := l.map fun x => (Sum.inl ((x : Nat) : Int), V.bl true)
theorem dk_any (x : Nat) : ∀ l : List Nat, ((dk l).any fun kv => decide (kv.1 = (Sum.inl ((x : Nat) : Int) : Key))) = decide (x ∈ l)
  | [] => rfl
  | y :: l => by
    show (decide ((Sum.inl ((y : Nat) : Int) : Key) = Sum.inl ((x : Nat) : Int)) || (dk l).any fun kv => decide (kv.1 = (Sum.inl ((x : Nat) : Int) : Key))) = _
    rw [dk_any x l]
    by_cases h : x = y
    · subst h
      rw [decide_eq_true rfl, Bool.true_or, decide_eq_true List.mem_cons_self]
    · have e : decide ((Sum.inl ((y : Nat) : Int) : Key) = Sum.inl ((x : Nat) : Int)) = false := decide_eq_false fun z => h (by
        injection z with z
        omega)
      rw [e, Bool.false_or]
      by_cases q : x ∈ l
      · rw [decide_eq_true q, decide_eq_true (List.mem_cons_of_mem _ q)]
      · rw [decide_eq_false q, decide_eq_false fun z => (List.mem_cons.mp z).elim h q]
theorem dk_put (x : Nat) : ∀ l : List Nat, (dk l).map (fun kv => if kv.1 = (Sum.inl ((x : Nat) : Int) : Key) then (kv.1, V.bl true) else kv) = dk l
  | [] => rfl
  | y :: l => by
    show (if (Sum.inl ((y : Nat) : Int) : Key) = Sum.inl ((x : Nat) : Int) then (Sum.inl ((y : Nat) : Int), V.bl true) else (Sum.inl ((y : Nat) : Int), V.bl true)) :: _ = _ :: _
    rw [ite_self]
    exact congrArg _ (dk_put x l)
theorem put_dk (l : List Nat) (x : Nat) : putK (dk l) (Sum.inl ((x : Nat) : Int)) (V.bl true) = dk (M.ddStep l x) := by
  unfold putK M.ddStep
  rw [dk_any, dk_put]
  by_cases h : x ∈ l
  · rw [if_pos (decide_eq_true h), if_pos h]
  · rw [if_neg (fun z => h (of_decide_eq_true z)), if_neg h]
    unfold dk
    rw [List.map_append]
    rfl
theorem dd_len_aux : ∀ (l acc : List Nat), (l.foldl M.ddStep acc).length ≤ acc.length + l.length
  | [], acc => Nat.le_refl _
  | x :: l, acc => by
    rw [List.foldl_cons]
    refine Nat.le_trans (dd_len_aux l _) ?_
    unfold M.ddStep
    split <;> simp <;> omega
theorem dd_len (l : List Nat) : (M.dd l).length ≤ l.length := by
  have h := dd_len_aux l []
  rw [List.length_nil, Nat.zero_add] at h
  exact h
/-- each stretch once -/
def tDist (K : PySem.W.Frag) : TE := tDc (iList K (tVar 2)) (gName 9) tYes (tVar 9) (tC (.bl true)) [9]
theorem dist_run {K : PySem.W.Frag} {H : Hp} {Q : VK} {a0 a1 a3 a4 a5 a6 a7 a8 a9 a10 : Option V} {L : Addr} {l : List Nat} (hL : H L = some (.lst (ni l))) (hn : l.length ≤ 100000) (k : ∀ D H', H D = none → Same H H' → H' D = some (.dK (dk (M.dd l))) → Q (.ref D) H') :
    tDist K [a0, a1, some (.ref L), a3, a4, a5, a6, a7, a8, a9, a10] H Q := by
  refine ⟨_, rfl, L, rfl, ⟨_, SqL.of hL⟩, fun D nD => ?_⟩
  refine ⟨fun i m G => m = l.length - i ∧ i ≤ l.length ∧ Same H G ∧ G D = some (.dK (dk (M.dd (l.take i)))), ⟨_, rfl, Nat.zero_le _, Same.of_upd nD, upd_same⟩, ?_⟩
  rintro i m G ⟨rfl, hi, s, hD⟩
  by_cases lt : i < l.length
  · refine .inr ⟨⟨ni l, _, SqL.of (s _ _ hL), ni_at lt⟩, fun G => i + 1 ≤ l.length ∧ Same H G ∧ G D = some (.dK (dk (M.dd (l.take (i + 1))))), fun G' h => ⟨l.length - (i + 1), by omega, rfl, h.1, h.2.1, h.2.2⟩, ?_⟩
    rintro v G' ⟨rfl, hv⟩
    obtain ⟨x, hx, rfl⟩ := ni_get (hv _ (SqL.of (s _ _ hL)))
    refine ⟨rfl, _, rfl, _, Sum.inl ((x : Nat) : Int), rfl, hD, ?_, lt, add_upd nD s, ?_⟩
    · unfold dk
      rw [List.length_map]
      exact Nat.lt_of_le_of_lt (Nat.le_trans (dd_len _) (by rw [List.length_take]; omega : (l.take i).length ≤ 100000)) (by decide)
    · rw [put_dk, ← M.dd_snoc, ← take_snoc hx, upd_same]
  · refine .inl ⟨⟨_, SqL.of (s _ _ hL), by rw [ni_len]; omega⟩, ?_⟩
    have e : i = l.length := by omega
    rw [e, List.take_length] at hD
    exact k D G nD s hD
end WP

end
section
set_option autoImplicit false
set_option Elab.async false
set_option linter.all false
set_option maxRecDepth 100000
set_option maxHeartbeats 4000000
/-! ## a tunnel, by what a walk of its inner way tells -/
namespace M
theorem tunnel_at {inner : Nat → Fate} {ih most : Nat} {t : TW} {L l : List Nat} {i x : Nat} (hp : ∀ y ∈ (dd l).take i, Passes inner most y) (hx : (dd l)[i]? = some x) : tunnel inner ih most t L l = tunnel inner ih most t L (x :: (dd l).drop (i + 1)) := by
  obtain ⟨hi, ex⟩ := List.getElem?_eq_some_iff.mp hx
  have e : dd l = (dd l).take i ++ x :: (dd l).drop (i + 1) := by
    rw [← ex, ← List.drop_eq_getElem_cons hi, List.take_append_drop]
  rw [← dd_tunnel]
  have z := congrArg (tunnel inner ih most t L) e
  exact z.trans (tunnel_pre hp)
theorem tunnel_many {inner : Nat → Fate} {ih most : Nat} {t : TW} {L r m : List Nat} {x : Nat} (e : inner x = .comes m) (h : most < m.length) : tunnel inner ih most t L (x :: r) = .silent [] := by
  unfold tunnel
  rw [e]
  show (if m.length > most then _ else _) = _
  rw [if_pos h]
theorem tunnel_end {inner : Nat → Fate} {ih most : Nat} {t : TW} {L r : List Nat} {x : Nat} {f : Fate} (e : inner x = f) (h : ∀ m, f ≠ .comes m) : tunnel inner ih most t L (x :: r) = turned ih t f := by
  unfold tunnel
  rw [e]
  cases f with
  | comes m => exact absurd rfl (h m)
  | told s p => rfl
  | silent p => rfl
end M
namespace WP
open PySem L2 G
theorem iteNT {c A B : Prop} [Decidable c] (hc : ¬ c) (h : A) : if (!decide c) = true then A else B := by
  rw [decide_eq_false hc]
  exact iteT h
theorem FateAt.unlock {G : Hp} {D : Addr} {od : Obj} {u o : HO} (hD : G D = some (.frz od u)) : ∀ {f : M.Fate} {v : V}, FateAt G f v → FateAt (upd G D o) f v
  | .comes l, v, ⟨t, q, e, h1, h2⟩ => ⟨t, q, e, by rw [upd_ne fun z => by rw [z, hD] at h1; cases h1]; exact h1, by rw [upd_ne fun z => by rw [z, hD] at h2; cases h2]; exact h2⟩
  | .told s p, v, ⟨t, q, e, h1, h2⟩ => ⟨t, q, e, by rw [upd_ne fun z => by rw [z, hD] at h1; cases h1]; exact h1, by rw [upd_ne fun z => by rw [z, hD] at h2; cases h2]; exact h2⟩
  | .silent p, v, ⟨t, q, e, h1, h2⟩ => ⟨t, q, e, by rw [upd_ne fun z => by rw [z, hD] at h1; cases h1]; exact h1, by rw [upd_ne fun z => by rw [z, hD] at h2; cases h2]; exact h2⟩
abbrev sBTun : Stmt := top 27
/-- name = {..} on one line, the name a local -/
theorem swd_true {kx vx : Expr} {gs : List Comprehension} {sc : Scope} {pos p2 : Pos} {y : Str} {ln : Nat} {env : Env} (e1 : env.scope.kind = .function) (e2 : env.scope.names.lookup y = some .local) (e3 : (p2.line == pos.line) = true)
    (e4 : (sc.names.any fun (n, k) => n == y && (k == .local || k == .cell)) = false) : swapsWith (.DictComp kx vx gs sc pos) (some (.Name y p2)) ln env = pure true := by
  have q1 : env.kindOf y = some .local := e2
  have q2 : env.blockKind = .function := by unfold Env.blockKind; rw [e1]; rfl
  unfold swapsWith
  simp only [q2, q1, e4, Expr.pos, e3]
  rfl
theorem ps_setDc {X : Cx} {i : Nat} {y : Str} {p2 : Pos} {kx vx tg iter : Expr} {ifs : List Expr} {sc : Scope} {own : List (Str × Nat)} {pos spos : Pos} {wi : TI} {g : TG} {tt : TT} {tk tv : TE} (hc : X.calm = true) (hN : X.N.Nodup) (hy : X.N[i]? = some y) (hl : X.env.scope.names.lookup y = some .local)
    (sw : swapsWith (.DictComp kx vx [⟨tg, iter, ifs, 0⟩] sc pos) (some (.Name y p2)) spos.line X.env = pure true) (hi : PI X tg iter wi) (ok : BlkOk X.N X.env.scope sc own)
    (hg : ∀ (u : Shared) (G : Hp) (c : Addr) (cs : List (Str × Addr)) (fp : List Addr), PG (X.blk u G sc (compEnvC sc cs c X.env) fp) tg g) (ht : ∀ (u : Shared) (G : Hp) (c : Addr) (cs : List (Str × Addr)) (fp : List Addr), PTs (X.blk u G sc (compEnvC sc cs c X.env) fp) ifs tt)
    (hk : ∀ (u : Shared) (G : Hp) (c : Addr) (cs : List (Str × Addr)) (fp : List Addr), PE (X.blk u G sc (compEnvC sc cs c X.env) fp) kx tk) (hv : ∀ (u : Shared) (G : Hp) (c : Addr) (cs : List (Str × Addr)) (fp : List Addr), PE (X.blk u G sc (compEnvC sc cs c X.env) fp) vx tv) (hs : ∀ x, foldedSetIterable iter X.env x = pure x := by intro _; rfl) :
    PS X (.Assign [.Name y p2] (.DictComp kx vx [⟨tg, iter, ifs, 0⟩] sc pos) spos) (tAsg (tDc wi g tt tk tv (own.map (·.2))) (gName i)) := by
  constructor
  intro pins s σ H D I h
  rw [exec_Assign_Name_used _ _ _ _ sw]
  refine wpAny_bind (wpAny_standAt (s := s) (wpAny_bind ?_))
  show wpAny _ X.A (do let _ ← comprehension (.DictComp kx vx [⟨tg, iter, ifs, 0⟩] sc pos) sc X.env (firstIterPos [⟨tg, iter, ifs, 0⟩] pos) newDict false (eval iter X.env) (some (assign (.Name y p2) X.env))) _ _ s
  have h2 : tDc wi g tt tk tv (own.map (·.2)) σ H (fun x H1 => gName i x σ H1 D.nx) := h
  refine wpAny_bind (thn (dc_core (Qf := fun _ u => SP X pins D .next u) hc hN I hi ok hg ht hk hv hs h2 fun L c u m G I2 q hn f => ?_) fun _ _ hq => wpAny_pure (wpAny_pure hq))
  show wpAny _ _ (assign (.Name y p2) X.env (.ref L)) _ _ _
  refine wpAny_assign_Name (store_ok2 (v := V.ref L) I2 hN hy (.inl hl) rfl (fun s2 I3 ⟨a, sb, ha⟩ => ?_) (.inr hl))
  have ⟨f0, f1, f2, f3, f4, f5⟩ := f
  have ne : c ≠ a := ha.elim (fun z => by rw [z]; exact f1) fun z e => f4 y a z e.symm
  exact ⟨m, hn.sameBut sb ne, fun h3 sb3 => ⟨_, G, I3.turned (t' := s2.toks) (fun b o hb e => (sb3.2 b hb).trans e) f0 f1 f3 f4 f5, q⟩⟩
section
variable {P : Program} {w : World} {K : PySem.W.Frag} {mg : Str → Option Value} {base : Heap} {C : Addr}
/-- a walk of a way of a depth up to n -/
def spWalked (C : Addr) (n : Nat) : Sp := fun vs H Q _ => ∃ (a : Addr) (b : Nat) (se : Bool) (wy : M.Way), vs = [.ref a, .int (b : Int), .bl se] ∧ WayAt C H wy a ∧ M.Way.fine wy ∧ wy.depth ≤ n ∧ b + 40 * n ≤ 100000 ∧ ∀ v H', Same H H' → FateAt H' (M.Way.walk se wy b) v → Q v H'
def spBTun (C : Addr) (n : Nat) : Sp := fun vs H Q _ => ∃ (a t L ai : Addr) (se : Bool) (wy wi : M.Way) (most : Nat) (tw : M.TW) (l : List Nat), vs = [.ref a, .ref t, .ref L, .bl se] ∧ WayAt C H wy a ∧ H t = some (.tup [.str "tunnel", .ref ai, .int (most : Int), .str (twS tw)]) ∧ WayAt C H wi ai ∧
  M.Way.fine wi ∧ wi.depth ≤ n ∧ H L = some (.lst (ni l)) ∧ l.length ≤ 100000 ∧ (∀ x ∈ l, wy.head + x + 40 * n ≤ 100000) ∧ ∀ v H', Same H H' → FateAt H' (M.tunnel (fun x => M.Way.walk se wi (wy.head + x)) wi.head most tw l l) v → Q v H'
abbrev NT : List Str := ["way", "step", "stretches", "sealed", "_", "inner", "most", "tells", "distinct", "stretch", "fate"]
theorem scBT : FnScope NT ["way", "step", "stretches", "sealed"] (defScope sBTun) := ⟨rfl, rfl, rfl, by decide +kernel, rfl, by decide +kernel, by decide +kernel⟩
theorem ok_btun {k n : Nat} {f : Addr} {fd : FuncData} (F : Fun K "_behind_tunnel" "_behind_tunnel" sBTun f fd) (B : Bn mg) (T : Wt K mg C) (hk : 1 ≤ k) (WW : Df P w K mg base k "_walked" ["way", "body", "sealed"] (spWalked C n)) (WT : Df P w K mg base 1 "_turned" ["fate", "inner", "tells"] (spTurned C)) :
    FnOk P w K mg base CX0 (k + 1) f fd ["way", "step", "stretches", "sealed"] (spBTun C n) := by
  obtain ⟨fW, fdW, GW, gW, kW, bW⟩ := WW.ex
  obtain ⟨fT, fdT, GT, gT, kT, bT⟩ := WT.ex
  refine F.ok scBT (fun vs H Q E h => ?_) (fun cdv A outer s H vs Q E hr h => ?_)
  · obtain ⟨a, t, L, ai, se, wy, wi, most, tw, l, rfl, _⟩ := h
    rfl
  · obtain ⟨a, t, L, ai, se, wy, wi, most, tw, l, rfl, hw, ht, hwi, hf, hd, hL, hn, hb, kk⟩ := h
    have r1 := hr.mono hk
    refine ⟨_, pss_cons (ps_asg (pv 1) (pg_tup (by rfl) (pgs_cons (pg_name (i := 4) scBT.nd rfl (.inl rfl)) (pgs_cons (pg_name (i := 5) scBT.nd rfl (.inl rfl)) (pgs_cons (pg_name (i := 6) scBT.nd rfl (.inl rfl)) (pgs_cons (pg_name (i := 7) scBT.nd rfl (.inl rfl)) pgs_nil))))))
      (pss_cons (ps_setDc (i := 8) (own := [("stretch", 9)]) (g := gName 9) (tt := tYes) (tk := tVar 9) (tv := tC (.bl true)) rfl scBT.nd rfl rfl (swd_true rfl rfl rfl (by decide +kernel)) (pi_list (pv 2)) (blkOk_by (N := NT) (sc := defScope sBTun) (by decide +kernel))
          (fun _ _ _ _ _ => pg_name (i := 9) scBT.nd rfl (Or.inl rfl)) (fun _ _ _ _ _ => pts_nil) (fun _ _ _ _ _ => by exact pv 9) (fun _ _ _ _ _ => by exact pe_bl))
      (pss_cons (ps_lock (ps_for PassesOwn.never rfl (pi_keys (pv 8)) (pg_name (i := 9) scBT.nd rfl (Or.inl rfl))
        (pss_cons (ps_set (i := 10) scBT.nd rfl (Or.inl rfl) (pe_call GW hr rfl gW kW bW .nil pass0 (pa_cons (pv 5) (pa_cons (pe_op op_add (pe_fld (pv 0) rfl) (pv 9)) (pa_cons (pv 3) pa_nil)))))
        (pss_cons (ps_if (pt_cmpR op_ne (pe_ix ix_tup (pv 10) pe_int (fun _ _ => rfl)) pe_str (nomark _)) (pss_one (ps_ret (pe_call GT r1 rfl gT kT bT .nil pass0 (pa_cons (pv 10) (pa_cons (pv 5) (pa_cons (pv 7) pa_nil)))))) pss_nil)
        (pss_one (ps_if (pt_cmpR op_gt (pe_callB call_len_seq (by rfl) B.len PySem.boot_len (pa_cons (pe_ix ix_tup (pv 10) pe_int (fun _ _ => rfl)) pa_nil)) (pv 6) (nomark _)) (pss_one (ps_ret (pe_tup (pa_cons pe_str (pa_cons (pe_tup pa_nil) pa_nil))))) pss_nil))))))
      (pss_one (ps_ret (pe_tup (pa_cons pe_str (pa_cons (pv 2) pa_nil))))))), ?_⟩
    obtain ⟨dx, fs, w1, w2⟩ := head_fld hw
    refine ⟨_, rfl, t, _, rfl, SqT.of ht, rfl, _, _, rfl, _, _, rfl, _, _, rfl, _, _, rfl, rfl, ?_⟩
    dsimp only
    refine set_then (te := tDist K) (i := 8) ?_
    refine dist_run (l := l) hL hn fun D H1 nD s1 hD => ?_
    refine ⟨D, _, hD, trivial, fun od => ?_⟩
    refine ⟨_, rfl, D, od, rfl, .inl ⟨_, upd_same, ?_⟩⟩
    have S0 : Same H (upd H1 D (.frz od (.dK (dk (M.dd l))))) := add_upd nD s1
    have ld : (dk (M.dd l)).length = (M.dd l).length := by
      unfold dk
      rw [List.length_map]
    refine for_it walk_keys (fun i σ G => Same H G ∧ G D = some (.frz od (.dK (dk (M.dd l)))) ∧ (∀ x ∈ (M.dd l).take i, M.Passes (fun x => M.Way.walk se wi (wy.head + x)) most x) ∧ ∃ p q, σ = [some (.ref a), some (.ref t), some (.ref L), some (.bl se), some (.str "tunnel"), some (.ref ai), some (.int (most : Int)), some (.str (twS tw)), some (.ref D), p, q]) ⟨S0, upd_same, by simp, _, _, rfl⟩ (fun i σ G _ z => z.2.1) ?_ ?_
    · rintro i v σ G G' hi ⟨s2, hD2, hp, p, q, rfl⟩ ⟨rfl, kx, vx, hget, rfl⟩
      obtain ⟨x, hx, rfl⟩ : ∃ x, (M.dd l)[i]? = some x ∧ kx = Sum.inl ((x : Nat) : Int) := by
        unfold dk at hget
        rw [List.getElem?_map] at hget
        cases e : (M.dd l)[i]? with
        | none => rw [e] at hget; cases hget
        | some x => rw [e] at hget; cases hget; exact ⟨x, rfl, rfl⟩
      have xm : x ∈ l := (M.dd_mem l x).mp (List.mem_of_getElem? hx)
      have at0 := M.tunnel_at (ih := wi.head) (t := tw) (L := l) hp hx
      refine ⟨_, rfl, _, rfl, a, C, dx, fs, _, rfl, s2 _ _ w1, T.cl, T.nH, w2, _, rfl, _, _, rfl, rfl, _, rfl, ?_⟩
      refine ⟨ai, wy.head + x, se, wi, by rw [Int.natCast_add]; rfl, hwi.mono s2, hf, hd, hb x xm, fun v G1 s3 fa => ?_⟩
      have s4 := s2.trans s3
      have hD3 := s3 _ _ hD2
      have fin : ∀ (f : M.Fate), M.tunnel (fun x => M.Way.walk se wi (wy.head + x)) wi.head most tw l l = f → ∀ u G2, Same G1 G2 → FateAt G2 f u → G2 D = some (.frz od (.dK (dk (M.dd l)))) ∧ Q u (upd G2 D (.dK (dk (M.dd l)))) := fun f ef u G2 s5 fu =>
        ⟨s5 _ _ hD3, kk u _ (add_upd nD (s4.trans s5)) (by rw [ef]; exact fu.unlock (s5 _ _ hD3))⟩
      dsimp only
      generalize hfz : M.Way.walk se wi (wy.head + x) = fz at fa
      cases fz with
      | comes m =>
        obtain ⟨u, Lm, rfl, f1, f2⟩ := fa
        have i0 : atI [V.str "comes", V.ref Lm] (0 : Int) = some (.str "comes") := by exact atI_nat (j := 0) rfl
        have i1 : atI [V.str "comes", V.ref Lm] (1 : Int) = some (.ref Lm) := by exact atI_nat (j := 1) rfl
        refine ⟨_, rfl, u, _, _, _, rfl, rfl, SqT.of f1, i0, rfl, _, rfl, iteNS rfl ?_⟩
        refine ⟨_, rfl, u, _, _, _, rfl, rfl, SqT.of f1, i1, Lm, _, rfl, .inl (SqL.of f2), _, rfl, _, _, rfl, rfl, _, rfl, ?_⟩
        rw [ni_len]
        refine ite2 (fun c => ?_) (fun c => ?_)
        · have c2 : (most : Int) < (m.length : Int) := of_decide_eq_true c
          exact ret_silent fun v G2 s5 fv => fin _ (at0.trans (M.tunnel_many hfz (by omega))) v G2 s5 fv
        · have c2 : ¬ (most : Int) < (m.length : Int) := fun z => c (decide_eq_true z)
          refine ⟨s4, hD3, fun y hy => ?_, _, _, rfl⟩
          rw [take_snoc hx] at hy
          rcases List.mem_append.mp hy with z | z
          · exact hp y z
          · have e : y = x := by simpa using z
            exact e ▸ ⟨m, hfz, by omega⟩
      | told z p2 =>
        have nc : ∀ m, M.Fate.told z p2 ≠ .comes m := fun m e => by cases e
        have fa2 := fa
        obtain ⟨u, q2, rfl, f1, f2⟩ := fa
        have i0 : atI [V.str "told", V.int z, V.ref q2] (0 : Int) = some (.str "told") := by exact atI_nat (j := 0) rfl
        refine ⟨_, rfl, u, _, _, _, rfl, rfl, SqT.of f1, i0, rfl, _, rfl, iteNT (fun e => fk.2.2.2.1 (V.str.inj e)) ?_⟩
        exact ⟨_, rfl, _, rfl, _, rfl, _, ai, _, wi, tw, rfl, fa2, nc, hwi.mono s4, fun v G2 s5 fv => fin _ (at0.trans (M.tunnel_end hfz nc)) v G2 s5 fv⟩
      | silent p2 =>
        have nc : ∀ m, M.Fate.silent p2 ≠ .comes m := fun m e => by cases e
        have fa2 := fa
        obtain ⟨u, q2, rfl, f1, f2⟩ := fa
        have i0 : atI [V.str "silent", V.ref q2] (0 : Int) = some (.str "silent") := by exact atI_nat (j := 0) rfl
        refine ⟨_, rfl, u, _, _, _, rfl, rfl, SqT.of f1, i0, rfl, _, rfl, iteNT (fun e => fk.2.2.2.2 (V.str.inj e)) ?_⟩
        exact ⟨_, rfl, _, rfl, _, rfl, _, ai, _, wi, tw, rfl, fa2, nc, hwi.mono s4, fun v G2 s5 fv => fin _ (at0.trans (M.tunnel_end hfz nc)) v G2 s5 fv⟩
    · rintro σ G ⟨s2, hD2, hp, p, q, rfl⟩
      refine ⟨hD2, _, rfl, line2.1, fun u hu => kk _ _ ((add_upd nD s2).trans (Same.of_upd hu)) ?_⟩
      have e : M.tunnel (fun x => M.Way.walk se wi (wy.head + x)) wi.head most tw l l = .comes l := M.tunnel_pass fun x hx => by
        have := (M.dd_mem l x).mpr hx
        rw [ld, List.take_length] at hp
        exact hp x this
      rw [e]
      exact ⟨u, L, rfl, upd_same, Same.of_upd hu _ _ (add_upd nD s2 _ _ hL)⟩
end
end WP

end
section
set_option autoImplicit false
set_option Elab.async false
set_option linter.all false
set_option maxRecDepth 100000
set_option maxHeartbeats 4000000
/-! ## one step -/
namespace M
def Step.dep : Step → Nat
  | .tunnel w _ _ => w.depth
  | .road _ _ _ => 0
  | .join _ => 0
theorem good_len {b : Nat} {l : List Nat} (g : Good b l) (h : b ≤ 100000) : l.length ≤ 100000 := by
  rcases Nat.eq_zero_or_pos b with z | z
  · rw [g.zero z]
    decide
  · have := WP.len_sum (g.pos z)
    rw [g.sum] at this
    omega
theorem good_le {b : Nat} {l : List Nat} (g : Good b l) : ∀ x ∈ l, x ≤ b := fun x hx => by
  have := WP.mem_le_sum hx
  rw [g.sum] at this
  exact this
end M
namespace WP
open PySem L2 G
abbrev sBStep : Stmt := top 23
section
variable {P : Program} {w : World} {K : PySem.W.Frag} {mg : Str → Option Value} {base : Heap} {C : Addr}
def spBStep (C : Addr) (n : Nat) : Sp := fun vs H Q _ => ∃ (a L : Addr) (x : V) (se : Bool) (wy : M.Way) (st : M.Step) (b : Nat) (l : List Nat), vs = [.ref a, x, .ref L, .bl se] ∧ WayAt C H wy a ∧ StepAt C H st x ∧ M.Step.fine wy.head st ∧ M.Step.dep st ≤ n ∧ wy.head ≤ 40 ∧ H L = some (.lst (ni l)) ∧ M.Good b l ∧ b + 40 * (n + 1) ≤ 100000 ∧
  ∀ v H', Same H H' → FateAt H' (M.Step.does se wy.head st l) v → Q v H'
theorem scBS : FnScope ["way", "step", "stretches", "sealed"] ["way", "step", "stretches", "sealed"] (defScope sBStep) := ⟨rfl, rfl, rfl, by decide +kernel, rfl, by decide +kernel, by decide +kernel⟩
theorem ok_bstep {k n : Nat} {f : Addr} {fd : FuncData} (F : Fun K "_behind_step" "_behind_step" sBStep f fd) (hk : 2 ≤ k) (WR : Df P w K mg base 2 "_behind_road" ["way", "step", "stretches", "sealed"] (spBRoad C)) (WJ : Df P w K mg base 1 "_behind_join" ["step", "stretches"] spJoin) (WT : Df P w K mg base k "_behind_tunnel" ["way", "step", "stretches", "sealed"] (spBTun C n)) :
    FnOk P w K mg base CX0 (k + 1) f fd ["way", "step", "stretches", "sealed"] (spBStep C n) := by
  obtain ⟨fR, fdR, GR, gR, kR, bR⟩ := WR.ex
  obtain ⟨fJ, fdJ, GJ, gJ, kJ, bJ⟩ := WJ.ex
  obtain ⟨fT, fdT, GT, gT, kT, bT⟩ := WT.ex
  refine F.ok scBS (fun vs H Q E h => ?_) (fun cdv A outer s H vs Q E hr h => ?_)
  · obtain ⟨a, L, x, se, wy, st, b, l, rfl, _⟩ := h
    rfl
  · obtain ⟨a, L, x, se, wy, st, b, l, rfl, hw, hst, hf, hd, h40, hL, gd, hb, kk⟩ := h
    refine ⟨_, pss_cons (ps_if (pt_cmpR op_eq (pe_ix ix_tup (pv 1) pe_int (fun _ _ => rfl)) pe_str (nomark _)) (pss_one (ps_ret (pe_call GR (hr.mono hk) rfl gR kR bR .nil pass0 (pa_cons (pv 0) (pa_cons (pv 1) (pa_cons (pv 2) (pa_cons (pv 3) pa_nil))))))) pss_nil)
      (pss_cons (ps_if (pt_cmpR op_eq (pe_ix ix_tup (pv 1) pe_int (fun _ _ => rfl)) pe_str (nomark _)) (pss_one (ps_ret (pe_call GJ (hr.mono (by omega)) rfl gJ kJ bJ .nil pass0 (pa_cons (pv 1) (pa_cons (pv 2) pa_nil))))) pss_nil)
      (pss_one (ps_ret (pe_call GT hr rfl gT kT bT .nil pass0 (pa_cons (pv 0) (pa_cons (pv 1) (pa_cons (pv 2) (pa_cons (pv 3) pa_nil)))))))), ?_⟩
    have yes : ∀ {a : Str}, decide (V.str a = V.str a) = true := decide_eq_true rfl
    have no : ∀ {a b : Str}, a ≠ b → decide (V.str a = V.str b) = false := fun h => decide_eq_false fun z => h (V.str.inj z)
    have z1 : ∀ {y0 : V} {ys : List V}, atI (y0 :: ys) (0 : Int) = some y0 := fun {y0 ys} => by exact atI_nat (xs := y0 :: ys) (j := 0) rfl
    cases st with
    | road size ts lw =>
      unfold M.Step.does at kk
      unfold StepAt at hst
      unfold M.Step.fine at hf
      obtain ⟨t, rfl, ht⟩ := hst
      refine ⟨_, rfl, t, _, _, _, rfl, rfl, SqT.of ht, z1, rfl, _, rfl, ?_⟩
      rw [yes]
      exact iteT ⟨_, rfl, _, rfl, _, rfl, _, rfl, a, t, L, se, wy, size, ts, lw, b, l, rfl, hw, ht, hL, gd, by omega, hf.1, hf.2, kk⟩
    | join most =>
      unfold M.Step.does at kk
      unfold StepAt at hst
      obtain ⟨t, rfl, ht⟩ := hst
      refine ⟨_, rfl, t, _, _, _, rfl, rfl, SqT.of ht, z1, rfl, _, rfl, ?_⟩
      rw [no kinds.2.2.2.1]
      refine iteF ⟨_, rfl, t, _, _, _, rfl, rfl, SqT.of ht, z1, rfl, _, rfl, ?_⟩
      rw [yes]
      exact iteT ⟨_, rfl, _, rfl, t, L, most, l, rfl, ht, hL, kk⟩
    | tunnel wi most tw =>
      unfold M.Step.does at kk
      unfold StepAt at hst
      unfold M.Step.fine at hf
      obtain ⟨t, ai, rfl, ht, hwi⟩ := hst
      refine ⟨_, rfl, t, _, _, _, rfl, rfl, SqT.of ht, z1, rfl, _, rfl, ?_⟩
      rw [no kinds.2.2.2.2.1]
      refine iteF ⟨_, rfl, t, _, _, _, rfl, rfl, SqT.of ht, z1, rfl, _, rfl, ?_⟩
      rw [no kinds.2.2.2.2.2]
      refine iteF ⟨_, rfl, _, rfl, _, rfl, _, rfl, a, t, L, ai, se, wy, wi, most, tw, l, rfl, hw, ht, hwi, hf.1, hd, hL, M.good_len gd (by omega), fun x hx => ?_, kk⟩
      have := M.good_le gd x hx
      omega
end
end WP

end
section
set_option autoImplicit false
set_option Elab.async false
set_option linter.all false
set_option maxRecDepth 100000
set_option maxHeartbeats 4000000
/-! ## a whole way -/
namespace M
open WP (plen)
theorem plen_tunnel {inner : Nat → Fate} {ih most d : Nat} {t : TW} {L : List Nat} (h : ∀ x, plen (inner x) ≤ d) : ∀ r : List Nat, plen (tunnel inner ih most t L r) ≤ d
  | [] => Nat.zero_le _
  | x :: r => by
    unfold tunnel
    have hx := h x
    cases e : inner x with
    | comes m =>
      show plen (if m.length > most then .silent [] else tunnel inner ih most t L r) ≤ d
      split
      · exact Nat.zero_le _
      · exact plen_tunnel h r
    | told s p =>
      rw [e] at hx
      show plen (if t = .turn then .told (s - ih) p else .silent p) ≤ d
      split <;> exact hx
    | silent p =>
      rw [e] at hx
      exact hx
theorem deep_cons : ∀ (s : Step) (r : List Step), Step.deepest (s :: r) = max (Step.dep s) (Step.deepest r)
  | .tunnel w a b, r => by
    conv => lhs; unfold Step.deepest
    rfl
  | .road a b c, r => by
    conv => lhs; unfold Step.deepest
    exact (Nat.zero_max _).symm
  | .join a, r => by
    conv => lhs; unfold Step.deepest
    exact (Nat.zero_max _).symm
mutual
theorem plen_walk (se : Bool) : ∀ (w : Way) (b : Nat), plen (Way.walk se w b) ≤ w.depth
  | .mk h s, b => by
    unfold Way.walk Way.depth
    exact plen_from se h s 0 [b]
theorem plen_from (se : Bool) (h : Nat) : ∀ (s : List Step) (i : Nat) (l : List Nat), plen (Way.from se h s i l) ≤ 1 + Step.deepest s
  | [], i, l => by
    unfold Way.from
    exact Nat.zero_le _
  | s :: r, i, l => by
    have h1 := plen_does se h s l
    have h2 : 1 + Step.deepest r ≤ 1 + Step.deepest (s :: r) := by
      rw [deep_cons]
      omega
    have h3 : Step.dep s ≤ Step.deepest (s :: r) := by
      rw [deep_cons]
      omega
    rw [from_cons]
    cases e : Step.does se h s l with
    | comes m => exact Nat.le_trans (plen_from se h r (i + 1) m) h2
    | told z p =>
      rw [e] at h1
      have h4 : p.length ≤ Step.dep s := h1
      show p.length + 1 ≤ _
      omega
    | silent p =>
      rw [e] at h1
      have h4 : p.length ≤ Step.dep s := h1
      show p.length + 1 ≤ _
      omega
theorem plen_does (se : Bool) (h : Nat) : ∀ (s : Step) (l : List Nat), plen (Step.does se h s l) ≤ Step.dep s
  | .road size ts lw, l => by
    unfold Step.does road
    split
    · exact Nat.zero_le _
    · split
      · split <;> exact Nat.zero_le _
      · split <;> exact Nat.zero_le _
  | .join most, l => by
    unfold Step.does join
    split <;> exact Nat.zero_le _
  | .tunnel w most t, l => by
    unfold Step.does Step.dep
    exact plen_tunnel (fun x => plen_walk se w (h + x)) l
end
mutual
theorem fine_ok : ∀ {w : Way}, w.fine → w.ok
  | .mk h s, f => by
    unfold Way.fine at f
    unfold Way.ok
    exact ⟨by omega, fineAll_ok f.2.2.1⟩
theorem fineAll_ok {h : Nat} : ∀ {s : List Step}, Step.fineAll h s → Step.okAll h s
  | [], _ => by unfold Step.okAll; trivial
  | x :: r, f => by
    unfold Step.fineAll at f
    unfold Step.okAll
    exact ⟨stepfine_ok f.1, fineAll_ok f.2⟩
theorem stepfine_ok {h : Nat} : ∀ {s : Step}, Step.fine h s → Step.ok h s
  | .road size ts lw, f => by
    unfold Step.fine at f
    unfold Step.ok
    exact f.1
  | .join most, f => by
    unfold Step.fine at f
    unfold Step.ok
    exact f.1
  | .tunnel w most t, f => by
    unfold Step.fine at f
    unfold Step.ok
    exact ⟨fine_ok f.1, f.2.1⟩
end
theorem rel_self {b : Nat} {l : List Nat} (g : Good b l) : Rel b l l := by
  unfold Rel
  split
  · rename_i z
    exact g.zero z
  · rename_i z
    have e := tr_all (g.pos (by omega))
    rw [g.sum] at e
    exact e.symm
theorem dep_le : ∀ {s : List Step} {i : Nat} {x : Step}, s[i]? = some x → Step.dep x ≤ Step.deepest s
  | [], i, x, h => by cases h
  | y :: r, 0, x, h => by
    have e : y = x := Option.some.inj h
    rw [deep_cons, e]
    omega
  | y :: r, i + 1, x, h => by
    have := dep_le (s := r) (i := i) (x := x) h
    rw [deep_cons]
    omega
end M

end
section
set_option autoImplicit false
set_option Elab.async false
set_option linter.all false
set_option maxRecDepth 100000
set_option maxHeartbeats 4000000
/-! ## _walked, by one step -/
namespace WP
open PySem L2 G
abbrev sWalked : Stmt := top 21
section
variable {P : Program} {w : World} {K : PySem.W.Frag} {mg : Str → Option Value} {base : Heap} {C : Addr}
abbrev NW : List Str := ["way", "body", "sealed", "stretches", "position", "step", "fate"]
theorem scW : FnScope NW ["way", "body", "sealed"] (defScope sWalked) := ⟨rfl, rfl, rfl, by decide +kernel, rfl, by decide +kernel, by decide +kernel⟩
theorem ok_walked {k n : Nat} {f : Addr} {fd : FuncData} (F : Fun K "_walked" "_walked" sWalked f fd) (B : Bn mg) (T : Wt K mg C) (hk : 1 ≤ k) (WS : Df P w K mg base k "_behind_step" ["way", "step", "stretches", "sealed"] (spBStep C n)) (WE : Df P w K mg base 1 "_seen_from_way" ["fate", "position"] spSeen) (hn2 : n ≤ 10) :
    FnOk P w K mg base CX0 (k + 1) f fd ["way", "body", "sealed"] (spWalked C (n + 1)) := by
  obtain ⟨fS, fdS, GS, gS, kS, bS⟩ := WS.ex
  obtain ⟨fE, fdE, GE, gE, kE, bE⟩ := WE.ex
  refine F.ok scW (fun vs H Q E h => ?_) (fun cdv A outer s H vs Q E hr h => ?_)
  · obtain ⟨a, b, se, wy, rfl, _⟩ := h
    rfl
  · obtain ⟨a, b, se, wy, rfl, hw, hf, hd, hb, kk⟩ := h
    refine ⟨_, pss_cons (ps_set (i := 3) scW.nd rfl (Or.inl rfl) (pe_lst (pa_cons (pv 1) pa_nil)))
      (pss_cons (ps_for PassesOwn.never rfl (pi_et (by rfl) B.enum (pa_cons (pe_fld (pv 0) rfl) pa_nil)) (pg_tup (by rfl) (pgs_cons (pg_name (i := 4) scW.nd rfl (Or.inl rfl)) (pgs_cons (pg_name (i := 5) scW.nd rfl (Or.inl rfl)) pgs_nil)))
        (pss_cons (ps_set (i := 6) scW.nd rfl (Or.inl rfl) (pe_call GS hr rfl gS kS bS .nil pass0 (pa_cons (pv 0) (pa_cons (pv 5) (pa_cons (pv 3) (pa_cons (pv 2) pa_nil))))))
        (pss_cons (ps_if (pt_cmpR op_ne (pe_ix ix_tup (pv 6) pe_int (fun _ _ => rfl)) pe_str (nomark _)) (pss_one (ps_ret (pe_call GE (hr.mono hk) rfl gE kE bE .nil pass0 (pa_cons (pv 6) (pa_cons (pv 4) pa_nil))))) pss_nil)
        (pss_one (ps_set (i := 3) scW.nd rfl (Or.inl rfl) (pe_ix ix_tup (pv 6) pe_int (fun _ _ => rfl)))))))
      (pss_one (ps_ret (pe_tup (pa_cons pe_str (pa_cons (pv 3) pa_nil)))))), ?_⟩
    obtain ⟨dx, fs, t0, xs, w1, w2, w3, w4⟩ := steps_fld hw
    have hf2 := hf
    obtain ⟨wh, sts⟩ := wy
    unfold M.Way.fine at hf
    obtain ⟨hh, hl, hall, hdd, hzz⟩ := hf
    unfold M.Way.depth at hd
    have e0 : M.Way.walk se (.mk wh sts) b = M.Way.from se wh sts 0 [b] := by
      unfold M.Way.walk
      rfl
    rw [e0] at kk
    refine ⟨_, rfl, line2.2.2.1, fun L0 n0 => ?_⟩
    have S1 : Same H (upd H L0 (.lst [.int (b : Int)])) := Same.of_upd n0
    refine ⟨_, rfl, a, C, dx, fs, _, rfl, S1 _ _ w1, T.cl, T.nS, w2, t0, xs, rfl, SqT.of (S1 _ _ w3), ?_⟩
    refine for_it walk_et (fun i σ G => Same H G ∧ ∃ (Li : Addr) (l : List Nat) (p q r : Option V), σ = [some (.ref a), some (.int (b : Int)), some (.bl se), some (.ref Li), p, q, r] ∧ G Li = some (.lst (ni l)) ∧ M.Good b l ∧ M.Way.from se wh sts 0 [b] = M.Way.from se wh (sts.drop i) i l) ⟨S1, L0, [b], _, _, _, rfl, upd_same, M.good_one b, rfl⟩ (fun i σ G _ z => SqT.of (z.1 _ _ w3)) ?_ ?_
    · rintro i v σ G G' hi ⟨s2, Li, l, p, q, r, rfl, hLi, gd, ew⟩ ⟨tt, x1, x2, rfl, nt, rfl, e1, hx⟩
      cases e1
      obtain ⟨st, hst, hat⟩ := w4.get hx
      have hst2 : sts[i]? = some st := hst
      have s3 : Same H (upd G tt (.tup [V.int (i : Nat), x2])) := s2.trans (Same.of_upd nt)
      refine ⟨tt, _, rfl, SqT.of upd_same, rfl, _, _, rfl, _, _, rfl, rfl, ?_⟩
      have dl := M.dep_le hst2
      refine ⟨_, rfl, _, rfl, _, rfl, _, rfl, a, Li, x2, se, .mk wh sts, st, b, l, rfl, hw.mono s3, hat.mono s3, fine_get hall hst2, by omega, hh.2, Same.of_upd nt _ _ hLi, gd, by omega, fun v G1 s4 fa => ?_⟩
      have s5 := s3.trans s4
      have ed : sts.drop i = st :: sts.drop (i + 1) := by
        obtain ⟨hi2, ex⟩ := List.getElem?_eq_some_iff.mp hst2
        rw [← ex, ← List.drop_eq_getElem_cons hi2]
      rw [ed, M.from_cons] at ew
      have pl := M.plen_does se wh st l
      dsimp only
      have fa2 : FateAt G1 (M.Step.does se wh st l) v := fa
      clear fa
      generalize hfz : M.Step.does se wh st l = fz at fa2 ew pl
      cases fz with
      | comes m =>
        obtain ⟨m2, e2, g2, _, _⟩ := M.Step.mono se wh st (by omega) (M.stepfine_ok (fine_get hall hst2)) b b l l m (Nat.le_refl _) gd gd (M.rel_self gd) hfz
        have em : m2 = m := by
          rw [hfz] at e2
          injection e2 with e2
          exact e2.symm
        obtain ⟨u, Lm, rfl, f1, f2⟩ := fa2
        have i0 : atI [V.str "comes", V.ref Lm] (0 : Int) = some (.str "comes") := by exact atI_nat (j := 0) rfl
        have i1 : atI [V.str "comes", V.ref Lm] (1 : Int) = some (.ref Lm) := by exact atI_nat (j := 1) rfl
        refine ⟨_, rfl, u, _, _, _, rfl, rfl, SqT.of f1, i0, rfl, _, rfl, iteNS rfl ?_⟩
        exact ⟨_, rfl, u, _, _, _, rfl, rfl, SqT.of f1, i1, s5, Lm, m, _, _, _, rfl, f2, em ▸ g2, ew⟩
      | told z p2 =>
        have nc : ∀ m, M.Fate.told z p2 ≠ .comes m := fun m e => by cases e
        have fa3 := fa2
        obtain ⟨u, q2, rfl, f1, f2⟩ := fa2
        have i0 : atI [V.str "told", V.int z, V.ref q2] (0 : Int) = some (.str "told") := by exact atI_nat (j := 0) rfl
        refine ⟨_, rfl, u, _, _, _, rfl, rfl, SqT.of f1, i0, rfl, _, rfl, iteNT (fun e => fk.2.2.2.1 (V.str.inj e)) ?_⟩
        exact ⟨_, rfl, _, rfl, _, _, i, rfl, fa3, by omega, nc, fun v G2 s6 fv => kk v _ (s5.trans s6) (by rw [ew]; exact fv)⟩
      | silent p2 =>
        have nc : ∀ m, M.Fate.silent p2 ≠ .comes m := fun m e => by cases e
        have fa3 := fa2
        obtain ⟨u, q2, rfl, f1, f2⟩ := fa2
        have i0 : atI [V.str "silent", V.ref q2] (0 : Int) = some (.str "silent") := by exact atI_nat (j := 0) rfl
        refine ⟨_, rfl, u, _, _, _, rfl, rfl, SqT.of f1, i0, rfl, _, rfl, iteNT (fun e => fk.2.2.2.2 (V.str.inj e)) ?_⟩
        exact ⟨_, rfl, _, rfl, _, _, i, rfl, fa3, by omega, nc, fun v G2 s6 fv => kk v _ (s5.trans s6) (by rw [ew]; exact fv)⟩
    · rintro σ G ⟨s2, Li, l, p, q, r, rfl, hLi, gd, ew⟩
      refine ⟨_, rfl, line2.1, fun u hu => kk _ _ (s2.trans (Same.of_upd hu)) ?_⟩
      have e : sts.drop xs.length = [] := by
        rw [show xs.length = sts.length from w4.len]
        exact List.drop_length
      rw [ew, e]
      unfold M.Way.from
      exact ⟨u, Li, rfl, upd_same, Same.of_upd hu _ _ hLi⟩
end
end WP

end
section
set_option autoImplicit false
set_option Elab.async false
set_option linter.all false
set_option maxRecDepth 100000
set_option maxHeartbeats 4000000
/-! ## the three defs that call one another, by depth -/
namespace WP
open PySem L2 G
section
variable {P : Program} {w : World} {K : PySem.W.Frag} {mg : Str → Option Value} {base : Heap} {C : Addr}
/-- a def of the text -/
structure Fd (K : PySem.W.Frag) (mg : Str → Option Value) (x : Str) (st : Stmt) (ps : List Str) : Prop where
  ex : ∃ (f : Addr) (fd : FuncData), Fun K x x st f fd ∧ mg x = some (.ref f) ∧ PySem.W.keepIn K (.ref f) = true ∧ Binds K fd ps []
theorem Fd.df {x : Str} {st : Stmt} {ps : List Str} {k : Nat} {sp : Sp} (h : Fd K mg x st ps) (ok : ∀ f fd, Fun K x x st f fd → FnOk P w K mg base CX0 k f fd ps sp) : Df P w K mg base k x ps sp := by
  obtain ⟨f, fd, h1, h2, h3, h4⟩ := h.ex
  exact ⟨f, fd, ok f fd h1, h2, h3, h4⟩
structure Walkers (K : PySem.W.Frag) (mg : Str → Option Value) : Prop where
  parts : Fd K mg "_parts" sParts ["stretch", "carried"]
  road : Fd K mg "_behind_road" sBRoad ["way", "step", "stretches", "sealed"]
  join : Fd K mg "_behind_join" sBJoin ["step", "stretches"]
  turned : Fd K mg "_turned" sTurned ["fate", "inner", "tells"]
  seen : Fd K mg "_seen_from_way" sSeen ["fate", "position"]
  tun : Fd K mg "_behind_tunnel" sBTun ["way", "step", "stretches", "sealed"]
  step : Fd K mg "_behind_step" sBStep ["way", "step", "stretches", "sealed"]
  walked : Fd K mg "_walked" sWalked ["way", "body", "sealed"]
  rng : mg "range" = none
  mn : mg "min" = none
theorem depth_pos (wy : M.Way) : 1 ≤ wy.depth := by
  obtain ⟨h, s⟩ := wy
  unfold M.Way.depth
  omega
theorem df_walked (B : Bn mg) (T : Wt K mg C) (Z : Walkers K mg) : ∀ n, n ≤ 10 → Df P w K mg base (3 * n + 1) "_walked" ["way", "body", "sealed"] (spWalked C n)
  | 0, _ => Z.walked.df fun f fd F => F.ok scW (fun vs H Q E h => by
      obtain ⟨a, b, se, wy, rfl, _⟩ := h
      rfl) (fun cdv A outer s H vs Q E hr h => by
      exfalso
      obtain ⟨a, b, se, wy, _, _, _, hd, _⟩ := h
      have := depth_pos wy
      omega)
  | n + 1, hn => by
    have DP : Df P w K mg base 1 "_parts" ["stretch", "carried"] spParts := Z.parts.df fun f fd F => ok_parts F Z.rng Z.mn
    have DR : Df P w K mg base 2 "_behind_road" ["way", "step", "stretches", "sealed"] (spBRoad C) := Z.road.df fun f fd F => ok_broad F B T DP
    have DJ : Df P w K mg base 1 "_behind_join" ["step", "stretches"] spJoin := Z.join.df fun f fd F => ok_join F B
    have DU : Df P w K mg base 1 "_turned" ["fate", "inner", "tells"] (spTurned C) := Z.turned.df fun f fd F => ok_turned F T
    have DE : Df P w K mg base 1 "_seen_from_way" ["fate", "position"] spSeen := Z.seen.df fun f fd F => ok_seen F
    have DW := df_walked B T Z n (by omega)
    have DT : Df P w K mg base (3 * n + 1 + 1) "_behind_tunnel" ["way", "step", "stretches", "sealed"] (spBTun C n) := Z.tun.df fun f fd F => ok_btun F B T (by omega) DW DU
    have DS : Df P w K mg base (3 * n + 1 + 1 + 1) "_behind_step" ["way", "step", "stretches", "sealed"] (spBStep C n) := Z.step.df fun f fd F => ok_bstep F (by omega) DR DJ DT
    have r : Df P w K mg base (3 * n + 1 + 1 + 1 + 1) "_walked" ["way", "body", "sealed"] (spWalked C (n + 1)) := Z.walked.df fun f fd F => ok_walked F B T (by omega) DS DE (by omega)
    exact r
end
end WP

end
section
set_option autoImplicit false
set_option Elab.async false
set_option linter.all false
set_option maxRecDepth 100000
set_option maxHeartbeats 4000000
/-! ## walk -/
namespace WP
open PySem L2 G
abbrev sWalk : Stmt := top 19
section
variable {P : Program} {w : World} {K : PySem.W.Frag} {mg : Str → Option Value} {base : Heap} {C : Addr}
theorem scWk : FnScope ["way", "body", "sealed"] ["way", "body", "sealed"] (defScope sWalk) := ⟨rfl, rfl, rfl, by decide +kernel, rfl, by decide +kernel, by decide +kernel⟩
def spWalk (C : Addr) : Sp := fun vs H Q _ => ∃ (a : Addr) (b : Nat) (se : Bool) (wy : M.Way), vs = [.ref a, .int (b : Int), .bl se] ∧ WayAt C H wy a ∧ M.Way.fine wy ∧ b ≤ 90000 ∧ ∀ v H', Same H H' → FateAt H' (M.Way.walk se wy b) v → Q v H'
theorem fine_depth {wy : M.Way} (h : wy.fine) : wy.depth ≤ 3 := by
  obtain ⟨wh, s⟩ := wy
  unfold M.Way.fine at h
  unfold M.Way.depth
  exact h.2.2.2.1
theorem ok_walk {f : Addr} {fd : FuncData} (F : Fun K "walk" "walk" sWalk f fd) (W : Df P w K mg base 10 "_walked" ["way", "body", "sealed"] (spWalked C 3)) (WB : Df P w K mg base 3 "is_body" ["value"] (spIn1 0 1000000000000000000)) : FnOk P w K mg base CX0 11 f fd ["way", "body", "sealed"] (spWalk C) := by
  obtain ⟨fW, fdW, GW, gW, kW, bW⟩ := W.ex
  obtain ⟨fB, fdB, GB, gB, kB, bB⟩ := WB.ex
  refine F.ok scWk (fun vs H Q E h => ?_) (fun cdv A outer s H vs Q E hr h => ?_)
  · obtain ⟨a, b, se, wy, rfl, _⟩ := h
    rfl
  · obtain ⟨a, b, se, wy, rfl, hw, hf, hb, kk⟩ := h
    refine ⟨_, pss_cons (ps_if (pt_not (pt_val (pe_call GB (hr.mono (by decide)) rfl gB kB bB .nil pass0 (pa_cons (pv 1) pa_nil)))) ps_dead pss_nil)
      (pss_one (ps_ret (pe_call GW hr rfl gW kW bW .nil pass0 (pa_cons (pv 0) (pa_cons (pv 1) (pa_cons (pv 2) pa_nil)))))), ?_⟩
    refine ⟨_, rfl, (b : Int), rfl, ?_⟩
    rw [decide_eq_true (by omega)]
    exact ⟨_, rfl, iteF ⟨_, rfl, _, rfl, _, rfl, a, b, se, wy, rfl, hw, hf, fine_depth hf, by omega, kk⟩⟩
end
end WP

end
section
set_option autoImplicit false
set_option Elab.async false
set_option linter.all false
set_option maxRecDepth 100000
set_option maxHeartbeats 4000000
/-! ## len, +, in, [] and != by a class's own methods -/
namespace WO
open PySem PySem.Spec PyProof.Rows L2
section
variable {X : Cx} {CX : CXT} {n : Nat} {f C : Addr} {fd : FuncData} {ps : List Str} {sp : Sp} {E : XK}
/-- an own method, run somewhere below the running body -/
theorem run_own {A : Around} {pins : List (Addr × Obj)} {s : Shared} {σ : L2.St} {H : Hp} {xs : List V} {us : List Value} {Z : VK} {G : Value → Shared → Prop} (F : FnOk X.prog X.w X.K X.mg X.base CX n f fd ps sp) (sb : Sub X n A) (hb : Binds X.K fd ps []) (hx : Passes CX X E)
    (I : Inv X pins σ H s) (r : Vals xs us) (hsp : sp xs H Z E) (k : ∀ z u H1 s1, Inv X pins σ H1 s1 → RelV z u → Z z H1 → G u s1) : wpAny (model X.prog X.w) A (call (.ref f) us) G X.xe s := by
  have hl := F.len _ _ _ _ hsp
  have lu : us.length = ps.length := by rw [← r.length]; exact hl
  have env : Env0 X.prog X.w X.K X.mg X.base A X.stack s H := by
    have e := I.env0
    exact ⟨by rw [sb.fr]; exact e.frames, e.mod, e.bs, e.bsz, e.funs, e.frf, e.hok, e.bare⟩
  refine wpAny_call (codeAny_mono (F.run A X.stack s H ⟨us, []⟩ us xs _ E sb.room env (by simpa using hb s us I.kIn (by simpa using lu)) r hsp) fun res s1 hq => ?_)
  match res, hq with
  | .error e, hq => exact hx pins σ H s e s1 I hq
  | .ok (.ret u), hq =>
    obtain ⟨z, H1, I1, rz, q⟩ := I.after hq
    exact k z u H1 s1 I1 rz q
  | .ok .next, hq => exact hq.elim
  | .ok .brk, hq => exact hq.elim
  | .ok .cont, hq => exact hq.elim
/-- an instance of the class at C -/
def InsC (C : Addr) (H : Hp) (a : Addr) : Prop := ∃ dx fs, H a = some (.ins C dx fs)
structure Own (K : PySem.W.Frag) (C f : Addr) (m : Str) : Prop where
  at' : PySem.W.findIn K (.ref C) m = some (some (.ref f))
  fn : PySem.W.isFn K (.ref f) = true
def rLenO (C : Addr) (sp : Sp) (E : XK) : List V → Hp → VK → Prop := fun xs H Q => ∃ a, xs = [.ref a] ∧ InsC C H a ∧ sp [.ref a] H (fun v H1 => ∃ k : Nat, v = .int k ∧ k < 1000000 ∧ Q (.int k) H1) E
theorem call_lenO (F : FnOk X.prog X.w X.K X.mg X.base CX n f fd ps sp) (hr : Room (n + 1) X.A) (O : Own X.K C f "__len__") (hb : Binds X.K fd ps []) (hx : Passes CX X E) : CallR X (.builtin "len") (rLenO C sp E) := by
  intro pins s σ H xs us Q I r h
  obtain ⟨a, rfl, ⟨dx, fs, ha⟩, hsp⟩ := h
  cases r with
  | cons ra rr =>
    cases rr
    cases ra
    obtain ⟨_, J, _⟩ := ins_get I.hok ha
    obtain ⟨od, J, _⟩ := J.look
    obtain ⟨m, hF⟩ := I.fr
    refine PySem.W.len_K hF I.ok.mod.kin J O.at' O.fn (run_own F (A := X.A.in1) (xs := [.ref a]) ⟨hr.in1, rfl⟩ hb hx I (.cons rfl .nil) hsp fun z u H1 s1 I1 rz q => ?_)
    obtain ⟨k, rfl, hk, q⟩ := q
    obtain ⟨t, rfl⟩ := rz
    exact ⟨⟨by omega, by omega⟩, .int k, H1, I1.tok _, ⟨_, rfl⟩, q⟩
def rAddO (C : Addr) (sp : Sp) (E : XK) : R2 := fun x y H Q => ∃ a b, x = .ref a ∧ y = .ref b ∧ InsC C H a ∧ InsC C H b ∧ sp [.ref a, .ref b] H (fun v H1 => ∃ c, v = .ref c ∧ Q (.ref c) H1) E
theorem op_addO (F : FnOk X.prog X.w X.K X.mg X.base CX n f fd ps sp) (hr : Room n X.A) (O : Own X.K C f "__add__") (hc : PySem.W.selfFirst X.K C = true) (hb : Binds X.K fd ps []) (hx : Passes CX X E) : OpR X (binaryOp .Add) (rAddO C sp E) := by
  intro pins s σ H x y v u Q I rx ry h
  obtain ⟨a, b, rfl, rfl, ⟨dx, fs, ha⟩, ⟨dy, gs, hb'⟩, hsp⟩ := h
  cases rx
  cases ry
  obtain ⟨_, J, _⟩ := ins_get I.hok ha
  obtain ⟨_, J', _⟩ := ins_get I.hok hb'
  obtain ⟨od, J, _⟩ := J.look
  obtain ⟨od', J', _⟩ := J'.look
  obtain ⟨m, hF⟩ := I.fr
  refine PySem.W.binop_K (op := .Add) hF I.ok.mod.kin J J'.type hc O.at' O.fn (run_own F (A := X.A) (xs := [.ref a, .ref b]) ⟨hr, rfl⟩ hb hx I (.cons rfl (.cons rfl .nil)) hsp fun z u H1 s1 I1 rz q => ?_)
  obtain ⟨c, rfl, q⟩ := q
  cases rz
  exact ⟨.ref c, H1, I1, rfl, q⟩
def rInO (C : Addr) (sp : Sp) (E : XK) : R2 := fun x y H Q => ∃ a, y = .ref a ∧ InsC C H a ∧ sp [.ref a, x] H (fun v H1 => ∃ b, v = .bl b ∧ Q (.bl b) H1) E
def rNotInO (C : Addr) (sp : Sp) (E : XK) : R2 := fun x y H Q => ∃ a, y = .ref a ∧ InsC C H a ∧ sp [.ref a, x] H (fun v H1 => ∃ b, v = .bl b ∧ Q (.bl (!b)) H1) E
theorem op_inO (F : FnOk X.prog X.w X.K X.mg X.base CX n f fd ps sp) (hr : Room n X.A) (O : Own X.K C f "__contains__") (hb : Binds X.K fd ps []) (hx : Passes CX X E) : OpR X (compareOp .In) (rInO C sp E) := by
  intro pins s σ H x y v u Q I rx ry h
  obtain ⟨a, rfl, ⟨dx, fs, ha⟩, hsp⟩ := h
  cases ry
  obtain ⟨_, J, _⟩ := ins_get I.hok ha
  obtain ⟨od, J, _⟩ := J.look
  obtain ⟨m, hF⟩ := I.fr
  refine PySem.W.in_K hF I.ok.mod.kin J O.at' O.fn (run_own F (A := X.A) (xs := [.ref a, x]) ⟨hr, rfl⟩ hb hx I (.cons rfl (.cons rx .nil)) hsp fun z u H1 s1 I1 rz q => ?_)
  obtain ⟨b, rfl, q⟩ := q
  cases rz
  exact wpAny_truthy_bool ⟨.bl b, H1, I1, rfl, q⟩
theorem op_notInO (F : FnOk X.prog X.w X.K X.mg X.base CX n f fd ps sp) (hr : Room n X.A) (O : Own X.K C f "__contains__") (hb : Binds X.K fd ps []) (hx : Passes CX X E) : OpR X (compareOp .NotIn) (rNotInO C sp E) := by
  intro pins s σ H x y v u Q I rx ry h
  obtain ⟨a, rfl, ⟨dx, fs, ha⟩, hsp⟩ := h
  cases ry
  obtain ⟨_, J, _⟩ := ins_get I.hok ha
  obtain ⟨od, J, _⟩ := J.look
  obtain ⟨m, hF⟩ := I.fr
  refine PySem.W.notIn_K hF I.ok.mod.kin J O.at' O.fn (run_own F (A := X.A) (xs := [.ref a, x]) ⟨hr, rfl⟩ hb hx I (.cons rfl (.cons rx .nil)) hsp fun z u H1 s1 I1 rz q => ?_)
  obtain ⟨b, rfl, q⟩ := q
  cases rz
  exact wpAny_truthy_bool ⟨.bl (!b), H1, I1, rfl, q⟩
/-- o[e] by the own __getitem__ -/
def rIxO (C : Addr) (sp : Sp) (E : XK) : R2 := fun x y H Q => ∃ a, x = .ref a ∧ InsC C H a ∧ sp [.ref a, y] H Q E
theorem pe_ixO {a b : Expr} {ta tb : TE} {pos : Pos} (F : FnOk X.prog X.w X.K X.mg X.base CX n f fd ps sp) (hr : Room (n + 1) X.A) (O : Own X.K C f "__getitem__") (hf : PySem.W.fnIn X.K f = true) (hb : Binds X.K fd ps []) (hx : Passes CX X E) (ha : PE X a ta) (hi : PE X b tb)
    (hs : ∀ v i, subscripted b true v i = runValue (.builtin "lifetime.subscript" ⟨[v, i], []⟩)) : PE X (.Subscript a b pos) (tOp (rIxO C sp E) ta tb) := by
  refine ⟨fun pins s σ H Q I h => ?_⟩
  refine Subscript_ (binT ha hi I h fun v u s2 x y H2 I2 rx ry q => ?_)
  obtain ⟨p, rfl, ⟨dx, fs, hp⟩, hsp⟩ := q
  cases rx
  obtain ⟨_, J, _⟩ := ins_get I2.hok hp
  obtain ⟨od, J, _⟩ := J.look
  obtain ⟨m, hF⟩ := I2.fr
  exact PySem.W.sub_K hF I2.ok.mod.kin J O.at' hf O.fn (run_own F (A := X.A.in1) (xs := [.ref p, y]) ⟨hr.in1, rfl⟩ hb hx I2 (.cons rfl (.cons ry .nil)) hsp fun z u H1 s1 I1 rz q => ⟨z, H1, I1, rz, q⟩) (hs _ _)
/-- == by the own __eq__, either answer -/
def rEqO (C : Addr) (sp : Sp) (E : XK) : R2 := fun x y H Q => ∃ a b, x = .ref a ∧ y = .ref b ∧ InsC C H a ∧ InsC C H b ∧ sp [.ref a, .ref b] H (fun v H1 => ∃ c, v = .bl c ∧ Q (.bl c) H1) E
theorem op_eqO (F : FnOk X.prog X.w X.K X.mg X.base CX n f fd ps sp) (hr : Room n X.A) (O : Own X.K C f "__eq__") (hb : Binds X.K fd ps []) (hx : Passes CX X E) : OpR X (compareOp .Eq) (rEqO C sp E) := by
  intro pins s σ H x y v u Q I rx ry h
  obtain ⟨a, b, rfl, rfl, ⟨dx, fs, ha⟩, ⟨dy, gs, hb'⟩, hsp⟩ := h
  cases rx
  cases ry
  obtain ⟨_, J, _⟩ := ins_get I.hok ha
  obtain ⟨_, J', _⟩ := ins_get I.hok hb'
  obtain ⟨od, J, _⟩ := J.look
  obtain ⟨od', J', _⟩ := J'.look
  obtain ⟨m, hF⟩ := I.fr
  show wpAny (model X.prog X.w) X.A (richCompare .Eq (.ref a) (.ref b)) (EP X pins σ Q) X.xe s
  refine PySem.W.cmp_K (op := .Eq) (tb := .ref C) hr.units0 hF I.ok.mod.kin J J'.type (by simp [PySem.W.notFirst]) O.at' O.fn (run_own F (A := X.A) (xs := [.ref a, .ref b]) ⟨hr, rfl⟩ hb hx I (.cons rfl (.cons rfl .nil)) hsp fun z u H1 s1 I1 rz q => ?_)
  obtain ⟨c, rfl, q⟩ := q
  cases rz
  exact ⟨.bl c, H1, I1, rfl, q⟩
end
end WO

end
section
set_option autoImplicit false
set_option Elab.async false
set_option linter.all false
set_option maxRecDepth 100000
set_option maxHeartbeats 4000000
/-! ## set(a list of hin), and sorted of it -/
namespace WS
open PySem PySem.Spec PyProof.Rows L2
abbrev empt (Wd : World) : Obj := { cls := .type "set", dict := none, data := .set #[] 0 (.fresh 0 0 (!Wd.params.followText "set-order")) }
abbrev walker (ls : Addr) : Obj := { cls := .type "list_iterator", data := .fields #[.ref ls, .int 0 0] }
section
variable {Pg : Program} {Wd : World} {Ar : Around} {Ex : Value → Shared → Prop} {sh : Shared}
/-- what is left of a new set, filled -/
def Filled (Wd : World) (sh : Shared) (zs : List Int) (s2 : Shared) : Prop := ∃ hp tk c, s2 = { sh with heap := hp, toks := tk } ∧ SetR Wd hp sh.heap.objs.size (fun j => decide (j ∈ zs)) c ∧ c ≤ zs.length ∧ ∀ b o, sh.heap.get? b = some o → hp.get? b = some o
set_option maxHeartbeats 3200000 in
/-- __init__ of the new set at the end of the heap -/
theorem init_list {ls : Addr} {arr : Array Value} {zs : List Int} (ok : Ar.handled = none) (at0 : sh.heap.IsList ls arr) (hin : IntsAre arr.toList zs) (few : zs.length + 1 < scanBound) (tS : Shared.TypeIs { sh with heap := sh.heap.push (empt Wd) } (.ref sh.heap.objs.size) "set") :
    codeAny (model Pg Wd) Ar (.call (.builtin "set.__init__") ⟨[.ref sh.heap.objs.size, .ref ls], []⟩) (wants (fun r s2 => r = .none ∧ Filled Wd sh zs s2) Ex) { sh with heap := sh.heap.push (empt Wd) } := by
  have size_eq : arr.size = zs.length := by
    have q := IntsAre.length hin
    rwa [Array.length_toList] at q
  refine codeAny_call_builtin (R := wants _ Ex) F.called_set.init.plain F.entry_set_init (check_set_init_1 tS ?_)
  obtain ⟨⟨oc, od, oda, osl⟩, gl, cl, nl, dl⟩ := at0
  simp only at cl dl
  subst cl; subst dl
  have gl2 : (sh.heap.push (empt Wd)).get? ls = some { cls := .type "list", dict := od, data := .seq arr nl, slots := osl } := Heap.get?_push_of_some _ gl
  have k1 := F.sub_list_set
  have k2 := F.sub_list_frozenset
  have k3 : (Value.type "list" == Value.type "dict") = false := by decide
  have il : (sh.heap.push (empt Wd)).IsList ls arr := ⟨_, gl2, rfl, nl, rfl⟩
  unfold Builtin.«set.__init__» noKeywords Builtin.Frozenset.updateFrom
  generalize eI : pyIter = IT
  wp_walk
  subst eI
  refine wpAny_pyIter_list il ?_
  refine wpAny_bind (wpAny_runValue ?_)
  have low : ls < sh.heap.objs.size := Heap.lt_size gl
  have sz : (sh.heap.push (empt Wd)).objs.size = sh.heap.objs.size + 1 := Heap.size_push ..
  have ne1 : ls ≠ (sh.heap.push (empt Wd)).objs.size := by rw [sz]; exact Nat.ne_of_lt (Nat.lt_succ_of_lt low)
  have ne2 : sh.heap.objs.size ∉ [(sh.heap.push (empt Wd)).objs.size, ls] := by
    rw [sz]
    intro z
    rcases List.mem_cons.mp z with e | e
    · exact absurd e (Nat.ne_of_lt (Nat.lt_succ_self _))
    · exact absurd (List.mem_singleton.mp e) (Nat.ne_of_gt low)
  have item : ∀ (i : Nat) (v : Value), arr[i]? = some v → ∃ k t, zs[i]? = some k ∧ v = .int k t := by
    intro i v hv
    have hi : i < zs.length := by rw [← size_eq]; exact (Array.getElem?_eq_some_iff.mp hv).1
    obtain ⟨t, e⟩ := PyProof.Rows.IntsAre.int_at hin i v (by rw [Array.getElem?_toList]; exact hv)
    refine ⟨zs[i], t, List.getElem?_eq_getElem hi, ?_⟩
    rw [e, List.getD_eq_getElem?_getD, List.getElem?_eq_getElem hi] <;> rfl
  refine set_update_ints ((Walks.list (by simp [ok]) _ ls ne1 arr).toS) sh.heap.objs.size ne2 zs size_eq few item (arr.size - 0) 0 _ (by omega) (Nat.zero_le _) ⟨⟨_, Heap.get?_push_size _ rfl, rfl, rfl⟩, (il.push _)⟩ ?first0 ?rest0
  case first0 =>
    have g : ((sh.heap.push (empt Wd)).push (walker ls)).get? sh.heap.objs.size = some (empt Wd) := Heap.get?_push_of_some _ (Heap.get?_push_size _ rfl)
    exact ⟨0, Nat.le_refl 0, setR_new_at g⟩
  case rest0 =>
    rintro ⟨hp, g2, d2, tk, os2⟩ c mv hc R
    have eg : g2 = sh.gens := mv.gens
    have ed : d2 = sh.drawn := mv.drawn
    have eo : os2 = sh.os := mv.os
    subst eg; subst ed; subst eo
    show wpAny _ _ _ _ _ _
    refine wpAny_pure ?_
    show wpAny _ _ (ret Value.none) _ _ _
    rw [size_eq] at hc
    refine wpAny_pure ⟨rfl, hp, tk, c, rfl, R, hc, fun b o e => ?_⟩
    have lb : b < sh.heap.objs.size := Heap.lt_size e
    refine mv.heap b o ?_ (Heap.get?_push_of_some _ (Heap.get?_push_of_some _ e))
    rw [sz]
    intro z
    rcases List.mem_cons.mp z with e | e
    · exact absurd e (Nat.ne_of_lt lb)
    · exact absurd (List.mem_singleton.mp e) (Nat.ne_of_lt (Nat.lt_succ_of_lt lb))
set_option maxHeartbeats 3200000 in
theorem set_of_list {ls : Addr} {arr : Array Value} (zs : List Int) {Qv : Value → Shared → Prop} (ok : Ar.handled = none) (at0 : sh.heap.IsList ls arr) (hin : IntsAre arr.toList zs) (few : zs.length + 1 < scanBound)
    (k : ∀ s2, Filled Wd sh zs s2 → Qv (.ref sh.heap.objs.size) s2) : wpAny (model Pg Wd) Ar (call (.type "set") [.ref ls]) Qv Ex sh := by
  obtain ⟨c0, tl0, mro0⟩ := F.called_set.mro
  have f1 := F.called_set.made
  have f2 := F.called_set.sub
  refine wpAny_call (codeAny_of_tree ?_)
  show wpAny _ _ (callAny (.type "set") _) _ _ _
  refine wpAny_pure ⟨Code.quiet_builtin _ (by decide +kernel), codeAny_builtin F.entry_type_call ?_⟩
  rw [Around.under_plain (weight_type_call_type "set" [.ref ls] []) rfl]
  have f3 := F.called_set.notType
  have f4 := F.called_set.canCreate
  have f5 := F.typeCall_set_1 (.ref ls)
  repeat (any_goals (first | assumption | wp_step))
  refine codeAny_mono (code_set_led1 (.ref ls) (E := Ex) (Q₁ := fun ob s1 => ob = .ref sh.heap.objs.size ∧ s1 = { sh with heap := sh.heap.push (empt Wd) }) ⟨rfl, rfl⟩) fun r s1 hr => ?_
  match r, hr with
  | .error e, hr => exact hr
  | .ok .next, hr => exact hr.elim
  | .ok .brk, hr => exact hr.elim
  | .ok .cont, hr => exact hr.elim
  | .ok (.ret ob), hr =>
    obtain ⟨rfl, rfl⟩ := hr
    have tS : Shared.TypeIs { sh with heap := sh.heap.push (empt Wd) } (.ref sh.heap.objs.size) "set" := ⟨_, Heap.get?_push_size _ rfl, rfl⟩
    have f6 := F.called_set.init.lookup
    have f7 := F.called_set.init.bind (.ref sh.heap.objs.size)
    repeat (any_goals (first | assumption | wp_step))
    refine codeAny_mono (init_list (zs := zs) (Ex := Ex) (by simp [ok]) at0 hin few tS) fun r2 s2 hr2 => ?_
    match r2, hr2 with
    | .error e, hr2 => exact hr2
    | .ok .next, hr2 => exact hr2.elim
    | .ok .brk, hr2 => exact hr2.elim
    | .ok .cont, hr2 => exact hr2.elim
    | .ok (.ret v), hr2 =>
      obtain ⟨rfl, hF⟩ := hr2
      obtain ⟨hp, tk, c, rfl, R, hc, hk⟩ := hF
      repeat (any_goals (first | assumption | wp_step))
      exact k _ ⟨hp, tk, c, rfl, R, hc, hk⟩
end
section
variable {X : Cx}
def rSetL (K : PySem.W.Frag) (Wd : World) : List V → Hp → VK → Prop := fun xs H Q => ∃ (l : Addr) (zs : List Int), xs = [.ref l] ∧ SqL K H l (zs.map V.int) ∧ zs.length ≤ 4000 ∧ ∀ (p : Addr) (c : Nat), H p = none → c ≤ zs.length → Q (.ref p) (upd H p (SetO Wd p (fun j => decide (j ∈ zs)) c))
theorem cr_setL (hc : X.calm = true) : CallR X (.type "set") (rSetL X.K X.w) := by
  intro pins s σ H xs us Q I r h
  obtain ⟨l, zs, rfl, hL, few, q⟩ := h
  rw [Vals.ref1 r]
  obtain ⟨its, rv, pl, _⟩ := I.list hL
  refine set_of_list zs (I.ok.hd hc) pl.isList (by simpa using ints_of_vals rv) (by unfold scanBound; omega) fun s2 hF => ?_
  obtain ⟨hp, tk, c, rfl, R, hc2, hk⟩ := hF
  exact ⟨.ref _, upd H s.heap.objs.size (SetO X.w s.heap.objs.size (fun j => decide (j ∈ zs)) c), I.laid (t' := tk) hk (Nat.le_refl _) (setO_new R), rfl, q _ c (I.hok.fresh (Nat.le_refl _)) hc2⟩
end
end WS

end
section
set_option autoImplicit false
set_option Elab.async false
set_option linter.all false
set_option maxRecDepth 100000
set_option maxHeartbeats 4000000
/-! ## pieces for any law -/
namespace Y
open PySem L2 G
theorem of_upd {H : Hp} {p : Addr} {o : HO} (h : H p = none) : Same H (upd H p o) := fun a u e => by
  rw [upd_ne (ne_of_none e h)]
  exact e
theorem add_upd {H G : Hp} {D : Addr} {o : HO} (nD : H D = none) (s : Same H G) : Same H (upd G D o) := fun b u e => by
  rw [upd_ne (ne_of_none e nD)]
  exact s _ _ e
/-- a def of the text that is called by its name, and keeps a promise -/
structure Df (P : Program) (w : World) (K : PySem.W.Frag) (mg : Str → Option Value) (base : Heap) (k : Nat) (x : Str) (ps : List Str) (sp : Sp) : Prop where
  ex : ∃ (f : Addr) (fd : FuncData), FnOk P w K mg base CX0 k f fd ps sp ∧ mg x = some (.ref f) ∧ PySem.W.keepIn K (.ref f) = true ∧ Binds K fd ps []
structure Fd (K : PySem.W.Frag) (mg : Str → Option Value) (x : Str) (st : Stmt) (ps : List Str) : Prop where
  ex : ∃ (f : Addr) (fd : FuncData), Fun K x x st f fd ∧ mg x = some (.ref f) ∧ PySem.W.keepIn K (.ref f) = true ∧ Binds K fd ps []
theorem Fd.df {P : Program} {w : World} {K : PySem.W.Frag} {mg : Str → Option Value} {base : Heap} {x : Str} {st : Stmt} {ps : List Str} {k : Nat} {sp : Sp} (h : Fd K mg x st ps) (ok : ∀ f fd, Fun K x x st f fd → FnOk P w K mg base CX0 k f fd ps sp) : Df P w K mg base k x ps sp := by
  obtain ⟨f, fd, h1, h2, h3, h4⟩ := h.ex
  exact ⟨f, fd, ok f fd h1, h2, h3, h4⟩
theorem set_then {te : TE} {i : Nat} {t2 : TS} {D : Ends} {σ : L2.St} {H : Hp} (h : te σ H fun v H1 => t2 D (σ.set i (some v)) H1) : tSeq (tAsg te (gName i)) t2 D σ H := h
theorem len_put {f : Str} {v : V} {fs : List (Str × V)} {n : Nat} (h : fs.length < n) : (putF f v fs).length < n + 1 := Nat.lt_of_le_of_lt (length_putF f v fs) (Nat.succ_lt_succ h)
theorem take_snoc {α : Type} {l : List α} {i : Nat} {x : α} (h : l[i]? = some x) : l.take (i + 1) = l.take i ++ [x] := by
  rw [List.take_succ, h]
  rfl
theorem drop_at {α : Type} {l : List α} {i : Nat} {x : α} (h : l[i]? = some x) : l.drop i = x :: l.drop (i + 1) := by
  obtain ⟨hi, ex⟩ := List.getElem?_eq_some_iff.mp h
  rw [← ex, ← List.drop_eq_getElem_cons hi]
section
variable {X : Cx} {tg it : Expr}
theorem pi_or {w1 w2 : TI} (h1 : PI X tg it w1) (h2 : PI X tg it w2) : PI X tg it (fun σ H R => w1 σ H R ∨ w2 σ H R) := ⟨fun pins s σ H R I h => h.elim (h1.run pins s σ H R I) (h2.run pins s σ H R I)⟩
def tDead : TS := fun _ _ _ => False
theorem ps_dead {b : List Stmt} : PSs X b tDead := ⟨fun _ _ _ _ _ _ h => h.elim⟩
end
def SAt (H : Hp) (l : Addr) (xs : List V) : Prop := H l = some (.lst xs) ∨ H l = some (.tup xs)
theorem SAt.mono {H H' : Hp} {l : Addr} {xs : List V} (s : Same H H') (h : SAt H l xs) : SAt H' l xs := h.elim (fun e => .inl (s _ _ e)) fun e => .inr (s _ _ e)
section
variable {K : PySem.W.Frag} {H : Hp} {σ : L2.St} {l : Addr} {xs : List V}
theorem or_seq {te : TE} {R : It → Hp → Prop} (ht : ∀ Q : VK, Q (.ref l) H → te σ H Q) (hl : SAt H l xs) (k : ∀ (J : It) (Gd : Hp → Prop), (∀ H', Same H H' → Gd H') → Walk J xs.length Gd (YAt xs) → R J H) : iList K te σ H R ∨ iTup K te σ H R :=
  hl.elim (fun e => .inl (ht _ ⟨l, rfl, ⟨xs, SqL.of e⟩, k _ _ (fun H' s => SqL.of (s _ _ e)) walk_list⟩)) fun e => .inr (ht _ ⟨l, rfl, ⟨xs, SqT.of e⟩, k _ _ (fun H' s => SqT.of (s _ _ e)) walk_tup⟩)
end
theorem at0 {y0 : V} {ys : List V} : atI (y0 :: ys) (0 : Int) = some y0 := by exact atI_nat (xs := y0 :: ys) (j := 0) rfl
def ni (l : List Nat) : List V := (l.map fun n => ((n : Nat) : Int)).map V.int
theorem ni_len (l : List Nat) : (ni l).length = l.length := by
  unfold ni
  rw [List.length_map, List.length_map]
theorem ni_get {l : List Nat} {i : Nat} {x : V} (h : (ni l)[i]? = some x) : ∃ b, l[i]? = some b ∧ x = .int ((b : Nat) : Int) := by
  unfold ni at h
  rw [List.getElem?_map, List.getElem?_map] at h
  cases e : l[i]? with
  | none => rw [e] at h; cases h
  | some b =>
    rw [e] at h
    cases h
    exact ⟨b, rfl, rfl⟩
theorem ni_at {l : List Nat} {i b : Nat} (h : l[i]? = some b) : (ni l)[i]? = some (.int ((b : Nat) : Int)) := by
  unfold ni
  rw [List.getElem?_map, List.getElem?_map, h]
  rfl
theorem ni_app (l m : List Nat) : ni (l ++ m) = ni l ++ ni m := by
  unfold ni
  rw [List.map_append, List.map_append]
theorem ni_drop (l : List Nat) (i : Nat) : (ni l).drop i = ni (l.drop i) := by
  unfold ni
  rw [← List.map_drop, ← List.map_drop]
theorem ni_take (l : List Nat) (i : Nat) : (ni l).take i = ni (l.take i) := by
  unfold ni
  rw [← List.map_take, ← List.map_take]
theorem line2 : 2 ≤ sizeLine ∧ 3 ≤ sizeLine ∧ 1 ≤ sizeLine ∧ 0 ≤ sizeLine := by decide
/-- xs[k:] -/
theorem cut_from (xs : List V) (k : Nat) : cutV xs (some (k : Int)) none = xs.drop k := by
  unfold cutV
  rw [HT.sIx_none, HT.sIx_nat]
  by_cases h : k ≤ xs.length
  · rw [Nat.min_eq_left h]
    exact List.take_of_length_le (by rw [List.length_drop]; omega)
  · rw [Nat.min_eq_right (by omega), List.drop_of_length_le (by omega), List.drop_of_length_le (by omega), List.take_nil]
theorem six_pos {n k : Nat} (h : 0 < k) (hn : 0 < n) (d : Nat) : HT.sIx n d (some (k : Int)) ≠ 0 := by
  rw [HT.sIx_nat]
  omega
structure Bn (mg : Str → Option Value) : Prop where
  isi : mg "isinstance" = none
  bool : mg "bool" = none
  int : mg "int" = none
  tuple : mg "tuple" = none
  list : mg "list" = none
  len : mg "len" = none
  range : mg "range" = none
  zip : mg "zip" = none
  min : mg "min" = none
  max : mg "max" = none
  sorted : mg "sorted" = none
  set : mg "set" = none
  enum : mg "enumerate" = none
end Y

end
section
set_option Elab.async false
set_option linter.all false
set_option maxRecDepth 100000
set_option maxHeartbeats 4000000
/-! ## where the law draws from -/
namespace S
open PySem L2
def top (i : Nat) : Stmt := PySem.Challenge.pw_roadsizes_k08_whole_roads_part_as_chains.main.body.getD i (.Pass ⟨0, 0, 0, 0⟩)
abbrev sSource : Stmt := top 53
abbrev sDraw : Stmt := top 54
abbrev sPick : Stmt := top 55
/-- the built-ins that these defs call -/
structure Bi (mg : Str → Option Value) : Prop where
  int : mg "int" = none
  len : mg "len" = none
/-- a source: two numbers that are not negative, the second one small -/
def Two (r m : Int) : List V := [.int r, .int m]
structure Fine (r m : Int) : Prop where
  r0 : 0 ≤ r
  m0 : 0 ≤ m
  m1 : m < 2147483648
def At (H : Hp) (p : Addr) : Prop := ∃ r m, H p = some (.lst (Two r m)) ∧ Fine r m
theorem bits_lt (x : Int) : x.natAbs < 2 ^ (Builtin.Int.intBits x) := by
  unfold Builtin.Int.intBits
  split
  · rename_i h
    have e : x = 0 := by simpa using h
    subst e
    decide
  · exact Nat.lt_log2_self
theorem bits_le {x : Int} {n : Nat} (h : x.natAbs < 2 ^ n) : Builtin.Int.intBits x ≤ n := by
  unfold Builtin.Int.intBits
  split
  · exact Nat.zero_le _
  · rename_i q
    have ne : x.natAbs ≠ 0 := fun e => q (by simp [Int.natAbs_eq_zero.mp e])
    exact (Nat.log2_lt ne).mpr h
theorem cube_ok {m z : Int} (h0 : 0 ≤ m) (h1 : m < 2147483648) (hz : Builtin.Int.intBits z ≤ 1048576) : (Builtin.Int.intBits (m * 48611 + z) : Int) * 3 ≤ 2 ^ 27 := by
  have b1 := bits_lt z
  have b2 : z.natAbs < 2 ^ 1048576 := Nat.lt_of_lt_of_le b1 (Nat.pow_le_pow_right (by decide) hz)
  have b3 : (m * 48611 + z).natAbs < 2 ^ 1048577 := by
    have e : (2 : Nat) ^ 1048577 = 2 ^ 1048576 * 2 := Nat.pow_succ ..
    have e2 : (2 : Nat) ^ 100 ≤ 2 ^ 1048576 := Nat.pow_le_pow_right (by decide) (by decide)
    have e3 : (2 : Nat) ^ 100 = 1267650600228229401496703205376 := by decide
    generalize (2 : Nat) ^ 1048576 = t at *
    rw [e]
    omega
  have b4 := bits_le b3
  have e27 : (2 : Int) ^ 27 = 134217728 := by decide
  rw [e27]
  omega
/-! ### promises -/
def spSource (K : PySem.W.Frag) : Sp := fun vs H Q _ => ∃ (a : Addr) (ns : List Int) (i : Nat), vs = [.ref a, .int i] ∧ i ≤ 1000 ∧ SqL K H a (ns.map V.int) ∧ ns.length ≤ 63 ∧ (∀ z ∈ ns, Builtin.Int.intBits z ≤ 1048576) ∧
  ∀ p r m, H p = none → Fine r m → Q (.ref p) (upd H p (.lst (Two r m)))
def spDraw : Sp := fun vs H Q _ => ∃ (p : Addr) (r m span : Int), vs = [.ref p, .int span] ∧ H p = some (.lst (Two r m)) ∧ Fine r m ∧ 1 ≤ span ∧ span.natAbs.log2 < 9000 ∧
  ∀ k r' m', Fine r' m' → 0 ≤ k → k < span → Q (.int k) (upd H p (.lst (Two r' m')))
def spPick (K : PySem.W.Frag) : Sp := fun vs H Q _ => ∃ (p l : Addr) (r m : Int) (xs : List V), vs = [.ref p, .ref l] ∧ H p = some (.lst (Two r m)) ∧ Fine r m ∧ l ≠ p ∧ SqL K H l xs ∧ 1 ≤ xs.length ∧ xs.length ≤ 1000 ∧
  ∀ (j : Nat) (x : V) (r' m' : Int), Fine r' m' → xs[j]? = some x → Q x (upd H p (.lst (Two r' m')))
section
variable {P : Program} {w : World} {K : PySem.W.Frag} {mg : Str → Option Value} {base : Heap}
theorem sc1 : FnScope ["script", "start", "mixed", "cell", "rest"] ["script", "start"] (defScope sSource) := ⟨rfl, rfl, rfl, by decide +kernel, rfl, by decide +kernel, by decide +kernel⟩
theorem ints_at {ns : List Int} {i : Nat} {x : V} (h : (ns.map V.int)[i]? = some x) : ∃ z, x = .int z ∧ z ∈ ns ∧ ns[i]? = some z := by
  rw [List.getElem?_map] at h
  cases e : ns[i]? with
  | none => rw [e] at h; cases h
  | some z => rw [e] at h; exact ⟨z, (Option.some.inj h).symm, List.mem_of_getElem? e, rfl⟩
theorem ok_source {f : Addr} {fd : FuncData} (F : Fun K "_law_source" "_law_source" sSource f fd) (B : Bi mg) : FnOk P w K mg base CX0 1 f fd ["script", "start"] (spSource K) := by
  refine F.ok sc1 (fun vs H Q E h => ?_) (fun cdv A outer s H vs Q E hr h => ?_)
  · obtain ⟨a, ns, i, rfl, _⟩ := h
    rfl
  · obtain ⟨a, ns, st, rfl, hst, hS, hl, hb, k⟩ := h
    refine ⟨_, pss_cons (ps_set (i := 2) sc1.nd rfl (Or.inl rfl) (pe_op op_add pe_int (pv 1)))
      (pss_cons (ps_for PassesOwn.never rfl (pi_list (pv 0)) (pg_name (i := 3) sc1.nd rfl (Or.inl rfl))
        (pss_one (ps_set (i := 2) sc1.nd rfl (Or.inl rfl) (pe_op op_add (pe_op op_mod (pe_callTy call_int1 (by rfl) B.int (by decide +kernel)
          (pa_cons (pe_op G.op_powN (pe_callTy call_int1 (by rfl) B.int (by decide +kernel) (pa_cons (pe_op op_add (pe_op op_mul (pv 2) pe_int) (pe_callTy call_int1 (by rfl) B.int (by decide +kernel) (pa_cons (pv 3) pa_nil))) pa_nil)) pe_int) pa_nil)) pe_int) pe_int))))
      (pss_cons (ps_set (i := 4) sc1.nd rfl (Or.inl rfl) pe_int)
      (pss_cons (ps_if (PW.pt (pw_and (pt_cmpR op_lt (pv 1) (pe_callB call_len_seq (by rfl) B.len PySem.boot_len (pa_cons (pv 0) pa_nil)) (nomark _))
          (pw_and1 (pt_cmpR op_ge (pe_ix ix_list (pv 0) (pv 1) (fun _ _ => rfl)) (pe_op op_pow pe_int pe_int) (nomark _)))))
        (pss_one (ps_set (i := 4) sc1.nd rfl (Or.inl rfl) (pe_op op_sub (pe_ix ix_list (pv 0) (pv 1) (fun _ _ => rfl)) (pe_op op_pow pe_int pe_int)))) pss_nil)
      (pss_one (ps_ret (pe_lst (pa_cons (pv 4) (pa_cons (pv 2) pa_nil)))))))), ?_⟩
    -- mixed = 97 + start
    refine ⟨_, rfl, _, _, rfl, rfl, ?_⟩
    -- for cell in script
    refine ⟨_, rfl, a, rfl, ⟨_, hS⟩, for_list (K := K) (a := a) (xs := ns.map V.int) (fun i σ H2 => ∃ (m : Int) (c : Option V), σ = [some (.ref a), some (.int st), some (.int m), c, none] ∧ H2 = H ∧ (0 ≤ m ∧ m < 2147483648))
      ⟨_, none, rfl, rfl, by omega, by omega⟩ (fun i σ H2 _ ⟨_, _, _, e, _⟩ => by rw [e]; exact hS) ?_ ?_⟩
    · rintro i y σ H2 hi ⟨m, c, rfl, rfl, h0, h1⟩
      obtain ⟨z, rfl, hz, _⟩ := ints_at hi
      refine ⟨_, rfl, _, _, rfl, rfl, .inl ⟨by omega, by omega⟩, _, rfl, .inl ⟨_, rfl, _, _, rfl, rfl, .inl ⟨_, rfl, _, _, rfl, rfl, ⟨by decide, cube_ok h0 h1 (hb z hz)⟩, .inl ⟨_, rfl, _, _, rfl, rfl, (by show (0 : Int) < 2147483587; decide), _, _, rfl, rfl, ?_⟩⟩⟩⟩
      refine ⟨_, _, rfl, rfl, ?_⟩
      have e1 := Int.emod_nonneg ((m * 48611 + z) ^ (3 : Int).toNat) (b := 2147483587) (by decide)
      have e2 := Int.emod_lt_of_pos ((m * 48611 + z) ^ (3 : Int).toNat) (b := 2147483587) (by decide)
      exact ⟨Int.add_nonneg e1 (by decide), Int.lt_of_lt_of_le (Int.add_lt_add_right e2 1) (by decide)⟩
    · rintro σ H2 ⟨m, c, rfl, rfl, h0, h1⟩
      -- rest = 0; if start < len(script) and script[start] >= 10 ** 18
      refine ⟨_, rfl, _, rfl, a, _, rfl, .inl hS, _, _, rfl, rfl, _, rfl, ?_⟩
      have fin : ∀ r : Int, 0 ≤ r → tRet (tLst (tCons (tVar 4) (tCons (tVar 2) tNil))) { nx := fun _ H' => Q .non H', rt := Q } [some (.ref a), some (.int st), some (.int m), c, some (.int r)] H2 := fun r hr =>
        ⟨_, rfl, _, rfl, (by show 2 ≤ sizeLine; decide), fun p hp => k p r m hp ⟨hr, h0, h1⟩⟩
      by_cases hlt : st < ns.length
      · have e : decide ((st : Int) < ((ns.map V.int).length : Int)) = true := by
          rw [List.length_map]
          exact decide_eq_true (by omega)
        rw [e]
        refine iteT ?_
        have hit : (ns.map V.int)[st]? = some (V.int ns[st]) := by rw [List.getElem?_map, List.getElem?_eq_getElem hlt]; rfl
        refine ⟨_, rfl, _, rfl, a, _, _, _, rfl, rfl, hS, atI_nat hit, _, _, rfl, rfl, ⟨by decide, by decide, by decide⟩, _, _, rfl, rfl, _, rfl, ?_⟩
        refine ite2 (fun hge => ?_) (fun _ => fin 0 (by decide))
        refine ⟨_, rfl, _, rfl, a, _, _, _, rfl, rfl, hS, atI_nat hit, _, _, rfl, rfl, ⟨by decide, by decide, by decide⟩, _, _, rfl, rfl, ?_⟩
        exact fin _ (Int.sub_nonneg_of_le (of_decide_eq_true hge))
      · have e : decide ((st : Int) < ((ns.map V.int).length : Int)) = false := by
          rw [List.length_map]
          exact decide_eq_false (by omega)
        rw [e]
        exact iteF (iteF (fin 0 (by decide)))
theorem fits {a : Int} {n : Nat} (h : 0 ≤ a) (h1 : a < 2 ^ n) : a.natAbs < 2 ^ n := by
  have e : ((2 : Int) ^ n) = ((2 ^ n : Nat) : Int) := by rw [Int.natCast_pow]; rfl
  rw [e] at h1
  omega
theorem sc2 : FnScope ["source", "span", "found"] ["source", "span"] (defScope sDraw) := ⟨rfl, rfl, rfl, by decide +kernel, rfl, by decide +kernel, by decide +kernel⟩
theorem ok_draw {f : Addr} {fd : FuncData} (F : Fun K "_law_draw" "_law_draw" sDraw f fd) (B : Bi mg) : FnOk P w K mg base CX0 1 f fd ["source", "span"] spDraw := by
  refine F.ok sc2 (fun vs H Q E h => ?_) (fun cdv A outer s H vs Q E hr h => ?_)
  · obtain ⟨p, r, m, span, rfl, _⟩ := h
    rfl
  · obtain ⟨p, r, m, span, rfl, hp, ⟨r0, m0, m1⟩, s1, s2, k⟩ := h
    refine ⟨_, pss_cons (ps_if (pt_cmpR op_ge (pe_ix ix_list (pv 0) pe_int (fun _ _ => rfl)) (pv 1) (nomark _))
        (pss_cons (ps_set (i := 2) sc2.nd rfl (Or.inl rfl) (pe_op op_mod (pe_callTy call_int1 (by rfl) B.int (by decide +kernel) (pa_cons (pe_ix ix_list (pv 0) pe_int (fun _ _ => rfl)) pa_nil)) (pv 1)))
        (pss_cons (ps_asg (pe_op op_fdivW (pe_ix ix_list (pv 0) pe_int (fun _ _ => rfl)) (pv 1)) (pg_sub (pv 0) pe_int set_list))
        (pss_one (ps_ret (pv 2))))) pss_nil)
      (pss_cons (ps_asg (pe_op op_mod (pe_callTy call_int1 (by rfl) B.int (by decide +kernel) (pa_cons (pe_op op_add (pe_op op_mul (pe_ix ix_list (pv 0) pe_int (fun _ _ => rfl)) pe_int) pe_int) pa_nil)) pe_int) (pg_sub (pv 0) pe_int set_list))
      (pss_one (ps_ret (pe_op op_mod (pe_callTy call_int1 (by rfl) B.int (by decide +kernel) (pa_cons (pe_op op_fdiv (pe_op op_mod (pe_callTy call_int1 (by rfl) B.int (by decide +kernel)
        (pa_cons (pe_op op_pow (pe_callTy call_int1 (by rfl) B.int (by decide +kernel) (pa_cons (pe_ix ix_list (pv 0) pe_int (fun _ _ => rfl)) pa_nil)) pe_int) pa_nil)) pe_int) pe_int) pa_nil)) (pv 1))))), ?_⟩
    have g0 : atI (Two r m) 0 = some (.int r) := rfl
    refine ⟨_, rfl, p, _, _, _, rfl, rfl, SqL.of hp, g0, _, rfl, _, _, rfl, rfl, _, rfl, ?_⟩
    refine ite2 (fun hge => ?_) (fun hlt => ?_)
    · have hge' : span ≤ r := of_decide_eq_true hge
      have q0 : 0 ≤ r / span := Int.ediv_nonneg r0 (by omega)
      refine ⟨_, rfl, p, _, _, _, rfl, rfl, SqL.of hp, g0, .inl ⟨_, rfl, _, rfl, _, _, rfl, rfl, (by show 0 < span; omega), ?_⟩⟩
      refine ⟨_, rfl, p, _, _, _, rfl, rfl, SqL.of hp, g0, _, rfl, _, _, rfl, rfl, ⟨(by omega), s2⟩, ?_⟩
      refine ⟨_, rfl, p, _, _, _, rfl, rfl, hp, rfl, ?_⟩
      exact ⟨_, rfl, k (r % span) (r / span) m ⟨q0, m0, m1⟩ (Int.emod_nonneg _ (by omega)) (Int.emod_lt_of_pos _ (by omega))⟩
    · have g1 : atI (Two r m) 1 = some (.int m) := rfl
      have e1 := Int.emod_nonneg (m * 69621 + 7919) (b := 2147483647) (by decide)
      have e2 := Int.emod_lt_of_pos (m * 69621 + 7919) (b := 2147483647) (by decide)
      refine ⟨_, rfl, p, _, _, _, rfl, rfl, SqL.of hp, g1, _, _, rfl, rfl, .inl ⟨by omega, by omega⟩, _, _, rfl, rfl, .inl ⟨_, rfl, _, _, rfl, rfl, (by show (0 : Int) < 2147483647; decide), ?_⟩⟩
      refine ⟨_, rfl, p, _, _, _, rfl, rfl, hp, rfl, ?_⟩
      have hp2 : (upd H p (.lst (Two r ((m * 69621 + 7919) % 2147483647)))) p = some (.lst (Two r ((m * 69621 + 7919) % 2147483647))) := upd_same
      have g2 : atI (Two r ((m * 69621 + 7919) % 2147483647)) 1 = some (.int ((m * 69621 + 7919) % 2147483647)) := rfl
      refine ⟨_, rfl, p, _, _, _, rfl, rfl, SqL.of hp2, g2, .inl ⟨_, rfl, _, _, rfl, rfl, ⟨by decide, by decide, by omega⟩, .inl ⟨_, rfl, _, _, rfl, rfl, (by show (0 : Int) < 1000000007; decide), _, _, rfl, rfl, ⟨by decide, by decide⟩, .inl ⟨_, rfl, _, rfl, _, _, rfl, rfl, (by show 0 < span; omega), ?_⟩⟩⟩⟩
      exact k _ r _ ⟨r0, e1, by omega⟩ (Int.emod_nonneg _ (by omega)) (Int.emod_lt_of_pos _ (by omega))
theorem sc3 : FnScope ["source", "items"] ["source", "items"] (defScope sPick) := ⟨rfl, rfl, rfl, by decide +kernel, rfl, by decide +kernel, by decide +kernel⟩
theorem ok_pick {f fD : Addr} {fd fdD : FuncData} (F : Fun K "_law_pick" "_law_pick" sPick f fd) (B : Bi mg) (FD : Fun K "_law_draw" "_law_draw" sDraw fD fdD) (gD : mg "_law_draw" = some (.ref fD)) (bD : Binds K fdD ["source", "span"] []) :
    FnOk P w K mg base CX0 2 f fd ["source", "items"] (spPick K) := by
  have GD : FnOk P w K mg base CX0 1 fD fdD ["source", "span"] spDraw := ok_draw FD B
  refine F.ok sc3 (fun vs H Q E h => ?_) (fun cdv A outer s H vs Q E hr h => ?_)
  · obtain ⟨p, l, r, m, xs, rfl, _⟩ := h
    rfl
  · obtain ⟨p, l, r, m, xs, rfl, hp, hf, hne, hL, l1, l2, k⟩ := h
    refine ⟨_, pss_one (ps_ret (pe_ix ix_list (pv 1) (pe_call GD hr rfl gD FD.kp bD .nil pass0 (pa_cons (pv 0) (pa_cons (pe_callB call_len_seq (by rfl) B.len PySem.boot_len (pa_cons (pv 1) pa_nil)) pa_nil))) (fun _ _ => rfl))), ?_⟩
    refine ⟨_, rfl, _, rfl, _, rfl, l, xs, rfl, .inl hL, p, r, m, _, rfl, hp, hf, by omega, ?_, fun j r' m' hf' h0 h1 => ?_⟩
    · exact PySem.Flt.log2_lt_of (k := 9000) (by decide) (Nat.lt_of_lt_of_le (by omega : _ < 1001) (Nat.le_trans (by decide : 1001 ≤ 2 ^ 10) (Nat.pow_le_pow_right (by decide) (by decide))))
    · obtain ⟨n, rfl⟩ := Int.eq_ofNat_of_zero_le h0
      have hn : n < xs.length := by omega
      have hit : xs[n]? = some xs[n] := List.getElem?_eq_getElem hn
      refine ⟨l, xs, _, xs[n], rfl, rfl, ?_, atI_nat hit, k n _ r' m' hf' hit⟩
      rcases hL with (h | ⟨o, h⟩) | h
      · exact .inl (.inl (by rw [upd_ne hne]; exact h))
      · exact .inl (.inr ⟨o, by rw [upd_ne hne]; exact h⟩)
      · exact .inr h
end
end S

end
section
set_option autoImplicit false
set_option Elab.async false
set_option linter.all false
set_option maxRecDepth 100000
set_option maxHeartbeats 4000000
/-! ## the program's chains -/
namespace CP
open PySem L2 G Y
abbrev sInteger : Stmt := S.top 2
abbrev sWithin : Stmt := S.top 3
abbrev sCInit : Stmt := inClass (S.top 31) 0
abbrev sCHas : Stmt := inClass (S.top 31) 1
abbrev sCGet : Stmt := inClass (S.top 31) 2
abbrev sCPieces : Stmt := inClass (S.top 31) 6
abbrev sCDigits : Stmt := inClass (S.top 31) 7
abbrev sCStretch : Stmt := inClass (S.top 31) 8
abbrev sCBoundary : Stmt := inClass (S.top 31) 10
abbrev sAreCuts : Stmt := S.top 32
abbrev sCounts : Stmt := S.top 33
abbrev sPieces : Stmt := S.top 34
/-- cuts: falling, at most 1000 -/
structure Cuts (l : List Nat) : Prop where
  fall : N.Fall l
  le : ∀ c ∈ l, c ≤ 1000
  len : l.length ≤ 1000
theorem Cuts.at {l : List Nat} (h : Cuts l) {i c : Nat} (e : l[i]? = some c) : 0 < c ∧ c ≤ 1000 := ⟨h.fall.pos c (List.mem_of_getElem? e), h.le c (List.mem_of_getElem? e)⟩
theorem Cuts.drop {l : List Nat} (h : Cuts l) (i : Nat) : Cuts (l.drop i) := ⟨h.fall.drop i, fun c hc => h.le c (List.mem_of_mem_drop hc), by rw [List.length_drop]; have := h.len; omega⟩
section
variable {P : Program} {w : World} {K : PySem.W.Frag} {mg : Str → Option Value} {base : Heap} {C : Addr}
def spInteger : Sp := fun vs H Q _ => ∃ v : Int, vs = [.int v] ∧ Q (.bl true) H
theorem scIn : FnScope ["value"] ["value"] (defScope sInteger) := ⟨rfl, rfl, rfl, by decide +kernel, rfl, by decide +kernel, by decide +kernel⟩
theorem ok_integer {f : Addr} {fd : FuncData} (F : Fun K "is_integer" "is_integer" sInteger f fd) (B : Bn mg) : FnOk P w K mg base CX0 1 f fd ["value"] spInteger := by
  refine F.ok scIn (fun vs H Q E h => ?_) (fun cdv A outer s H vs Q E hr h => ?_)
  · obtain ⟨v, rfl, _⟩ := h
    rfl
  · obtain ⟨v, rfl, k⟩ := h
    refine ⟨_, pss_one (ps_ret (pe_and (pe_callB call_isi (by rfl) B.isi (by decide +kernel) (pa_cons (pv 0) (pa_cons (pe_bltn (v := .ty "int") (by rfl) B.int (by decide +kernel) rfl) pa_nil)))
      (pe_one (pe_not (pe_callB call_isi (by rfl) B.isi (by decide +kernel) (pa_cons (pv 0) (pa_cons (pe_bltn (v := .ty "bool") (by rfl) B.bool (by decide +kernel) rfl) pa_nil))))))), ?_⟩
    exact ⟨_, rfl, _, _, _, _, _, rfl, .ty _, .base (.int _), kit_ty (r := true) (by decide +kernel), _, rfl, iteT ⟨_, rfl, _, _, _, _, _, rfl, .ty _, .base (.int _), kit_ty (r := false) (by decide +kernel), _, rfl, k⟩⟩
def spWithin : Sp := fun vs H Q _ => ∃ v a b : Int, vs = [.int v, .int a, .int b] ∧ Q (.bl (decide (a ≤ v ∧ v ≤ b))) H
theorem sc3 : FnScope ["value", "least", "greatest"] ["value", "least", "greatest"] (defScope sWithin) := ⟨rfl, rfl, rfl, by decide +kernel, rfl, by decide +kernel, by decide +kernel⟩
theorem ok_within {f : Addr} {fd : FuncData} (F : Fun K "is_within" "is_within" sWithin f fd) (DI : Df P w K mg base 1 "is_integer" ["value"] spInteger) : FnOk P w K mg base CX0 2 f fd ["value", "least", "greatest"] spWithin := by
  obtain ⟨fI, fdI, GI, gI, kI, bI⟩ := DI.ex
  refine F.ok sc3 (fun vs H Q E h => ?_) (fun cdv A outer s H vs Q E hr h => ?_)
  · obtain ⟨v, a, b, rfl, _⟩ := h
    rfl
  · obtain ⟨v, a, b, rfl, k⟩ := h
    refine ⟨_, pss_one (ps_ret (pe_and (pe_call GI hr rfl gI kI bI .nil pass0 (pa_cons (pv 0) pa_nil)) (pe_one (pe_chain op_le op_le (pv 1) (pv 0) (pv 2))))), ?_⟩
    refine ⟨_, rfl, v, rfl, _, rfl, iteT ⟨_, rfl, _, rfl, _, _, rfl, rfl, _, rfl, ?_⟩⟩
    refine ite2 (fun h1 => ⟨_, rfl, _, _, rfl, rfl, ?_⟩) (fun h1 => ?_)
    · have e1 : a ≤ v := of_decide_eq_true h1
      rw [show decide (a ≤ v ∧ v ≤ b) = decide (v ≤ b) by
        by_cases z : v ≤ b
        · rw [decide_eq_true z, decide_eq_true ⟨e1, z⟩]
        · rw [decide_eq_false z, decide_eq_false fun q => z q.2]] at k
      exact k
    · rw [show decide (a ≤ v ∧ v ≤ b) = false from decide_eq_false fun q => h1 (decide_eq_true q.1)] at k
      exact k
/-- _pieces -/
def spPieces (K : PySem.W.Frag) : Sp := fun vs H Q _ => ∃ (b : Nat) (l : List Nat) (t u : Addr), vs = [.int (b : Int), .ref t, .ref u] ∧ SqT K H t (ni l) ∧ SqT K H u (ni (N.cn l)) ∧ Cuts l ∧ ∀ H', Same H H' → Q (.int ((N.PC l b : Nat) : Int)) H'
abbrev NPc : List Str := ["body", "cuts", "counts", "pieces", "rest", "cut", "count"]
theorem scPc : FnScope NPc ["body", "cuts", "counts"] (defScope sPieces) := ⟨rfl, rfl, rfl, by decide +kernel, rfl, by decide +kernel, by decide +kernel⟩
theorem sqT_same {H H' : Hp} {a : Addr} {xs : List V} (s : Same H H') (h : SqT K H a xs) : SqT K H' a xs := h.elim (fun h => .inl (h.elim (fun h => .inl (s _ _ h)) fun ⟨o, h⟩ => .inr ⟨o, s _ _ h⟩)) .inr
theorem ok_pieces {f : Addr} {fd : FuncData} (F : Fun K "_pieces" "_pieces" sPieces f fd) (B : Bn mg) : FnOk P w K mg base CX0 1 f fd ["body", "cuts", "counts"] (spPieces K) := by
  refine F.ok scPc (fun vs H Q E h => ?_) (fun cdv A outer s H vs Q E hr h => ?_)
  · obtain ⟨b, l, t, u, rfl, _⟩ := h
    rfl
  · obtain ⟨b, l, t, u, rfl, hT, hU, hl, k⟩ := h
    refine ⟨_, pss_cons (ps_set (i := 3) scPc.nd rfl (Or.inl rfl) pe_int)
      (pss_cons (ps_set (i := 4) scPc.nd rfl (Or.inl rfl) (pv 0))
      (pss_cons (ps_for PassesOwn.never rfl (RZ.pi_zipA (by rfl) B.zip (pa_cons (pv 1) (pa_cons (pv 2) pa_nil))) (pg_tup (by rfl) (pgs_cons (pg_name (i := 5) scPc.nd rfl (.inl rfl)) (pgs_cons (pg_name (i := 6) scPc.nd rfl (.inl rfl)) pgs_nil)))
        (pss_cons (ps_set (i := 3) scPc.nd rfl (Or.inl rfl) (pe_op op_add (pv 3) (pe_op op_mul (pe_op op_fdiv (pv 4) (pv 5)) (pv 6))))
        (pss_one (ps_set (i := 4) scPc.nd rfl (Or.inl rfl) (pe_op op_mod (pv 4) (pv 5))))))
      (pss_cons (ps_if (PW.pt (pw_or (pt_cmpR op_gt (pv 4) pe_int (nomark _)) (pw_or1 (pt_cmpR op_eq (pv 0) pe_int (nomark _))))) (pss_one (ps_set (i := 3) scPc.nd rfl (Or.inl rfl) (pe_op op_add (pv 3) pe_int))) pss_nil)
      (pss_one (ps_ret (pv 3)))))), ?_⟩
    refine ⟨_, rfl, _, rfl, _, rfl, t, u, _, _, rfl, .inr ⟨hT, hU, ?_⟩⟩
    refine RZ.for_zipT (by rw [ni_len, ni_len, N.cn_len]) (fun i σ G => Same H G ∧ ∃ (p r : Nat) (q1 q2 : Option V), σ = [some (.int (b : Int)), some (.ref t), some (.ref u), some (.int (p : Int)), some (.int (r : Int)), q1, q2] ∧ p + N.sm (l.drop i) r = N.sm l b ∧ N.rem (l.drop i) r = N.rem l b)
      ⟨Same.refl H, 0, b, _, _, rfl, by rw [List.drop_zero, Nat.zero_add], by rw [List.drop_zero]⟩ (fun i σ G z => ⟨sqT_same z.1 hT, sqT_same z.1 hU⟩) ?_ ?_
    · rintro i x y T σ G hx hy ⟨s1, p, r, q1, q2, rfl, e1, e2⟩ hT0
      obtain ⟨c, hc, rfl⟩ := ni_get hx
      obtain ⟨n, hn, rfl⟩ := ni_get hy
      obtain ⟨c2, hc2, en⟩ := N.cn_at hn
      rw [hc] at hc2
      cases hc2
      have pc := hl.at hc
      have nle := N.L_le (hl.drop (i + 1)).fall pc.1
      rw [← en] at nle
      refine ⟨T, _, rfl, SqT.of upd_same, rfl, _, _, rfl, _, _, rfl, rfl, ?_⟩
      refine ⟨_, rfl, _, rfl, _, rfl, _, _, rfl, rfl, ⟨by omega, by omega⟩, _, rfl, _, _, rfl, rfl, .inr ⟨by omega, by omega⟩, _, _, rfl, rfl, ?_⟩
      refine ⟨_, rfl, _, rfl, _, _, rfl, rfl, by show (0 : Int) < (c : Int); omega, ?_⟩
      refine ⟨s1.trans (of_upd hT0), p + r / c * n, r % c, _, _, rfl, ?_, ?_⟩
      · rw [drop_at hc] at e1
        rw [N.sm_cons, ← en] at e1
        omega
      · rw [drop_at hc, N.rem_cons] at e2
        exact e2
    · rintro σ G ⟨s1, p, r, q1, q2, rfl, e1, e2⟩
      rw [ni_len, List.drop_length] at e1 e2
      rw [N.sm_nil] at e1
      rw [N.rem_nil] at e2
      have fin : ∀ z : Nat, z = N.PC l b → Q (.int (z : Int)) G := fun z e => by rw [e]; exact k G s1
      refine ⟨_, rfl, _, _, rfl, rfl, _, rfl, ite2 (fun c => ?_) (fun c => ⟨_, rfl, rfl, _, rfl, ite2 (fun d => ?_) (fun d => ?_)⟩)⟩
      · refine ⟨_, rfl, _, _, rfl, rfl, _, rfl, fin (p + 1) ?_⟩
        have c2 : (0 : Int) < (r : Int) := of_decide_eq_true c
        rw [N.PC_sm, if_pos (.inl (by omega))]
        omega
      · refine ⟨_, rfl, _, _, rfl, rfl, _, rfl, fin (p + 1) ?_⟩
        have d2 : V.int (b : Int) = V.int 0 := of_decide_eq_true d
        injection d2 with d2
        rw [N.PC_sm, if_pos (.inr (by omega))]
        omega
      · refine ⟨_, rfl, fin p ?_⟩
        have c2 : ¬ (0 : Int) < (r : Int) := fun z => c (decide_eq_true z)
        have d2 : b ≠ 0 := fun z => d (decide_eq_true (by rw [z]; rfl))
        rw [N.PC_sm, if_neg (by omega)]
        omega
end
end CP

end
section
set_option autoImplicit false
set_option Elab.async false
set_option linter.all false
set_option maxRecDepth 100000
set_option maxHeartbeats 4000000
namespace CP
open PySem L2 G Y
section
variable {P : Program} {w : World} {K : PySem.W.Frag} {mg : Str → Option Value} {base : Heap} {C : Addr}
/-- _piece_counts -/
def spCounts (K : PySem.W.Frag) : Sp := fun vs H Q _ => ∃ (l : List Nat) (t : Addr), vs = [.ref t] ∧ SqT K H t (ni l) ∧ Cuts l ∧ ∀ u H', Same H H' → H' u = some (.tup (ni (N.cn l))) → Q (.ref u) H'
theorem scCn : FnScope ["cuts", "counts", "at"] ["cuts"] (defScope sCounts) := ⟨rfl, rfl, rfl, by decide +kernel, rfl, by decide +kernel, by decide +kernel⟩
theorem ok_counts {f : Addr} {fd : FuncData} (F : Fun K "_piece_counts" "_piece_counts" sCounts f fd) (B : Bn mg) (DP : Df P w K mg base 1 "_pieces" ["body", "cuts", "counts"] (spPieces K)) : FnOk P w K mg base CX0 2 f fd ["cuts"] (spCounts K) := by
  obtain ⟨fP, fdP, GP, gP, kP, bP⟩ := DP.ex
  refine F.ok scCn (fun vs H Q E h => ?_) (fun cdv A outer s H vs Q E hr h => ?_)
  · obtain ⟨l, t, rfl, _⟩ := h
    rfl
  · obtain ⟨l, t, rfl, hT, hl, k⟩ := h
    refine ⟨_, pss_cons (ps_set (i := 1) scCn.nd rfl (Or.inl rfl) (pe_tup pa_nil))
      (pss_cons (ps_for PassesOwn.never rfl (pi_range3 (by rfl) B.range (pa_cons (pe_op op_sub (pe_callB call_len_seq (by rfl) B.len PySem.boot_len (pa_cons (pv 0) pa_nil)) pe_int) (pa_cons (pe_un un_neg pe_int) (pa_cons (pe_un un_neg pe_int) pa_nil)))) (pg_name (i := 2) scCn.nd rfl (Or.inl rfl))
        (pss_one (ps_set (i := 1) scCn.nd rfl (Or.inl rfl) (pe_tup (pa_cons (pe_call GP hr rfl gP kP bP .nil pass0 (pa_cons (pe_ix ix_tup (pv 0) (pv 2) (fun _ _ => rfl)) (pa_cons (pe_slice sl_tup (pv 0) (po_some (pe_op op_add (pv 2) pe_int)) po_none) (pa_cons (pv 1) pa_nil)))) (StX.pa_star (pv 1) pa_nil))))))
      (pss_one (ps_ret (pv 1)))), ?_⟩
    have ln := hl.len
    refine ⟨line2.2.2.2, fun u0 h0 => ?_⟩
    have s0 : Same H (upd H u0 (.tup [])) := of_upd h0
    refine ⟨_, rfl, t, _, rfl, .inr (sqT_same s0 hT), _, _, rfl, rfl, 1, rfl, 1, rfl, _, _, _, _, rfl, RgC.neg (by rw [ni_len]; omega) (by rw [ni_len]; omega) (by decide) (by decide), ?_⟩
    rw [ni_len]
    refine for_rangeC (n := ((l.length : Int) - 1 - -1).toNat) (fun i σ G => Same H G ∧ ∃ u q, σ = [some (.ref t), some (.ref u), q] ∧ G u = some (.tup (ni (N.cn (l.drop (l.length - i))))))
      ⟨s0, u0, _, rfl, by rw [Nat.sub_zero, List.drop_length]; exact upd_same⟩ ?_ ?_
    · rintro i σ G hi ⟨s1, u, q, rfl, hu⟩
      have hi2 : i < l.length := by omega
      obtain ⟨c, hc⟩ : ∃ c, l[l.length - 1 - i]? = some c := ⟨_, List.getElem?_eq_getElem (by omega)⟩
      have pc := hl.at hc
      have ei : (l.length : Int) - 1 + (i : Int) * -1 = ((l.length - 1 - i : Nat) : Int) := by omega
      have e2 : l.length - 1 - i + 1 = l.length - i := by omega
      have e3 : l.length - (i + 1) = l.length - 1 - i := by omega
      dsimp only
      rw [ei]
      refine ⟨_, rfl, _, rfl, t, _, _, _, rfl, rfl, sqT_same s1 hT, atI_nat (ni_at hc), _, rfl, _, rfl, _, _, rfl, rfl, _, rfl, t, _, rfl, sqT_same s1 hT, ?_, fun a ha => ?_⟩
      · intro z
        have e4 : ((l.length - 1 - i : Nat) : Int) + 1 = ((l.length - i : Nat) : Int) := by omega
        rw [e4] at z
        exact six_pos (by omega) (by rw [ni_len]; omega) 0 z.1
      have e4 : cutV (ni l) (some (((l.length - 1 - i : Nat) : Int) + 1)) none = ni (l.drop (l.length - i)) := by
        rw [show ((l.length - 1 - i : Nat) : Int) + 1 = ((l.length - i : Nat) : Int) by omega, cut_from, ni_drop]
      rw [e4]
      have s2 : Same G (upd G a (.tup (ni (l.drop (l.length - i))))) := of_upd ha
      refine ⟨_, rfl, c, l.drop (l.length - i), a, u, rfl, SqT.of upd_same, SqT.of (s2 _ _ hu), hl.drop _, fun G2 s3 => ?_⟩
      have hu2 := s3 _ _ (s2 _ _ hu)
      refine ⟨_, rfl, u, _, rfl, .inl (SqT.of hu2), ?_, fun v hv => ?_⟩
      · rw [List.append_nil]
        show (ni (N.cn (l.drop (l.length - i)))).length + 1 ≤ sizeLine
        rw [ni_len, N.cn_len, List.length_drop]
        exact Nat.le_trans (show l.length - (l.length - i) + 1 ≤ 1001 by omega) (by decide)
      · refine ⟨(s1.trans s2).trans (s3.trans (of_upd hv)), v, _, rfl, ?_⟩
        rw [upd_same, e3, drop_at hc, e2, List.append_nil]
        have e5 : N.PC (l.drop (l.length - i)) c = N.L (l.drop (l.length - i)) c := if_neg (by omega)
        rw [e5]
        rfl
    · rintro σ G ⟨s1, u, q, rfl, hu⟩
      rw [show l.length - ((l.length : Int) - 1 - -1).toNat = 0 by omega, List.drop_zero] at hu
      exact ⟨_, rfl, k u G s1 hu⟩
/-- _are_cuts of cuts -/
def spAre : Sp := fun vs H Q _ => ∃ (l : List Nat) (t : Addr), vs = [.ref t] ∧ SAt H t (ni l) ∧ Cuts l ∧ ∀ H', Same H H' → Q (.bl true) H'
theorem scAre : FnScope ["value", "before", "cut"] ["value"] (defScope sAreCuts) := ⟨rfl, rfl, rfl, by decide +kernel, rfl, by decide +kernel, by decide +kernel⟩
theorem ok_are {f : Addr} {fd : FuncData} (F : Fun K "_are_cuts" "_are_cuts" sAreCuts f fd) (B : Bn mg) (gC : ∃ t, mg "GREATEST_CUT" = some (.int 1000 t)) (DW : Df P w K mg base 2 "is_within" ["value", "least", "greatest"] spWithin) : FnOk P w K mg base CX0 3 f fd ["value"] spAre := by
  obtain ⟨fW, fdW, GW, gW, kW, bW⟩ := DW.ex
  obtain ⟨tkC, gC⟩ := gC
  refine F.ok scAre (fun vs H Q E h => ?_) (fun cdv A outer s H vs Q E hr h => ?_)
  · obtain ⟨l, t, rfl, _⟩ := h
    rfl
  · obtain ⟨l, t, rfl, hT, hl, k⟩ := h
    refine ⟨_, pss_cons (ps_if (pt_not (pt_val (pe_callB call_isiT (by rfl) B.isi (by decide +kernel) (pa_cons (pv 0) (pa_cons (pe_tup (pa_cons (pe_bltn (v := .ty "list") (by rfl) B.list (by decide +kernel) rfl) (pa_cons (pe_bltn (v := .ty "tuple") (by rfl) B.tuple (by decide +kernel) rfl) pa_nil))) pa_nil))))) ps_dead pss_nil)
      (pss_cons (ps_set (i := 1) scAre.nd rfl (Or.inl rfl) (pe_op op_add (pe_glob (v := .int 1000) rfl gC ⟨_, rfl⟩) pe_int))
      (pss_cons (ps_for PassesOwn.never rfl (pi_or (pi_list (pv 0)) (pi_tup (pv 0))) (pg_name (i := 2) scAre.nd rfl (Or.inl rfl))
        (pss_cons (ps_if (pt_not (pt_val (pe_call GW hr rfl gW kW bW .nil pass0 (pa_cons (pv 2) (pa_cons pe_int (pa_cons (pe_op op_sub (pv 1) pe_int) pa_nil)))))) ps_dead pss_nil)
        (pss_one (ps_set (i := 1) scAre.nd rfl (Or.inl rfl) (pv 2)))))
      (pss_one (ps_ret pe_bl)))), ?_⟩
    refine ⟨_, rfl, line2.1, fun p hp => ?_⟩
    have sp : Same H (upd H p (.tup [.ty "list", .ty "tuple"])) := of_upd hp
    have hT2 := hT.mono sp
    have rest : (tSeq (tAsg (tOp (rI0 fun i j => .int (i + j)) (tC (.int 1000)) (tC (.int 1))) (gName 1)) (tSeq (tFor (fun σ H R => iList K (tVar 0) σ H R ∨ iTup K (tVar 0) σ H R) (gName 2) (tSeq (tIfS (tNot (tB (tCall spWithin [] E0 (tCons (tVar 2) (tCons (tC (.int 1)) (tCons (tOp (rI0 fun i j => .int (i - j)) (tVar 1) (tC (.int 1))) tNil)))))) tDead tNext) (tAsg (tVar 2) (gName 1)))) (tRet (tC (.bl true)))))
        { nx := fun _ H' => Q .non H', rt := Q } [some (.ref t), none, none] (upd H p (.tup [.ty "list", .ty "tuple"])) := by
      refine ⟨_, _, rfl, rfl, ?_⟩
      refine or_seq (fun Q2 h => ⟨_, rfl, h⟩) hT2 fun J Gd hG wk => ?_
      refine for_it wk (fun i σ G => Same H G ∧ Same (upd H p (.tup [.ty "list", .ty "tuple"])) G ∧ ∃ (b : Int) (q : Option V), σ = [some (.ref t), some (.int b), q] ∧ ∀ c ∈ l.drop i, (c : Int) < b)
        ⟨sp, Same.refl _, 1001, _, rfl, fun c hc => by have := hl.le c (List.mem_of_mem_drop hc); omega⟩ (fun i σ G _ z => hG G z.2.1) ?_ ?_
      · rintro i x σ G G' hi ⟨s1, s2, b, q, rfl, hb⟩ ⟨rfl, hx⟩
        obtain ⟨c, hc, rfl⟩ := ni_get hx
        have pc := hl.at hc
        have lt := hb c (by rw [drop_at hc]; exact List.mem_cons_self)
        have fl := (hl.drop i).fall
        rw [drop_at hc] at fl
        dsimp only
        refine ⟨_, rfl, _, rfl, _, _, rfl, rfl, (c : Int), 1, b - 1, rfl, ?_⟩
        rw [decide_eq_true (by omega)]
        exact ⟨_, rfl, iteF ⟨_, rfl, s1, s2, (c : Int), _, rfl, fun d hd => by have := fl.2.1 d hd; omega⟩⟩
      · rintro σ G ⟨s1, s2, b, q, rfl, hb⟩
        exact k G s1
    have kl : PySem.W.kitAny K (.type "list") [.type "list", .type "tuple"] = some true := by
      unfold PySem.W.kitAny
      rw [kit_ty (r := true) (by decide +kernel)]
    have kt : PySem.W.kitAny K (.type "tuple") [.type "list", .type "tuple"] = some true := by
      unfold PySem.W.kitAny
      rw [kit_ty (r := false) (by decide +kernel)]
      unfold PySem.W.kitAny
      rw [kit_ty (r := true) (by decide +kernel)]
    rcases hT2 with e | e
    · exact ⟨_, p, _, _, _, _, rfl, upd_same, .cons (.ty _) (.cons (.ty _) .nil), .base (.lst e), kl, _, rfl, iteF rest⟩
    · exact ⟨_, p, _, _, _, _, rfl, upd_same, .cons (.ty _) (.cons (.ty _) .nil), .base (.tup e), kt, _, rfl, iteF rest⟩
end
end CP

end
section
set_option autoImplicit false
set_option Elab.async false
set_option linter.all false
set_option maxRecDepth 100000
set_option maxHeartbeats 4000000
namespace CP
open PySem L2 G Y
theorem nk : ¬ (("cuts" : Str) = "_counts") := by decide +kernel
def cfl (t u : Addr) : List (Str × V) := putF "_counts" (.ref u) (putF "cuts" (.ref t) [])
theorem cfl_cuts (t u : Addr) : (cfl t u).lookup ("cuts" : Str) = some (.ref t) := by
  unfold cfl
  rw [lookup_putF, if_neg nk, lookup_putF, if_pos rfl]
theorem cfl_counts (t u : Addr) : (cfl t u).lookup ("_counts" : Str) = some (.ref u) := by
  unfold cfl
  rw [lookup_putF, if_pos rfl]
/-- a chain stands at a -/
def ChAt (C : Addr) (H : Hp) (l : List Nat) (a : Addr) : Prop := ∃ dx t u, H a = some (.ins C dx (cfl t u)) ∧ H t = some (.tup (ni l)) ∧ H u = some (.tup (ni (N.cn l)))
theorem ChAt.mono {C : Addr} {H H' : Hp} (s : Same H H') {l : List Nat} {a : Addr} (h : ChAt C H l a) : ChAt C H' l a := by
  obtain ⟨dx, t, u, h1, h2, h3⟩ := h
  exact ⟨dx, t, u, s _ _ h1, s _ _ h2, s _ _ h3⟩
structure Ct (K : PySem.W.Frag) (mg : Str → Option Value) (C : Addr) : Prop where
  g : mg "Chain" = some (.ref C)
  cl : Cls K C
  nC : NoAttr K C "cuts"
  nK : NoAttr K C "_counts"
section
variable {P : Program} {w : World} {K : PySem.W.Frag} {mg : Str → Option Value} {base : Heap} {C : Addr}
def spCInit (C : Addr) : Sp := fun vs H Q _ => ∃ (x l dx : Addr) (cs : List Nat) (H0 : Hp), vs = [.ref x, .ref l] ∧ H x = some (.ins C dx []) ∧ H0 x = none ∧ Same H0 H ∧ SAt H0 l (ni cs) ∧ Cuts cs ∧ ∀ H', Same H0 H' → ChAt C H' cs x → Q .non H'
theorem scCI : FnScope ["self", "cuts"] ["self", "cuts"] (defScope sCInit) := ⟨rfl, rfl, rfl, by decide +kernel, rfl, by decide +kernel, by decide +kernel⟩
theorem ok_cinit {f : Addr} {fd : FuncData} (F : Fun K "__init__" "Chain.__init__" sCInit f fd) (B : Bn mg) (T : Ct K mg C) (DA : Df P w K mg base 3 "_are_cuts" ["value"] spAre) (DC : Df P w K mg base 2 "_piece_counts" ["cuts"] (spCounts K)) : FnOk P w K mg base CX0 4 f fd ["self", "cuts"] (spCInit C) := by
  obtain ⟨fA, fdA, GA, gA, kA, bA⟩ := DA.ex
  obtain ⟨fC, fdC, GC, gC, kC, bC⟩ := DC.ex
  refine F.ok scCI (fun vs H Q E h => ?_) (fun cdv A outer s H vs Q E hr h => ?_)
  · obtain ⟨x, l, dx, cs, H0, rfl, _⟩ := h
    rfl
  · obtain ⟨x, l, dx, cs, H0, rfl, hx, hx0, s0, hl, hc, k⟩ := h
    refine ⟨_, pss_cons (ps_if (pt_not (pt_val (pe_call GA hr rfl gA kA bA .nil pass0 (pa_cons (pv 1) pa_nil)))) ps_dead pss_nil)
      (pss_cons (ps_fld (pv 0) (pe_callTy call_tuple_of (by rfl) B.tuple (by decide +kernel) (pa_cons (pv 1) pa_nil)) rfl)
      (pss_one (ps_fld (pv 0) (pe_call GC (hr.mono (by decide)) rfl gC kC bC .nil pass0 (pa_cons (pe_fld (pv 0) rfl) pa_nil)) rfl))), ?_⟩
    refine ⟨_, rfl, cs, l, rfl, hl.mono s0, hc, fun G1 s1 => ⟨_, rfl, iteF ?_⟩⟩
    have s01 := s0.trans s1
    have hx1 := s1 _ _ hx
    have fin : ∀ (t : Addr) (G2 : Hp), Same G1 G2 → G2 t = some (.tup (ni cs)) → sFld K (tVar 0) (tC (.ref t)) "cuts" { nx := fun σ H => sFld K (tVar 0) (tCall (spCounts K) [] E0 (tCons (tFld K (tVar 0) "cuts") tNil)) "_counts" { nx := fun _ H' => Q .non H', rt := Q } σ H, rt := Q } [some (.ref x), some (.ref l)] G2 := fun t G2 s2 ht => by
      have hx2 := s2 _ _ hx1
      have s02 := s01.trans s2
      have tx : t ≠ x := fun z => by
        rw [z, hx2] at ht
        cases ht
      refine ⟨_, rfl, x, C, dx, _, rfl, hx2, T.cl, T.nC, by decide, ?_⟩
      have s3 : Same H0 (upd G2 x (.ins C dx (putF "cuts" (.ref t) []))) := add_upd hx0 s02
      have ht3 : (upd G2 x (.ins C dx (putF "cuts" (.ref t) []))) t = some (.tup (ni cs)) := by rw [upd_ne tx]; exact ht
      refine ⟨_, rfl, x, C, dx, _, _, rfl, upd_same, T.cl, T.nC, by rw [lookup_putF, if_pos rfl], cs, t, rfl, SqT.of ht3, hc, fun u G3 s4 hu => ?_⟩
      refine ⟨_, rfl, x, C, dx, _, rfl, s4 _ _ upd_same, T.cl, T.nK, len_put (by decide), ?_⟩
      have ux : u ≠ x := fun z => by
        rw [z, s4 _ _ upd_same] at hu
        cases hu
      refine k _ (add_upd hx0 (s3.trans s4)) ⟨dx, t, u, upd_same, ?_, ?_⟩
      · rw [upd_ne tx]
        exact s4 _ _ ht3
      · rw [upd_ne ux]
        exact hu
    rcases (hl.mono s0).mono s1 with e | e
    · exact ⟨_, rfl, l, _, rfl, .inl ⟨SqL.of e, fun t nt => fin t _ (of_upd nt) upd_same⟩⟩
    · exact ⟨_, rfl, l, _, rfl, .inr ⟨SqT.of e, fin l _ (Same.refl _) e⟩⟩
/-- Chain(cuts) -/
theorem made_ch {H : Hp} {Z : VK} {E : XK} {l x dx : Addr} {cs : List Nat} (hx : H x = none) (hdx : H dx = none) (ne : dx ≠ x) (hl : SAt H l (ni cs)) (hc : Cuts cs) (k : ∀ H', Same H H' → ChAt C H' cs x → Z .non H') :
    spCInit C (.ref x :: ([.ref l] ++ [])) (upd (upd H dx (.own x)) x (.ins C dx [])) Z E :=
  ⟨x, l, dx, cs, H, rfl, upd_same, hx, (of_upd hdx).trans (of_upd (by rw [upd_ne ne.symm]; exact hx)), hl, hc, k⟩
/-- pieces -/
def spCPieces (C : Addr) : Sp := fun vs H Q _ => ∃ (a : Addr) (b : Nat) (cs : List Nat), vs = [.ref a, .int (b : Int)] ∧ ChAt C H cs a ∧ Cuts cs ∧ ∀ H', Same H H' → Q (.int ((N.PC cs b : Nat) : Int)) H'
theorem scCP : FnScope ["self", "body"] ["self", "body"] (defScope sCPieces) := ⟨rfl, rfl, rfl, by decide +kernel, rfl, by decide +kernel, by decide +kernel⟩
theorem ok_cpieces {f : Addr} {fd : FuncData} (F : Fun K "pieces" "Chain.pieces" sCPieces f fd) (T : Ct K mg C) (DP : Df P w K mg base 1 "_pieces" ["body", "cuts", "counts"] (spPieces K)) : FnOk P w K mg base CX0 2 f fd ["self", "body"] (spCPieces C) := by
  obtain ⟨fP, fdP, GP, gP, kP, bP⟩ := DP.ex
  refine F.ok scCP (fun vs H Q E h => ?_) (fun cdv A outer s H vs Q E hr h => ?_)
  · obtain ⟨a, b, cs, rfl, _⟩ := h
    rfl
  · obtain ⟨a, b, cs, rfl, ⟨dx, t, u, h1, h2, h3⟩, hc, k⟩ := h
    exact ⟨_, pss_one (ps_ret (pe_call GP hr rfl gP kP bP .nil pass0 (pa_cons (pv 1) (pa_cons (pe_fld (pv 0) rfl) (pa_cons (pe_fld (pv 0) rfl) pa_nil))))), _, rfl, _, rfl, a, C, dx, _, _, rfl, h1, T.cl, T.nC, cfl_cuts t u, _, rfl, a, C, dx, _, _, rfl, h1, T.cl, T.nK, cfl_counts t u, b, cs, t, u, rfl, SqT.of h2, SqT.of h3, hc, k⟩
/-- digits -/
def spCDigits (C : Addr) : Sp := fun vs H Q _ => ∃ (a : Addr) (p : Nat) (cs : List Nat), vs = [.ref a, .int (p : Int)] ∧ ChAt C H cs a ∧ Cuts cs ∧ ∀ t H', Same H H' → H' t = some (.tup (ni (N.dig cs p))) → Q (.ref t) H'
theorem scCD : FnScope ["self", "place", "told", "rest", "cut"] ["self", "place"] (defScope sCDigits) := ⟨rfl, rfl, rfl, by decide +kernel, rfl, by decide +kernel, by decide +kernel⟩
theorem ok_cdigits {f : Addr} {fd : FuncData} (F : Fun K "digits" "Chain.digits" sCDigits f fd) (T : Ct K mg C) : FnOk P w K mg base CX0 1 f fd ["self", "place"] (spCDigits C) := by
  refine F.ok scCD (fun vs H Q E h => ?_) (fun cdv A outer s H vs Q E hr h => ?_)
  · obtain ⟨a, p, cs, rfl, _⟩ := h
    rfl
  · obtain ⟨a, p, cs, rfl, ⟨dx, t, u, h1, h2, h3⟩, hc, k⟩ := h
    refine ⟨_, pss_cons (ps_set (i := 2) scCD.nd rfl (Or.inl rfl) (pe_lst pa_nil))
      (pss_cons (ps_set (i := 3) scCD.nd rfl (Or.inl rfl) (pv 1))
      (pss_cons (ps_for PassesOwn.never rfl (pi_tup (pe_fld (pv 0) rfl)) (pg_name (i := 4) scCD.nd rfl (Or.inl rfl))
        (pss_cons (ps_expr (pe_bm PySem.F.plainAttrs_list PySem.F.slot_list_append PySem.F.type_list_append mt_append (pv 2) (pa_cons (pe_op op_fdiv (pv 3) (pv 4)) pa_nil)))
        (pss_one (ps_set (i := 3) scCD.nd rfl (Or.inl rfl) (pe_op op_mod (pv 3) (pv 4))))))
      (pss_one (ps_ret (pe_tup (StX.pa_star (pv 2) (pa_cons (pv 3) pa_nil))))))), ?_⟩
    have ln := hc.len
    refine ⟨line2.2.2.2, fun D hD => ?_⟩
    have s0 : Same H (upd H D (.lst [])) := of_upd hD
    refine ⟨_, rfl, _, rfl, a, C, dx, _, _, rfl, s0 _ _ h1, T.cl, T.nC, cfl_cuts t u, ?_⟩
    refine ⟨t, rfl, ⟨_, SqT.of (s0 _ _ h2)⟩, for_it walk_tup (fun i σ G => Same H G ∧ ∃ (ds : List Nat) (r : Nat) (q : Option V), σ = [some (.ref a), some (.int (p : Int)), some (.ref D), some (.int (r : Int)), q] ∧ G D = some (.lst (ni ds)) ∧ ds.length = i ∧ ds ++ N.dig (cs.drop i) r = N.dig cs p)
      ⟨s0, [], p, _, rfl, upd_same, rfl, rfl⟩ (fun i σ G _ z => SqT.of (z.1 _ _ h2)) ?_ ?_⟩
    · rintro i x σ G G' hi ⟨s1, ds, r, q, rfl, hG, hd, ed⟩ ⟨rfl, hx⟩
      obtain ⟨c, hcc, rfl⟩ := ni_get hx
      have pc := hc.at hcc
      rw [ni_len] at hi
      dsimp only
      refine ⟨_, rfl, .inl ⟨rfl, _, SqL.of hG⟩, _, rfl, _, rfl, _, _, rfl, rfl, ⟨by omega, by omega⟩, D, _, _, rfl, rfl, hG, by rw [ni_len]; exact small1000 (by omega), ?_⟩
      refine ⟨_, rfl, _, rfl, _, _, rfl, rfl, by show (0 : Int) < (c : Int); omega, ?_⟩
      refine ⟨add_upd hD s1, ds ++ [r / c], r % c, _, rfl, ?_, by simp; exact hd, ?_⟩
      · rw [upd_same, ni_app]
        rfl
      · rw [drop_at hcc] at ed
        rw [List.append_assoc]
        exact ed
    · rintro σ G ⟨s1, ds, r, q, rfl, hG, hd, ed⟩
      rw [ni_len, List.drop_length] at ed
      refine ⟨_, rfl, D, _, rfl, .inr (SqL.of hG), _, rfl, ?_, fun v hv => ?_⟩
      · rw [ni_len] at hd
        rw [List.length_append, ni_len]
        exact Nat.le_trans (show ds.length + 1 ≤ 1001 by omega) (by decide)
      · refine k v _ (s1.trans (of_upd hv)) ?_
        rw [upd_same, ← ed, ni_app]
        rfl
/-- _boundary -/
def spCBound (C : Addr) : Sp := fun vs H Q _ => ∃ (a : Addr) (n : Nat) (cs : List Nat), vs = [.ref a, .int (n : Int)] ∧ ChAt C H cs a ∧ Cuts cs ∧ ∀ H', Same H H' → Q (.int ((N.B cs n : Nat) : Int)) H'
abbrev NBo : List Str := ["self", "number", "place", "rest", "cut", "count"]
theorem scCB : FnScope NBo ["self", "number"] (defScope sCBoundary) := ⟨rfl, rfl, rfl, by decide +kernel, rfl, by decide +kernel, by decide +kernel⟩
theorem ok_cbound {f : Addr} {fd : FuncData} (F : Fun K "_boundary" "Chain._boundary" sCBoundary f fd) (B : Bn mg) (T : Ct K mg C) : FnOk P w K mg base CX0 1 f fd ["self", "number"] (spCBound C) := by
  refine F.ok scCB (fun vs H Q E h => ?_) (fun cdv A outer s H vs Q E hr h => ?_)
  · obtain ⟨a, n, cs, rfl, _⟩ := h
    rfl
  · obtain ⟨a, n, cs, rfl, ⟨dx, t, u, h1, h2, h3⟩, hl, k⟩ := h
    refine ⟨_, pss_cons (ps_set (i := 2) scCB.nd rfl (Or.inl rfl) pe_int)
      (pss_cons (ps_set (i := 3) scCB.nd rfl (Or.inl rfl) (pv 1))
      (pss_cons (ps_for PassesOwn.never rfl (RZ.pi_zipA (by rfl) B.zip (pa_cons (pe_fld (pv 0) rfl) (pa_cons (pe_fld (pv 0) rfl) pa_nil))) (pg_tup (by rfl) (pgs_cons (pg_name (i := 4) scCB.nd rfl (.inl rfl)) (pgs_cons (pg_name (i := 5) scCB.nd rfl (.inl rfl)) pgs_nil)))
        (pss_cons (ps_set (i := 2) scCB.nd rfl (Or.inl rfl) (pe_op op_add (pv 2) (pe_op op_mul (pe_op op_fdiv (pv 3) (pv 5)) (pv 4))))
        (pss_one (ps_set (i := 3) scCB.nd rfl (Or.inl rfl) (pe_op op_mod (pv 3) (pv 5))))))
      (pss_one (ps_ret (pv 2))))), ?_⟩
    refine ⟨_, rfl, _, rfl, a, C, dx, _, _, rfl, h1, T.cl, T.nC, cfl_cuts t u, _, rfl, a, C, dx, _, _, rfl, h1, T.cl, T.nK, cfl_counts t u, t, u, _, _, rfl, .inr ⟨SqT.of h2, SqT.of h3, ?_⟩⟩
    refine RZ.for_zipT (by rw [ni_len, ni_len, N.cn_len]) (fun i σ G => Same H G ∧ ∃ (p r : Nat) (q1 q2 : Option V), σ = [some (.ref a), some (.int (n : Int)), some (.int (p : Int)), some (.int (r : Int)), q1, q2] ∧ p + N.B (cs.drop i) r = N.B cs n)
      ⟨Same.refl H, 0, n, _, _, rfl, by rw [List.drop_zero, Nat.zero_add]⟩ (fun i σ G z => ⟨SqT.of (z.1 _ _ h2), SqT.of (z.1 _ _ h3)⟩) ?_ ?_
    · rintro i x y Tt σ G hx hy ⟨s1, p, r, q1, q2, rfl, e1⟩ hT0
      obtain ⟨c, hc, rfl⟩ := ni_get hx
      obtain ⟨m, hn, rfl⟩ := ni_get hy
      obtain ⟨c2, hc2, en⟩ := N.cn_at hn
      rw [hc] at hc2
      cases hc2
      have pc := hl.at hc
      have nle := N.L_le (hl.drop (i + 1)).fall pc.1
      have npos := N.L_pos (cs.drop (i + 1)) (hl.drop (i + 1)).fall c pc.1
      rw [← en] at nle npos
      refine ⟨Tt, _, rfl, SqT.of upd_same, rfl, _, _, rfl, _, _, rfl, rfl, ?_⟩
      refine ⟨_, rfl, _, rfl, _, rfl, _, _, rfl, rfl, ⟨by omega, by omega⟩, _, rfl, _, _, rfl, rfl, .inr ⟨by omega, by omega⟩, _, _, rfl, rfl, ?_⟩
      refine ⟨_, rfl, _, rfl, _, _, rfl, rfl, by show (0 : Int) < (m : Int); omega, ?_⟩
      refine ⟨s1.trans (of_upd hT0), p + r / m * c, r % m, _, _, rfl, ?_⟩
      rw [drop_at hc, N.B_cons, ← en] at e1
      omega
    · rintro σ G ⟨s1, p, r, q1, q2, rfl, e1⟩
      rw [ni_len, List.drop_length] at e1
      have e2 : p = N.B cs n := e1
      rw [← e2] at k
      exact ⟨_, rfl, k G s1⟩
end
end CP

end
section
set_option autoImplicit false
set_option Elab.async false
set_option linter.all false
set_option maxRecDepth 100000
set_option maxHeartbeats 4000000
namespace CP
open PySem L2 G Y
theorem nk2 : (¬ (("pieces" : Str) = "cuts") ∧ ¬ (("pieces" : Str) = "_counts")) ∧ (¬ (("_boundary" : Str) = "cuts") ∧ ¬ (("_boundary" : Str) = "_counts")) ∧ (¬ (("digits" : Str) = "cuts") ∧ ¬ (("digits" : Str) = "_counts")) ∧ (¬ (("stretch" : Str) = "cuts") ∧ ¬ (("stretch" : Str) = "_counts")) := by decide +kernel
theorem no_fld {m : Str} (t u : Addr) (h : ¬ (m = "cuts") ∧ ¬ (m = "_counts")) : (cfl t u).lookup m = none := by
  unfold cfl
  rw [lookup_putF, if_neg h.2, lookup_putF, if_neg h.1]
  rfl
/-- a method, and what it promises -/
structure Me (P : Program) (w : World) (K : PySem.W.Frag) (mg : Str → Option Value) (base : Heap) (C : Addr) (k : Nat) (m : Str) (ps : List Str) (sp : Sp) : Prop where
  ex : ∃ (f : Addr) (fd : FuncData), FnOk P w K mg base CX0 k f fd ps sp ∧ Meth K C m f ∧ Binds K fd ps []
section
variable {P : Program} {w : World} {K : PySem.W.Frag} {mg : Str → Option Value} {base : Heap} {C : Addr}
theorem ChAt.ins {H : Hp} {l : List Nat} {a : Addr} (h : ChAt C H l a) {m : Str} (hm : ¬ (m = "cuts") ∧ ¬ (m = "_counts")) : ∃ dx fs, H a = some (.ins C dx fs) ∧ fs.lookup m = none := by
  obtain ⟨dx, t, u, h1, _, _⟩ := h
  exact ⟨dx, _, h1, no_fld t u hm⟩
def stretchZ (cs : List Nat) (b n : Nat) : Int := (if n = N.PC cs b then (b : Int) else ((N.B cs n : Nat) : Int)) - ((N.B cs (n - 1) : Nat) : Int)
def spCStretch (C : Addr) : Sp := fun vs H Q _ => ∃ (a : Addr) (b n : Nat) (cs : List Nat), vs = [.ref a, .int (b : Int), .int (n : Int)] ∧ ChAt C H cs a ∧ Cuts cs ∧ 1 ≤ n ∧ n ≤ N.PC cs b ∧ ∀ H', Same H H' → Q (.int (stretchZ cs b n)) H'
theorem scCS : FnScope ["self", "body", "number", "pieces", "end"] ["self", "body", "number"] (defScope sCStretch) := ⟨rfl, rfl, rfl, by decide +kernel, rfl, by decide +kernel, by decide +kernel⟩
/-- place in chain -/
def spCHas (C : Addr) : Sp := fun vs H Q _ => ∃ (a : Addr) (p : Nat) (cs : List Nat), vs = [.ref a, .int (p : Int)] ∧ ChAt C H cs a ∧ Cuts cs ∧ ∀ H', Same H H' → Q (.bl (decide (0 < p ∧ N.rem cs p = 0))) H'
theorem scCHs : FnScope ["self", "place"] ["self", "place"] (defScope sCHas) := ⟨rfl, rfl, rfl, by decide +kernel, rfl, by decide +kernel, by decide +kernel⟩
theorem ok_chas {f : Addr} {fd : FuncData} (F : Fun K "__contains__" "Chain.__contains__" sCHas f fd) (T : Ct K mg C) (DI : Df P w K mg base 1 "is_integer" ["value"] spInteger) (MD : Me P w K mg base C 1 "digits" ["self", "place"] (spCDigits C)) : FnOk P w K mg base CX0 2 f fd ["self", "place"] (spCHas C) := by
  obtain ⟨fI, fdI, GI, gI, kI, bI⟩ := DI.ex
  obtain ⟨fD, fdD, GD, mD, bD⟩ := MD.ex
  refine F.ok scCHs (fun vs H Q E h => ?_) (fun cdv A outer s H vs Q E hr h => ?_)
  · obtain ⟨a, p, cs, rfl, _⟩ := h
    rfl
  · obtain ⟨a, p, cs, rfl, hc, hl, k⟩ := h
    refine ⟨_, pss_one (ps_ret (pe_and (pe_call GI hr rfl gI kI bI .nil pass0 (pa_cons (pv 1) pa_nil)) (pe_and (pe_cmpR op_gt (pv 1) pe_int (nomark _)) (pe_one (pe_cmpR op_eq (pe_ix ix_tup (pe_meth (pv 0) T.cl mD GD hr bD .nil pass0 (pa_cons (pv 1) pa_nil)) (pe_un un_neg pe_int) (fun _ _ => rfl)) pe_int (nomark _)))))), ?_⟩
    refine ⟨_, rfl, (p : Int), rfl, _, rfl, iteT ⟨_, rfl, _, _, rfl, rfl, _, rfl, ite2 (fun c => ?_) (fun c => ?_)⟩⟩
    · have c2 : (0 : Int) < (p : Int) := of_decide_eq_true c
      obtain ⟨dx, fs, i1, i2⟩ := hc.ins nk2.2.2.1
      refine ⟨_, rfl, a, dx, fs, rfl, i1, i2, _, rfl, a, p, cs, rfl, hc, hl, fun t G s1 ht => ?_⟩
      obtain ⟨ds, ed⟩ := N.dig_rem cs p
      rw [ed] at ht
      refine ⟨1, rfl, t, _, _, .int ((N.rem cs p : Nat) : Int), rfl, rfl, SqT.of ht, ?_, rfl, ?_⟩
      · rw [ni_app]
        exact atI_last _ _
      · have e : decide (V.int ((N.rem cs p : Nat) : Int) = V.int 0) = decide (0 < p ∧ N.rem cs p = 0) := by
          by_cases z : N.rem cs p = 0
          · rw [decide_eq_true (by rw [z]; rfl), decide_eq_true ⟨by omega, z⟩]
          · rw [decide_eq_false (fun q => by injection q with q; omega), decide_eq_false fun q => z q.2]
        rw [e]
        exact k G s1
    · have c2 : ¬ (0 : Int) < (p : Int) := fun z => c (decide_eq_true z)
      have := k H (Same.refl H)
      rw [decide_eq_false (by omega)] at this
      exact this
/-- chain[number] -/
def spCGet (C : Addr) : Sp := fun vs H Q _ => ∃ (a : Addr) (n : Nat) (cs : List Nat), vs = [.ref a, .int (n : Int)] ∧ ChAt C H cs a ∧ Cuts cs ∧ 1 ≤ n ∧ cs ≠ [] ∧ ∀ H', Same H H' → Q (.int ((N.B cs n : Nat) : Int)) H'
theorem scCG : FnScope ["self", "at"] ["self", "at"] (defScope sCGet) := ⟨rfl, rfl, rfl, by decide +kernel, rfl, by decide +kernel, by decide +kernel⟩
theorem ok_cget {f : Addr} {fd : FuncData} (F : Fun K "__getitem__" "Chain.__getitem__" sCGet f fd) (B : Bn mg) (T : Ct K mg C) (DI : Df P w K mg base 1 "is_integer" ["value"] spInteger) (MB : Me P w K mg base C 1 "_boundary" ["self", "number"] (spCBound C)) : FnOk P w K mg base CX0 2 f fd ["self", "at"] (spCGet C) := by
  obtain ⟨fI, fdI, GI, gI, kI, bI⟩ := DI.ex
  obtain ⟨fB, fdB, GB, mB, bB⟩ := MB.ex
  refine F.ok scCG (fun vs H Q E h => ?_) (fun cdv A outer s H vs Q E hr h => ?_)
  · obtain ⟨a, n, cs, rfl, _⟩ := h
    rfl
  · obtain ⟨a, n, cs, rfl, hc, hl, n1, ne, k⟩ := h
    refine ⟨_, pss_cons (ps_if (PW.pt (pw_or (pt_not (pt_val (pe_call GI hr rfl gI kI bI .nil pass0 (pa_cons (pv 1) pa_nil)))) (pw_or (pt_cmpR op_lt (pv 1) pe_int (nomark _)) (pw_or1 (pt_cmpR op_eq (pe_callB call_len_seq (by rfl) B.len PySem.boot_len (pa_cons (pe_fld (pv 0) rfl) pa_nil)) pe_int (nomark _)))))) ps_dead pss_nil)
      (pss_one (ps_ret (pe_meth (pv 0) T.cl mB GB hr bB .nil pass0 (pa_cons (pv 1) pa_nil)))), ?_⟩
    obtain ⟨dx, t, u, h1, h2, h3⟩ := id hc
    refine ⟨_, rfl, (n : Int), rfl, _, rfl, iteF ⟨_, rfl, _, _, rfl, rfl, _, rfl, ?_⟩⟩
    rw [decide_eq_false (by omega)]
    refine iteF ⟨_, rfl, a, C, dx, _, _, rfl, h1, T.cl, T.nC, cfl_cuts t u, t, _, rfl, .inr (SqT.of h2), rfl, _, rfl, ?_⟩
    rw [decide_eq_false (fun z => by
      injection z with z
      rw [ni_len] at z
      exact ne (List.length_eq_zero_iff.mp (by omega)))]
    obtain ⟨dx, fs, i1, i2⟩ := hc.ins nk2.2.1
    exact iteF ⟨_, rfl, a, dx, fs, rfl, i1, i2, _, rfl, a, n, cs, rfl, hc, hl, k⟩
end
end CP

end
section
set_option autoImplicit false
set_option Elab.async false
set_option linter.all false
set_option maxRecDepth 100000
set_option maxHeartbeats 4000000
/-! ## for in a generator's body -/
namespace GF
open PySem PySem.Spec PyProof.Rows L2 GenW
section
variable {M : Model} {c : Code} {fs : List Frame} {A : Around} {R : GenEnd} {Y : Protocol} {n : Nat} {s₀ s : Shared} {env : Env}
variable {K : Flow → Sem PySem.Fin} {J : Value → Sem PySem.Fin} {lv : List Value → List Value} {gd : Bool → Bool}
theorem seg_For {tg iter : Expr} {body : List Stmt} {pos : Pos}
    (h : wpAny M (A.over c fs) (eval iter env) (fun x s1 => wpAny M (A.over c fs) (pyIter x) (fun it s2 => ∀ p, Seg M A R Y n s₀ (.forLoop tg it body [] env) (M.den (.forLoop tg it body [] env))
      (.ret (fun r => ((match r with | .ok f => (.pure f : Sem Flow) | .error e => .raise e).onRaise (cameBack env)).wrap K J gd lv) none (gd false) (lv []) c p [] :: fs) s2)
      (fun x s' => Seg M A R Y n s₀ c (J x) fs s') s1) (fun x s' => Seg M A R Y n s₀ c (J x) fs s') s)
    (hs : ∀ x, foldedSetIterable iter env x = pure x) : Seg M A R Y n s₀ c ((exec (.For tg iter body [] pos) env).wrap K J gd lv) fs s := by
  rw [exec_For]
  refine seg_bind_wrap (wpAny_standAt (seg_bind_wrap (wpAny_mono h (fun x s1 h1 => ?_) fun _ _ x => x)))
  refine seg_bind_wrap (wpAny_of_eq (hs x) (seg_bind_wrap (wpAny_standAt ?_)))
  refine seg_bind_wrap (wpAny_holding (wpAny_mono h1 (fun it s2 h2 => ?_) fun _ _ x => x))
  exact seg_call h2
end
section
variable {prog : Program} {w : World} {fs : List Frame} {A : Around} {R : GenEnd} {Y : Protocol} {n : Nat} {s₀ s : Shared} {env : Env}
theorem seg_forLoop {tg : Expr} {it : Value} {body : List Stmt} {EE : Value → Shared → Prop}
    (hE : ∀ x s', EE x s' → Seg (model prog w) A R Y n s₀ (.forLoop tg it body [] env) ((do noteFrame x env; theTreesLotGoes x : Sem Unit).wrap (fun _ => .raise x) .raise id id) fs s')
    (h : wpAny (model prog w) (A.over (.forLoop tg it body [] env) fs) (pyNext it) (fun r s' => match r with
      | none => Seg (model prog w) A R Y n s₀ (.forLoop tg it body [] env) (.pure (.again (.block [] env))) fs s'
      | some v => wpAny (model prog w) (A.over (.forLoop tg it body [] env) fs) (letOwnedTupleGo tg it v) (fun _ s1 => wpAny (model prog w) (A.over (.forLoop tg it body [] env) fs) (assign tg env v) (fun _ s2 =>
          Seg (model prog w) A R Y n s₀ (.forLoop tg it body [] env) ((execs body env).wrap (fun f => match f with
            | .next | .cont => .pure (.again (.forLoop tg it body [] env))
            | .brk => .pure (.done .next)
            | .ret v => .pure (.done (.ret v))) (fun e => (do noteFrame e env; theTreesLotGoes e : Sem Unit).wrap (fun _ => .raise e) .raise id id) id id) fs s2) EE s1) EE s') EE s) :
    Seg (model prog w) A R Y n s₀ (.forLoop tg it body [] env) ((model prog w).den (.forLoop tg it body [] env)) fs s := by
  have hE2 : ∀ x s', EE x s' → Seg (model prog w) A R Y n s₀ (.forLoop tg it body [] env) ((do noteFrame x env; theTreesLotGoes x : Sem Unit).bind (fun _ => .raise x)) fs s' := fun x s' hx => by
    rw [Sem.bind_eq_wrap]
    exact hE x s' hx
  show Seg _ A R Y n s₀ _ ((forTurn tg it body [] env).onRaise (fun x => do noteFrame x env; theTreesLotGoes x)) fs s
  unfold forTurn
  rw [Sem.onRaise_eq_wrap]
  refine seg_bind_wrap (wpAny_standAt (?_)); refine seg_bind_wrap (wpAny_onRaise (wpAny_mono h (fun r s1 h1 => ?_) fun x s' hx => wpAny_standAt (hE2 x s' hx)))
  cases r with
  | none => exact h1
  | some v =>
    refine seg_bind_wrap (wpAny_mono h1 (fun _ s1' h1' => ?_) fun x s' hx => hE2 x s' hx)
    refine seg_bind_wrap (wpAny_mono h1' (fun _ s2 h2 => ?_) fun x s' hx => hE2 x s' hx)
    rw [Sem.bind_eq_wrap', Sem.wrap_wrap]
    rw [Sem.wrap_congr (execs body env) _ _ (K' := fun fl => match fl with
      | .next | .cont => .pure (.again (.forLoop tg it body [] env))
      | .brk => .pure (.done .next)
      | .ret x => .pure (.done (.ret x)))
      (H' := fun x => (do noteFrame x env; theTreesLotGoes x : Sem Unit).wrap (fun _ => .raise x) .raise id id) (fun fl => by cases fl <;> rfl)
      (fun x => by first | exact Sem.bind_eq_wrap _ _ | (show (do noteFrame x env; theTreesLotGoes x : Sem Unit).bind (fun _ => .raise x) = _; rw [Sem.bind_eq_wrap]))]
    exact h2
end
section
variable {X : Cx}
def tGFor (wi : TI) (g : TG) (tb : TGn) : TGn := fun D ys σ H => wi σ H fun J H1 => ∃ W : Nat → Nat → List V → L2.St → Hp → Prop, (∃ m, W 0 m ys σ H1) ∧ ∀ i m ys σ H, W i m ys σ H →
  (J.stop i H ∧ D.nx ys σ H) ∨ (J.go i H ∧ ∃ N : List V → L2.St → Hp → Prop, (∀ ys' σ' H', N ys' σ' H' → ∃ m', m' < m ∧ W (i + 1) m' ys' σ' H') ∧ ∀ x H', J.yld i H x H' → g x σ H' fun σ2 H2 => tb { D with nx := N, ct := N, bk := D.nx } ys σ2 H2)
theorem gs_for {tg iter : Expr} {body : List Stmt} {wi : TI} {gg : TG} {tb : TGn} {pos : Pos} (hp : PassesOwn (model X.prog X.w) X.A X.env X.xe) (hc : X.calm = true) (hi : PI X tg iter wi) (hg : PG X tg gg) (hb : GSs X body tb)
    (hs : ∀ x, foldedSetIterable iter X.env x = pure x := by intro _; rfl) : GS X (.For tg iter body [] pos) (tGFor wi gg tb) := by
  refine ⟨fun A S ip R n ys s₀ c fs K J gd lv s σ H D g hn k I0 ht => ?_⟩
  have hI := I0
  obtain ⟨acc, cc, r, I⟩ := hI
  refine seg_For ?_ hs
  rw [g.over]
  refine wpAny_mono (hi.run _ s σ H _ I ht) (fun v s1 h1 => wpAny_mono h1 (fun itv s2 h2 p => ?_) fun x s' hx => k.exc n s₀ x s' hx) fun x s' hx => k.exc n s₀ x s' hx
  obtain ⟨it, fp, tn, Jt, H2, e, I2, T, st2, f2, W, ⟨m0, w0⟩, turn⟩ := h2
  subst e
  have gl := fun (kk : Result → Sem PySem.Fin) => gc_loop (k := kk) (c' := .forLoop tg (.ref it) body [] X.env) (l := lv []) (kp := []) (p := p) g rfl rfl
  have stat : ∀ {H' : Hp} {a2 : Array Value} {c2 : Nat}, (∀ b ∈ fp, H' b = none) → ∀ b ∈ fp, FpOk X ((S, lstObj a2 c2) :: ip) H' b := fun {H' a2 c2} hn b hb => by
    obtain ⟨_, q1, q2, q3, q4, q5⟩ := f2 b hb
    refine ⟨hn b hb, q1, q2, q3, q4, fun p hp => ?_⟩
    rcases List.mem_append.mp hp with z | z
    · exact q5 p (List.mem_append_left _ z)
    · rcases List.mem_cons.mp z with z | z
      · rw [z]
        exact q5 (S, lstObj acc cc) (List.mem_append_right _ List.mem_cons_self)
      · exact q5 p (List.mem_append_right _ (List.mem_cons_of_mem _ z))
  have neS : ∀ b ∈ fp, b ≠ S := fun b hb z => by
    obtain ⟨_, _, _, _, _, q5⟩ := f2 b hb
    exact q5 (S, lstObj acc cc) (List.mem_append_right _ List.mem_cons_self) z.symm
  have loop : ∀ (m i n : Nat) (ys : List V) (s₀ s : Shared) (σ : L2.St) (H : Hp), n + ys.length = sizeLine → W i m ys σ H → GI X S ip ys σ H s → tn i s.heap → (∀ b ∈ fp, H b = none) →
      Seg (model X.prog X.w) A R (GY X S) n s₀ (.forLoop tg (.ref it) body [] X.env) ((model X.prog X.w).den (.forLoop tg (.ref it) body [] X.env))
        (.ret (fun rr => ((match rr with | .ok fl => (.pure fl : Sem Flow) | .error x => .raise x).onRaise (cameBack X.env)).wrap K J gd lv) none (gd false) (lv []) c p [] :: fs) s := by
    intro m
    induction m using Nat.strongRecOn with
    | ind m ih =>
      intro i n ys s₀ s σ H hn w hI st fr
      have ee : ∀ (n : Nat) (s₀ : Shared) (x : Value) (s' : Shared), X.xe x s' → Seg (model X.prog X.w) A R (GY X S) n s₀ (.forLoop tg (.ref it) body [] X.env)
          ((do noteFrame x X.env; theTreesLotGoes x : Sem Unit).wrap (fun _ => .raise x) .raise id id) (.ret (fun rr => ((match rr with | .ok fl => (.pure fl : Sem Flow) | .error x => .raise x).onRaise (cameBack X.env)).wrap K J gd lv) none (gd false) (lv []) c p [] :: fs) s' := fun n s₀ x s' hx => by
        refine seg_wrap ?_
        rw [(gl _).over]
        exact wpAny_bind (wpAny_mono (hp x s' hx) (fun _ _ cb => wpAny_theTreesLotGoes (seg_leaf (.error x) (seg_cameBack g k cb))) fun y _ cb => seg_leaf (.error y) (seg_cameBack g k cb))
      refine seg_forLoop (EE := X.xe) (ee n s₀) ?_
      rw [(gl _).over]
      obtain ⟨acc, cc, r, I⟩ := hI
      rcases turn i m ys σ H w with ⟨stop, qn⟩ | ⟨go, N, hN, step⟩
      · refine wpAny_mono (T.done X rfl rfl rfl hc i _ s σ H X.xe I (stat fr) st stop) (fun r4 s4 h4 => ?_) fun _ _ x => x
        obtain ⟨hr4, I4⟩ := h4
        subst hr4
        refine seg_again rfl ?_
        exact seg_leaf (.ok .next) (k.ok n ys s₀ s4 .next hn ⟨σ, H, ⟨acc, cc, r, I4⟩, qn⟩)
      · refine wpAny_mono (T.item X rfl rfl rfl hc i _ s σ H X.xe I (stat fr) st go) (fun r4 s4 h4 => ?_) fun _ _ x => x
        obtain ⟨u, hr4, h4⟩ := h4
        subst hr4
        refine wpAny_mono h4 (fun _ s5 h5 => ?_) fun _ _ x => x
        obtain ⟨x, H5, I5, r5, y5, st5, fr5⟩ := h5
        have J5 := I5.pinned (stat fr5) (T.obj _ _ st5)
        refine wpAny_mono (hg.run _ s5 σ H5 x u _ J5 r5 (step x H5 y5)) (fun _ s6 h6 => ?_) fun _ _ x => x
        obtain ⟨σ6, H6, I6, q6⟩ := h6
        have gl2 : ∀ kk : Result → Sem PySem.Fin, GC X S (ip ++ pinsAt fp s5.heap) A (.forLoop tg (.ref it) body [] X.env) (.ret kk none (gd false) (lv []) c p [] :: fs) id := fun kk => { gl kk with
          ip := fun p hp => by
            rcases List.mem_append.mp hp with z | z
            · exact g.ip p z
            · exact neS p.1 (of_pinsAt z).1 }
        have back : ∀ {ys7 : List V} {σ7 : L2.St} {H7 : Hp} {s7 : Shared}, GI X S (ip ++ pinsAt fp s5.heap) ys7 σ7 H7 s7 → GI X S ip ys7 σ7 H7 s7 ∧ tn (i + 1) s7.heap ∧ ∀ b ∈ fp, H7 b = none := fun {ys7 σ7 H7 s7} h7 => by
          obtain ⟨acc7, cc7, r7, I7⟩ := h7
          have I7' : Inv X (((S, lstObj acc7 cc7) :: ip) ++ pinsAt fp s5.heap) σ7 H7 s7 := I7
          refine ⟨⟨acc7, cc7, r7, I7'.unpinned⟩, T.keep _ _ _ st5 fun b hb o e => (I7'.pin (b, o) (List.mem_append_right _ (List.mem_append_right _ (mem_pinsAt hb e)))).1, fun b hb => ?_⟩
          obtain ⟨o, e, dd⟩ := T.obj _ _ st5 b hb
          exact (I7'.pin (b, o) (List.mem_append_right _ (List.mem_append_right _ (mem_pinsAt hb e)))).2.1
        refine hb.run A S (ip ++ pinsAt fp s5.heap) R n ys s₀ _ _ _ _ id id s6 σ6 H6 { D with nx := N, ct := N, bk := D.nx } (gl2 _) hn ⟨fun n' ys' s₀' s7 f hn' hs => ?_, fun n' s₀' x s3 hx => ee n' s₀' x s3 hx⟩ ⟨acc, cc, r, I6⟩ q6
        cases f with
        | next =>
          obtain ⟨σ7, H7, I7, n7⟩ := hs
          obtain ⟨m', hm, w7⟩ := hN ys' σ7 H7 n7
          obtain ⟨b1, b2, b3⟩ := back I7
          exact seg_again rfl (ih m' hm (i + 1) n' ys' s₀' s7 σ7 H7 hn' w7 b1 b2 b3)
        | cont =>
          obtain ⟨σ7, H7, I7, n7⟩ := hs
          obtain ⟨m', hm, w7⟩ := hN ys' σ7 H7 n7
          obtain ⟨b1, b2, b3⟩ := back I7
          exact seg_again rfl (ih m' hm (i + 1) n' ys' s₀' s7 σ7 H7 hn' w7 b1 b2 b3)
        | brk =>
          obtain ⟨σ7, H7, I7, q7⟩ := hs
          exact seg_leaf (.ok .next) (k.ok n' ys' s₀' s7 .next hn' ⟨σ7, H7, (back I7).1, q7⟩)
        | ret v =>
          obtain ⟨x7, σ7, H7, I7, r7, q7⟩ := hs
          exact seg_leaf (.ok (.ret v)) (k.ok n' ys' s₀' s7 (.ret v) hn' ⟨x7, σ7, H7, (back I7).1, r7, q7⟩)
  exact loop m0 0 n ys s₀ s2 σ H2 hn w0 ⟨acc, cc, r, I2⟩ st2 fun b hb => (f2 b hb).1
end
end GF

end
section
set_option autoImplicit false
set_option Elab.async false
set_option linter.all false
set_option maxRecDepth 100000
set_option maxHeartbeats 4000000
namespace CP
open PySem L2 G Y
abbrev sCPart : Stmt := inClass (S.top 31) 9
def dI (n : Nat) : PyData := .int ((n : Nat) : Int)
theorem dp_ints {K : PySem.W.Frag} {H : Hp} : ∀ l : List Nat, DpAll K H (ni l) (l.map dI)
  | [] => .nil
  | x :: l => .cons (.int _) (dp_ints l)
theorem lay_ints : ∀ l : List Nat, PyData.canLayAll0 (l.map dI) = true
  | [] => rfl
  | x :: l => lay_ints l
theorem deep_ints : ∀ l : List Nat, PyData.depthAll (l.map dI) = 0
  | [] => by simp only [List.map_nil, PyData.depthAll]
  | x :: l => by simp only [List.map_cons, PyData.depthAll, dI, PyData.depth, deep_ints l, Nat.max_self]
theorem shp_list (l : List Nat) : SeqAt.shaped (.list (l.map dI)) = true := by
  unfold SeqAt.shaped
  rw [show (PyData.list (l.map dI)).canLay0 = true by simp only [PyData.canLay0, lay_ints], Bool.true_and]
  refine decide_eq_true ?_
  simp only [PyData.depth, deep_ints]
  decide
theorem shp_tup (l : List Nat) : SeqAt.shaped (.tuple (l.map dI)) = true := by
  unfold SeqAt.shaped
  rw [show (PyData.tuple (l.map dI)).canLay0 = true by simp only [PyData.canLay0, lay_ints], Bool.true_and]
  refine decide_eq_true ?_
  simp only [PyData.depth, deep_ints]
  decide
theorem eqv_nil : ∀ l : List Nat, PyData.eqv (.list (l.map dI)) (.list []) = decide (l = [])
  | [] => by simp [PyData.eqv, PyData.eqvAll]
  | x :: l => by simp [PyData.eqv, PyData.eqvAll]
theorem eqv_tup (l : List Nat) : PyData.eqv (.tuple (l.map dI)) (.tuple (l.map dI)) = true := SeqAt.eqv_refl _ (by simp only [PyData.canLay0, lay_ints])
/-- a list beside a new empty one -/
theorem eq_nil {K : PySem.W.Frag} {H : Hp} {Q : VK} {D e : Addr} {l : List Nat} (hD : SqL K H D (ni l)) (he : SqL K H e []) (q : Q (.bl (decide (l = []))) H) : rEqD K (.ref D) (.ref e) H Q :=
  ⟨_, _, .lst hD (dp_ints l), .lst he .nil, shp_list l, by decide +kernel, by rw [eqv_nil]; exact q⟩
theorem ne_nil {K : PySem.W.Frag} {H : Hp} {Q : VK} {D e : Addr} {l : List Nat} (hD : SqL K H D (ni l)) (he : SqL K H e []) (q : Q (.bl (!decide (l = []))) H) : rNeD K (.ref D) (.ref e) H Q :=
  ⟨_, _, .lst hD (dp_ints l), .lst he .nil, shp_list l, by decide +kernel, by rw [eqv_nil]; exact q⟩
theorem ne_tups {K : PySem.W.Frag} {H : Hp} {Q : VK} {t u : Addr} {l : List Nat} (ht : SqT K H t (ni l)) (hu : SqT K H u (ni l)) (q : Q (.bl false) H) : rNeD K (.ref t) (.ref u) H Q :=
  ⟨_, _, .tup ht (dp_ints l), .tup hu (dp_ints l), shp_tup l, shp_tup l, by rw [eqv_tup]; exact q⟩
structure Mw (P : Program) (w : World) (K : PySem.W.Frag) (mg : Str → Option Value) (base : Heap) (C : Addr) : Prop where
  ex : ∃ (f : Addr) (fd : FuncData), FnOk P w K mg base CX0 4 f fd ["self", "cuts"] (spCInit C) ∧ Mk K C f ∧ Binds K fd ["self", "cuts"] []
structure Op (P : Program) (w : World) (K : PySem.W.Frag) (mg : Str → Option Value) (base : Heap) (C : Addr) (k : Nat) (m : Str) (ps : List Str) (sp : Sp) : Prop where
  ex : ∃ (f : Addr) (fd : FuncData), FnOk P w K mg base CX0 k f fd ps sp ∧ WO.Own K C f m ∧ Binds K fd ps [] ∧ PySem.W.fnIn K f = true
end CP

end
section
set_option autoImplicit false
set_option Elab.async false
set_option linter.all false
set_option maxRecDepth 100000
set_option maxHeartbeats 4000000
/-! ## parted: a generator -/
namespace GF
open PySem L2 GenW
theorem gfor_range {lo : Int} {n : Nat} {g : TG} {tb : TGn} {D : GEnds} {ys : List V} {σ : L2.St} {H : Hp} (Pv : Nat → List V → L2.St → Hp → Prop) (h0 : Pv 0 ys σ H)
    (hs : ∀ i ys σ H, i < n → Pv i ys σ H → g (.int (lo + i)) σ H fun σ2 H2 => tb { D with nx := Pv (i + 1), ct := Pv (i + 1), bk := D.nx } ys σ2 H2) (hd : ∀ ys σ H, Pv n ys σ H → D.nx ys σ H) :
    ∃ W : Nat → Nat → List V → L2.St → Hp → Prop, (∃ m, W 0 m ys σ H) ∧ ∀ i m ys σ H, W i m ys σ H →
      ((Itr lo n).stop i H ∧ D.nx ys σ H) ∨ ((Itr lo n).go i H ∧ ∃ N : List V → L2.St → Hp → Prop, (∀ ys' σ' H', N ys' σ' H' → ∃ m', m' < m ∧ W (i + 1) m' ys' σ' H') ∧ ∀ x H', (Itr lo n).yld i H x H' → g x σ H' fun σ2 H2 => tb { D with nx := N, ct := N, bk := D.nx } ys σ2 H2) := by
  refine ⟨fun i m ys σ H => m = n - i ∧ i ≤ n ∧ Pv i ys σ H, ⟨n, by simp, Nat.zero_le _, h0⟩, ?_⟩
  rintro i m ys σ H ⟨rfl, hi, p⟩
  by_cases hlt : i < n
  · refine .inr ⟨hlt, Pv (i + 1), fun ys' σ' H' p' => ⟨n - (i + 1), by omega, rfl, hlt, p'⟩, fun x H' y => ?_⟩
    obtain ⟨e, y⟩ := y
    subst e y
    exact hs i ys σ _ hlt p
  · have e : i = n := by omega
    subst e
    exact .inl ⟨Nat.le_refl _, hd ys σ H p⟩
theorem passG {X : Cx} : Passes (CX X.prog X.w) X E0 := fun pins σ H s e s' I hc => by
  obtain ⟨_, _, _, _, _, _, _, _, _, _, _, _, hW⟩ := hc
  exact hW.elim
theorem noStop0 {K : PySem.W.Frag} : NoStop K E0 := fun _ _ _ h => h.elim
end GF
namespace CP
open PySem L2 G Y GenW
section
variable {P : Program} {w : World} {K : PySem.W.Frag} {mg : Str → Option Value} {base : Heap} {C : Addr}
def spCPart (C : Addr) : SpG := fun vs H cont _ => ∃ (a : Addr) (b : Nat) (cs : List Nat), vs = [.ref a, .int (b : Int)] ∧ ChAt C H cs a ∧ Cuts cs ∧ 0 < b ∧ b ≤ 1000 ∧ ∀ H', Same H H' → cont (ni (N.pt cs [b])) H'
abbrev NPt : List Str := ["self", "body", "start", "number", "end"]
theorem scPt : GScope NPt ["self", "body"] (defScope sCPart) := ⟨rfl, rfl, rfl, by decide +kernel, rfl, by decide +kernel, by decide +kernel⟩
structure Mg (P : Program) (w : World) (K : PySem.W.Frag) (mg : Str → Option Value) (base : Heap) (C : Addr) (k : Nat) (m : Str) (ps : List Str) (sp : SpG) : Prop where
  ex : ∃ (f : Addr) (fd : FuncData), GFn P w K mg base k f fd ps sp ∧ Meth K C m f ∧ Binds K fd ps []
theorem ok_cpart {f : Addr} {fd : FuncData} (F : Fun K "parted" "Chain.parted" sCPart f fd) (B : Bn mg) (T : Ct K mg C) (MP : Me P w K mg base C 2 "pieces" ["self", "body"] (spCPieces C)) (MB : Me P w K mg base C 1 "_boundary" ["self", "number"] (spCBound C)) : GFn P w K mg base 3 f fd ["self", "body"] (spCPart C) := by
  obtain ⟨fP, fdP, GP, mP, bP⟩ := MP.ex
  obtain ⟨fB, fdB, GB, mB, bB⟩ := MB.ex
  obtain ⟨oc, od, kV, dc, pm, an, cdv, ct, os, rfl, lk, hcd⟩ := F.ex
  refine gfn_of lk hcd scPt (fun vs H Q E h => ?_) (fun A outer s H vs Q E pn hr h => ?_)
  · obtain ⟨a, b, cs, rfl, _⟩ := h
    rfl
  · obtain ⟨a, b, cs, rfl, hc, hl, hb, hb2, k⟩ := h
    have r1 := hr.mono (by decide : 1 ≤ 2)
    refine ⟨_, gss_cons (gs_ps (ps_set (i := 2) scPt.nd rfl (Or.inl rfl) pe_int))
      (gss_cons (GF.gs_for owns_gcx rfl (pi_range2 (by rfl) B.range (pa_cons pe_int (pa_cons (pe_meth (pv 0) T.cl mP GP hr bP .nil pass0 (pa_cons (pv 1) pa_nil)) pa_nil))) (pg_name (i := 3) scPt.nd rfl (Or.inl rfl))
        (gss_cons (gs_ps (ps_set (i := 4) scPt.nd rfl (Or.inl rfl) (pe_meth (pv 0) T.cl mB GB r1 bB .nil pass0 (pa_cons (pv 3) pa_nil))))
        (gss_cons (gs_yield (pe_op op_sub (pv 4) (pv 2)))
        (gss_cons (gs_ps (ps_set (i := 2) scPt.nd rfl (Or.inl rfl) (pv 4))) gss_nil))))
      (gss_cons (gs_yield (pe_op op_sub (pv 1) (pv 2))) gss_nil)), ?_⟩
    obtain ⟨dx, fs, i1, i2⟩ := hc.ins nk2.1
    have hL := N.L_pos cs hl.fall b hb
    have hLb := N.L_le hl.fall hb
    have ePC : N.PC cs b = N.L cs b := if_neg (by omega)
    refine ⟨_, rfl, a, dx, fs, rfl, i1, i2, _, rfl, a, b, cs, rfl, hc, hl, fun G0 s0 => ?_⟩
    rw [ePC]
    refine ⟨_, _, rfl, ⟨by decide, by decide, by omega, by omega⟩, ?_⟩
    have hn : (((N.L cs b : Nat) : Int) - 1).toNat = N.L cs b - 1 := by omega
    rw [hn]
    refine GF.gfor_range (fun i ys σ G => Same H G ∧ ys = ni ((N.pt cs [b]).take i) ∧ ∃ q1 q2, σ = [some (.ref a), some (.int (b : Int)), some (.int ((N.B cs i : Nat) : Int)), q1, q2])
      ⟨s0, rfl, _, _, by rw [N.B_zero]; rfl⟩ ?_ ?_
    · rintro i ys σ G hi ⟨s1, rfl, q1, q2, rfl⟩
      obtain ⟨x, hx, ex⟩ := N.pt_at hl.fall hb (i := i) (by omega)
      rw [if_pos (by omega)] at ex
      obtain ⟨dx, fs, i1, i2⟩ := (hc.mono s1).ins nk2.2.1
      refine ⟨_, rfl, a, dx, fs, rfl, i1, i2, _, rfl, a, i + 1, cs, ?_, hc.mono s1, hl, fun G2 s2 => ?_⟩
      · show [V.ref a, V.int (1 + (i : Int))] = _
        rw [show 1 + (i : Int) = ((i + 1 : Nat) : Int) by omega]
      · refine ⟨?_, _, rfl, _, rfl, _, _, rfl, rfl, ?_⟩
        · rw [ni_len]
          have := List.length_take_le i (N.pt cs [b])
          exact small1000 (by omega)
        · refine ⟨_, rfl, s1.trans s2, ?_, _, _, rfl⟩
          rw [take_snoc hx, ni_app]
          show _ ++ [V.int (((N.B cs (i + 1) : Nat) : Int) - ((N.B cs i : Nat) : Int))] = _ ++ [V.int (x : Int)]
          rw [show ((N.B cs (i + 1) : Nat) : Int) - ((N.B cs i : Nat) : Int) = (x : Int) by omega]
    · rintro ys σ G ⟨s1, rfl, q1, q2, rfl⟩
      obtain ⟨x, hx, ex⟩ := N.pt_at hl.fall hb (i := N.L cs b - 1) (by omega)
      rw [if_neg (by omega)] at ex
      refine ⟨?_, _, rfl, _, rfl, _, _, rfl, rfl, ?_⟩
      · rw [ni_len]
        have := List.length_take_le (N.L cs b - 1) (N.pt cs [b])
        exact small1000 (by omega)
      · have := k G s1
        have e1 := take_snoc hx
        rw [List.take_of_length_le (by rw [(N.pt_L cs hl.fall b hb).1]; omega)] at e1
        rw [e1, ni_app] at this
        have this : Q (ni ((N.pt cs [b]).take (N.L cs b - 1)) ++ [V.int (x : Int)]) G := this
        rw [show (x : Int) = (b : Int) - ((N.B cs (N.L cs b - 1) : Nat) : Int) by omega] at this
        exact this
end
end CP

end
section
set_option autoImplicit false
set_option Elab.async false
set_option linter.all false
set_option maxRecDepth 100000
set_option maxHeartbeats 4000000
/-! ## passed: a generator over the steps of a way -/
namespace M
/-- the stretches behind each step that a letter passes -/
def passed (se : Bool) (h : Nat) : List Step → List Nat → List (List Nat)
  | [], _ => []
  | s :: r, l => match Step.does se h s l with
    | .comes m => m :: passed se h r m
    | _ => []
theorem passed_cons (se : Bool) (h : Nat) (s : Step) (r : List Step) (l : List Nat) : passed se h (s :: r) l = match Step.does se h s l with
    | .comes m => m :: passed se h r m
    | _ => [] := rfl
end M
namespace GF
open PySem L2 GenW
/-- a loop of a generator over any walk -/
theorem gfor_it {J : It} {n : Nat} {Gd : Hp → Prop} {Y : Nat → Hp → V → Hp → Prop} (w : Walk J n Gd Y) {g : TG} {tb : TGn} {D : GEnds} {ys : List V} {σ : L2.St} {H : Hp} (Pv : Nat → List V → L2.St → Hp → Prop) (h0 : Pv 0 ys σ H) (hG : ∀ i ys σ H, i ≤ n → Pv i ys σ H → Gd H)
    (hs : ∀ i x ys σ H H', i < n → Pv i ys σ H → Y i H x H' → g x σ H' fun σ2 H2 => tb { D with nx := Pv (i + 1), ct := Pv (i + 1), bk := D.nx } ys σ2 H2) (hd : ∀ ys σ H, Pv n ys σ H → D.nx ys σ H) :
    ∃ W : Nat → Nat → List V → L2.St → Hp → Prop, (∃ m, W 0 m ys σ H) ∧ ∀ i m ys σ H, W i m ys σ H →
      (J.stop i H ∧ D.nx ys σ H) ∨ (J.go i H ∧ ∃ N : List V → L2.St → Hp → Prop, (∀ ys' σ' H', N ys' σ' H' → ∃ m', m' < m ∧ W (i + 1) m' ys' σ' H') ∧ ∀ x H', J.yld i H x H' → g x σ H' fun σ2 H2 => tb { D with nx := N, ct := N, bk := D.nx } ys σ2 H2) := by
  refine ⟨fun i m ys σ H => m = n - i ∧ i ≤ n ∧ Pv i ys σ H, ⟨n, by simp, Nat.zero_le _, h0⟩, ?_⟩
  rintro i m ys σ H ⟨rfl, hi, p⟩
  have q := hG i ys σ H hi p
  by_cases hlt : i < n
  · exact .inr ⟨w.goes i H hlt q, Pv (i + 1), fun ys' σ' H' p' => ⟨n - (i + 1), by omega, rfl, hlt, p'⟩, fun x H' y => hs i x ys σ H H' hlt p (w.yields i H x H' hlt q y)⟩
  · have e : i = n := by omega
    subst e
    exact .inl ⟨w.stops H q, hd ys σ H p⟩
end GF
namespace WP
open PySem L2 G GenW
abbrev sPassed : Stmt := top 20
/-- lists of numbers -/
inductive LsAt (G : Hp) : List (List Nat) → List V → Prop
  | nil : LsAt G [] []
  | cons {l : List Nat} {rows : List (List Nat)} {t : Addr} {xs : List V} : G t = some (.lst (ni l)) → LsAt G rows xs → LsAt G (l :: rows) (.ref t :: xs)
theorem LsAt.mono {G G' : Hp} (s : Same G G') {rows : List (List Nat)} {xs : List V} (h : LsAt G rows xs) : LsAt G' rows xs := by
  induction h with
  | nil => exact .nil
  | cons e _ ih => exact .cons (s _ _ e) ih
theorem LsAt.snoc {G : Hp} {rows : List (List Nat)} {xs : List V} {l : List Nat} {t : Addr} (h : LsAt G rows xs) (e : G t = some (.lst (ni l))) : LsAt G (rows ++ [l]) (xs ++ [.ref t]) := by
  induction h with
  | nil => exact .cons e .nil
  | cons e2 _ ih => exact .cons e2 ih
theorem LsAt.len {G : Hp} {rows : List (List Nat)} {xs : List V} (h : LsAt G rows xs) : xs.length = rows.length := by
  induction h with
  | nil => rfl
  | cons _ _ ih => rw [List.length_cons, List.length_cons, ih]
section
variable {P : Program} {w : World} {K : PySem.W.Frag} {mg : Str → Option Value} {base : Heap} {C : Addr}
theorem df_step (B : Bn mg) (T : Wt K mg C) (Z : Walkers K mg) : Df P w K mg base 9 "_behind_step" ["way", "step", "stretches", "sealed"] (spBStep C 2) := by
  have DP : Df P w K mg base 1 "_parts" ["stretch", "carried"] spParts := Z.parts.df fun f fd F => ok_parts F Z.rng Z.mn
  have DR : Df P w K mg base 2 "_behind_road" ["way", "step", "stretches", "sealed"] (spBRoad C) := Z.road.df fun f fd F => ok_broad F B T DP
  have DJ : Df P w K mg base 1 "_behind_join" ["step", "stretches"] spJoin := Z.join.df fun f fd F => ok_join F B
  have DU : Df P w K mg base 1 "_turned" ["fate", "inner", "tells"] (spTurned C) := Z.turned.df fun f fd F => ok_turned F T
  have DW : Df P w K mg base 7 "_walked" ["way", "body", "sealed"] (spWalked C 2) := df_walked B T Z 2 (by decide)
  have DT : Df P w K mg base 8 "_behind_tunnel" ["way", "step", "stretches", "sealed"] (spBTun C 2) := Z.tun.df fun f fd F => ok_btun F B T (by omega) DW DU
  exact Z.step.df fun f fd F => ok_bstep F (by omega) DR DJ DT
/-- passed -/
def spPassed (C : Addr) : SpG := fun vs H cont _ => ∃ (a : Addr) (b : Nat) (se : Bool) (wy : M.Way), vs = [.ref a, .int (b : Int), .bl se] ∧ WayAt C H wy a ∧ M.Way.fine wy ∧ b ≤ 90000 ∧ ∀ xs H', Same H H' → LsAt H' (M.passed se wy.head wy.steps [b]) xs → (∀ t, V.ref t ∈ xs → H t = none) → cont xs H'
abbrev NPs : List Str := ["way", "body", "sealed", "stretches", "step", "fate"]
theorem scPs : GScope NPs ["way", "body", "sealed"] (defScope sPassed) := ⟨rfl, rfl, rfl, by decide +kernel, rfl, by decide +kernel, by decide +kernel⟩
theorem ok_passed {f : Addr} {fd : FuncData} (F : Fun K "passed" "passed" sPassed f fd) (B : Bn mg) (T : Wt K mg C) (DS : Df P w K mg base 9 "_behind_step" ["way", "step", "stretches", "sealed"] (spBStep C 2)) (DB : Df P w K mg base 3 "is_body" ["value"] (spIn1 0 1000000000000000000)) : GFn P w K mg base 10 f fd ["way", "body", "sealed"] (spPassed C) := by
  obtain ⟨fS, fdS, GS, gS, kS, bS⟩ := DS.ex
  obtain ⟨fB, fdB, GB, gB, kB, bB⟩ := DB.ex
  obtain ⟨oc, od, kV, dc, pm, an, cdv, ct, os, rfl, lk, hcd⟩ := F.ex
  refine gfn_of lk hcd scPs (fun vs H Q E h => ?_) (fun A outer s H vs Q E pn hr h => ?_)
  · obtain ⟨a, b, se, wy, rfl, _⟩ := h
    rfl
  · obtain ⟨a, b, se, wy, rfl, hw, hf, hb, k⟩ := h
    refine ⟨_, gss_cons (gs_ps (ps_if (pt_not (pt_val (pe_call GB (hr.mono (by decide)) rfl gB kB bB .nil pass0 (pa_cons (pv 1) pa_nil)))) ps_dead pss_nil))
      (gss_cons (gs_ps (ps_set (i := 3) scPs.nd rfl (Or.inl rfl) (pe_lst (pa_cons (pv 1) pa_nil))))
      (gss_cons (GF.gs_for owns_gcx rfl (pi_tup (pe_fld (pv 0) rfl)) (pg_name (i := 4) scPs.nd rfl (Or.inl rfl))
        (gss_cons (gs_ps (ps_set (i := 5) scPs.nd rfl (Or.inl rfl) (pe_call GS hr rfl gS kS bS .nil pass0 (pa_cons (pv 0) (pa_cons (pv 4) (pa_cons (pv 3) (pa_cons (pv 2) pa_nil)))))))
        (gss_cons (gs_ps (ps_if (pt_cmpR op_ne (pe_ix ix_tup (pv 5) pe_int (fun _ _ => rfl)) pe_str (nomark _)) (pss_one ps_retN) pss_nil))
        (gss_cons (gs_ps (ps_set (i := 3) scPs.nd rfl (Or.inl rfl) (pe_ix ix_tup (pv 5) pe_int (fun _ _ => rfl))))
        (gss_cons (gs_yield (pe_callTy call_list_of (by rfl) B.list (by decide +kernel) (pa_cons (pv 3) pa_nil))) gss_nil))))) gss_nil)), ?_⟩
    obtain ⟨dx, fs, t0, xs0, w1, w2, w3, w4⟩ := steps_fld hw
    have hf2 := hf
    obtain ⟨wh, sts⟩ := wy
    unfold M.Way.fine at hf
    obtain ⟨hh, hl, hall, hdd, hzz⟩ := hf
    refine ⟨_, rfl, (b : Int), rfl, ?_⟩
    rw [decide_eq_true (by omega)]
    refine ⟨_, rfl, iteF ?_⟩
    refine ⟨_, rfl, line2.2.2.1, fun L0 n0 => ?_⟩
    have S1 : Same H (upd H L0 (.lst [.int (b : Int)])) := Same.of_upd n0
    refine ⟨_, rfl, a, C, dx, fs, _, rfl, S1 _ _ w1, T.cl, T.nS, w2, t0, rfl, ⟨_, SqT.of (S1 _ _ w3)⟩, ?_⟩
    refine GF.gfor_it walk_tup (fun i ys σ G => Same H G ∧ ∃ (Li : Addr) (l : List Nat) (rows : List (List Nat)) (q r : Option V), σ = [some (.ref a), some (.int (b : Int)), some (.bl se), some (.ref Li), q, r] ∧ G Li = some (.lst (ni l)) ∧ M.Good b l ∧ LsAt G rows ys ∧ (∀ t, V.ref t ∈ ys → H t = none) ∧ M.passed se wh sts [b] = rows ++ M.passed se wh (sts.drop i) l ∧ rows.length = i)
      ⟨S1, L0, [b], [], _, _, rfl, upd_same, M.good_one b, .nil, (fun t ht => by cases ht), rfl, rfl⟩ (fun i ys σ G _ z => SqT.of (z.1 _ _ w3)) ?_ ?_
    · rintro i v ys σ G G' hi ⟨s2, Li, l, rows, q, r, rfl, hLi, gd, hls, hfr, ew, hlen⟩ ⟨rfl, hx⟩
      obtain ⟨st, hst, hat⟩ := w4.get hx
      replace hst : sts[i]? = some st := hst
      have dl := M.dep_le hst
      have ed : sts.drop i = st :: sts.drop (i + 1) := by
        obtain ⟨hi2, ex⟩ := List.getElem?_eq_some_iff.mp hst
        rw [← ex, ← List.drop_eq_getElem_cons hi2]
      rw [ed, M.passed_cons] at ew
      refine ⟨_, rfl, _, rfl, _, rfl, _, rfl, a, Li, v, se, .mk wh sts, st, b, l, rfl, hw.mono s2, hat.mono s2, fine_get hall hst, by omega, hh.2, hLi, gd, by omega, fun v G1 s4 fa => ?_⟩
      have s5 := s2.trans s4
      have fa2 : FateAt G1 (M.Step.does se wh st l) v := fa
      clear fa
      generalize hfz : M.Step.does se wh st l = fz at fa2 ew
      have il := w4.len
      cases fz with
      | comes m =>
        obtain ⟨m2, e2, g2, _, _⟩ := M.Step.mono se wh st (by omega) (M.stepfine_ok (fine_get hall hst)) b b l l m (Nat.le_refl _) gd gd (M.rel_self gd) hfz
        have em : m2 = m := by
          rw [hfz] at e2
          injection e2 with e2
          exact e2.symm
        subst em
        obtain ⟨u, Lm, rfl, f1, f2⟩ := fa2
        have i0 : atI [V.str "comes", V.ref Lm] (0 : Int) = some (.str "comes") := by exact atI_nat (j := 0) rfl
        have i1 : atI [V.str "comes", V.ref Lm] (1 : Int) = some (.ref Lm) := by exact atI_nat (j := 1) rfl
        refine ⟨_, rfl, u, _, _, _, rfl, rfl, SqT.of f1, i0, rfl, _, rfl, iteNS rfl ?_⟩
        have sl : ys.length < sizeLine := by
          rw [hls.len, hlen]
          exact Nat.lt_of_le_of_lt (show i ≤ 12 from by have := (List.getElem?_eq_some_iff.mp hst).1; omega) (by decide)
        refine ⟨_, rfl, u, _, _, _, rfl, rfl, SqT.of f1, i1, sl, _, rfl, Lm, _, rfl, .inl (SqL.of f2), fun L1 n1 => ?_⟩
        have g := Same.of_upd (o := .lst (ni m2)) n1
        refine ⟨s5.trans g, Lm, m2, rows ++ [m2], _, _, rfl, g _ _ f2, g2, ((hls.mono s4).mono g).snoc upd_same, fun t ht => ?_, ?_⟩
        · rcases List.mem_append.mp ht with z | z
          · exact hfr t z
          · have e : t = L1 := by simpa using z
            rw [e]
            exact s5.free n1
        · refine ⟨?_, by rw [List.length_append, hlen]; rfl⟩
          rw [ew, List.append_assoc]
          rfl
      | told z p2 =>
        have fa3 := fa2
        obtain ⟨u, q2, rfl, f1, f2⟩ := fa2
        have i0 : atI [V.str "told", V.int z, V.ref q2] (0 : Int) = some (.str "told") := by exact atI_nat (j := 0) rfl
        refine ⟨_, rfl, u, _, _, _, rfl, rfl, SqT.of f1, i0, rfl, _, rfl, iteNT (fun e => fk.2.2.2.1 (V.str.inj e)) ?_⟩
        refine ⟨rfl, k _ _ s5 ?_ hfr⟩
        show LsAt G1 (M.passed se wh sts [b]) ys
        rw [ew, List.append_nil]
        exact hls.mono s4
      | silent p2 =>
        have fa3 := fa2
        obtain ⟨u, q2, rfl, f1, f2⟩ := fa2
        have i0 : atI [V.str "silent", V.ref q2] (0 : Int) = some (.str "silent") := by exact atI_nat (j := 0) rfl
        refine ⟨_, rfl, u, _, _, _, rfl, rfl, SqT.of f1, i0, rfl, _, rfl, iteNT (fun e => fk.2.2.2.2 (V.str.inj e)) ?_⟩
        refine ⟨rfl, k _ _ s5 ?_ hfr⟩
        show LsAt G1 (M.passed se wh sts [b]) ys
        rw [ew, List.append_nil]
        exact hls.mono s4
    · rintro ys σ G ⟨s2, Li, l, rows, q, r, rfl, hLi, gd, hls, hfr, ew, hlen⟩
      refine k _ _ s2 ?_ hfr
      show LsAt G (M.passed se wh sts [b]) ys
      have e : sts.drop xs0.length = [] := by
        rw [show xs0.length = sts.length from w4.len]
        exact List.drop_length
      rw [ew, e]
      show LsAt G (rows ++ []) ys
      rw [List.append_nil]
      exact hls
end
end WP

end
section
set_option autoImplicit false
set_option Elab.async false
set_option linter.all false
set_option maxRecDepth 100000
set_option maxHeartbeats 4000000
/-! ## ways of roads that cut and joins: what comes of loose letters -/
namespace N
theorem cu_parts {c : Nat} (hc : 0 < c) (x : Nat) (hx : 0 < x) : cu c x = M.parts c x :=
  M.parts_ind (P := fun x => cu c x = M.parts c x) hc (fun x h1 h2 => by rw [cu_le h2, M.parts_small h1 h2]) (fun x h1 ih => by rw [cu_lt hc h1, M.parts_more hc h1, ih]) x hx
theorem flat_cut {c : Nat} (hc : 0 < c) : ∀ {l : List Nat}, (∀ x ∈ l, 0 < x) → l.flatMap (cu c) = M.cutAll c l
  | [], _ => rfl
  | x :: l, h => by
    rw [List.flatMap_cons, cu_parts hc x (h x List.mem_cons_self), flat_cut hc fun y hy => h y (List.mem_cons_of_mem _ hy)]
    rfl
/-- a step: a road that cuts, by its cut, or a join that lets everything pass -/
inductive St where
  | road (c : Nat) (ts : Bool)
  | join
def St.to (h : Nat) : St → M.Step
  | .road c ts => .road (h + c) ts .cut
  | .join => .join 1000000000000
def St.ok (h : Nat) : St → Prop
  | .road c _ => 0 < c ∧ h + c ≤ 1000
  | .join => True
/-- the cuts since the last join -/
def nx (acc : List Nat) : St → List Nat
  | .road c _ => acc ++ [c]
  | .join => []
def sinceA (acc : List Nat) : List St → List Nat
  | [] => acc
  | s :: r => sinceA (nx acc s) r
theorem since_app : ∀ (s r : List St) (acc : List Nat), sinceA acc (s ++ r) = sinceA (sinceA acc s) r
  | [], _, _ => rfl
  | x :: s, r, acc => since_app s r (nx acc x)
def rowsA (b : Nat) (acc : List Nat) : List St → List (List Nat)
  | [] => []
  | s :: r => pt (nx acc s) [b] :: rowsA b (nx acc s) r
theorem rows_app (b : Nat) : ∀ (s r : List St) (acc : List Nat), rowsA b acc (s ++ r) = rowsA b acc s ++ rowsA b (sinceA acc s) r
  | [], _, _ => rfl
  | x :: s, r, acc => by
    show pt (nx acc x) [b] :: rowsA b (nx acc x) (s ++ r) = pt (nx acc x) [b] :: (rowsA b (nx acc x) s ++ _)
    rw [rows_app b s r (nx acc x)]
    rfl
theorem rows_len (b : Nat) : ∀ (s : List St) (acc : List Nat), (rowsA b acc s).length = s.length
  | [], _ => rfl
  | x :: s, acc => by
    show (rowsA b (nx acc x) s).length + 1 = s.length + 1
    rw [rows_len b s]
theorem nx_pos {h : Nat} {acc : List Nat} (ha : ∀ c ∈ acc, 0 < c) {s : St} (hs : s.ok h) : ∀ c ∈ nx acc s, 0 < c := by
  cases s with
  | road c ts =>
    intro d hd
    rcases List.mem_append.mp hd with e | e
    · exact ha d e
    · rw [List.mem_singleton.mp e]
      exact hs.1
  | join => intro d hd; cases hd
theorem pt_snoc (l : List Nat) (c : Nat) (ss : List Nat) : pt (l ++ [c]) ss = (pt l ss).flatMap (cu c) := by
  rw [pt_cat]
  rfl
theorem pt_zero : ∀ l : List Nat, pt l [0] = [0]
  | [] => rfl
  | c :: l => by
    rw [pt_le l (Nat.zero_le c)]
    exact pt_zero l
theorem pt_lens {l : List Nat} (h : ∀ c ∈ l, 0 < c) (b : Nat) : (pt l [b]).length ≤ b + 1 := by
  by_cases h0 : b = 0
  · rw [h0, pt_zero]
    simp
  · have s := pt_sum h [b]
    have p := pt_pos h [b] (by simp; omega)
    have := WP.len_sum p
    rw [s] at this
    simp at this
    omega
theorem does_ok {h : Nat} (hh : 0 < h) {acc : List Nat} (ha : ∀ c ∈ acc, 0 < c) {s : St} (hs : s.ok h) {b : Nat} (hb : b ≤ 1000) : M.Step.does false h (s.to h) (pt acc [b]) = .comes (pt (nx acc s) [b]) := by
  cases s with
  | road c ts =>
    have hc := hs.1
    show M.Step.does false h (.road (h + c) ts .cut) _ = .comes (pt (acc ++ [c]) [b])
    rw [pt_snoc]
    unfold M.Step.does M.road
    rw [show h + c - h = c by omega]
    by_cases h0 : b = 0
    · rw [h0, pt_zero, if_pos (by simp), List.flatMap_cons, cu_le (Nat.zero_le _)]
      rfl
    · have p := pt_pos ha [b] (by simp; omega)
      by_cases q : ∀ x ∈ pt acc [b], x ≤ c
      · rw [if_pos q, flat_id q]
      · rw [if_neg q, if_neg (by decide), flat_cut hc p]
  | join =>
    show M.Step.does false h (.join 1000000000000) _ = .comes [b]
    unfold M.Step.does M.join
    have := pt_lens ha b
    rw [if_neg (by omega), pt_sum ha]
    simp
theorem from_ok {h : Nat} (hh : 0 < h) {b : Nat} (hb : b ≤ 1000) : ∀ (r : List St) (acc : List Nat) (i : Nat), (∀ c ∈ acc, 0 < c) → (∀ s ∈ r, s.ok h) → M.Way.from false h (r.map (St.to h)) i (pt acc [b]) = .comes (pt (sinceA acc r) [b])
  | [], acc, i, _, _ => by
    rw [List.map_nil]
    unfold M.Way.from
    rfl
  | s :: r, acc, i, ha, hr => by
    have hs := hr s List.mem_cons_self
    rw [List.map_cons, M.from_cons, does_ok hh ha hs hb]
    exact from_ok hh hb r (nx acc s) (i + 1) (nx_pos ha hs) fun x hx => hr x (List.mem_cons_of_mem _ hx)
theorem walk_ok {h : Nat} (hh : 0 < h) {b : Nat} (hb : b ≤ 1000) {r : List St} (hr : ∀ s ∈ r, s.ok h) : M.Way.walk false (.mk h (r.map (St.to h))) b = .comes (pt (sinceA [] r) [b]) := by
  unfold M.Way.walk
  exact from_ok hh hb r [] 0 (fun c hc => by cases hc) hr
theorem passed_ok {h : Nat} (hh : 0 < h) {b : Nat} (hb : b ≤ 1000) : ∀ (r : List St) (acc : List Nat), (∀ c ∈ acc, 0 < c) → (∀ s ∈ r, s.ok h) → M.passed false h (r.map (St.to h)) (pt acc [b]) = rowsA b acc r
  | [], acc, _, _ => rfl
  | s :: r, acc, ha, hr => by
    have hs := hr s List.mem_cons_self
    rw [List.map_cons, M.passed_cons, does_ok hh ha hs hb]
    show pt (nx acc s) [b] :: M.passed false h (r.map (St.to h)) (pt (nx acc s) [b]) = _
    rw [passed_ok hh hb r (nx acc s) (nx_pos ha hs) fun x hx => hr x (List.mem_cons_of_mem _ hx)]
    rfl
/-- alike ahead, alike behind -/
theorem since_same {b : Nat} : ∀ (r : List St) {a a' : List Nat}, pt a [b] = pt a' [b] → pt (sinceA a r) [b] = pt (sinceA a' r) [b]
  | [], _, _, e => e
  | s :: r, a, a', e => since_same r (a := nx a s) (a' := nx a' s) (by
    cases s with
    | road c ts =>
      show pt (a ++ [c]) [b] = pt (a' ++ [c]) [b]
      rw [pt_snoc, pt_snoc, e]
    | join => rfl)
/-- the cuts of roads alone -/
theorem since_roads : ∀ (s : List St) (acc : List Nat), (∀ x ∈ s, x ≠ .join) → ∀ c ts, St.road c ts ∈ s → c ∈ sinceA acc s
  | [], _, _, c, ts, h => by cases h
  | x :: s, acc, hn, c, ts, h => by
    have keep : ∀ (s : List St) (acc : List Nat), (∀ x ∈ s, x ≠ .join) → ∀ d ∈ acc, d ∈ sinceA acc s := by
      intro s
      induction s with
      | nil => exact fun _ _ d hd => hd
      | cons y s ih =>
        intro acc hn d hd
        refine ih (nx acc y) (fun x hx => hn x (List.mem_cons_of_mem _ hx)) d ?_
        cases y with
        | road c ts => exact List.mem_append_left _ hd
        | join => exact absurd rfl (hn _ List.mem_cons_self)
    have hn' : ∀ x ∈ s, x ≠ .join := fun y hy => hn y (List.mem_cons_of_mem _ hy)
    rcases List.mem_cons.mp h with e | e
    · subst e
      exact keep s _ hn' c (List.mem_append_right _ List.mem_cons_self)
    · exact since_roads s _ hn' c ts e
theorem since_pos {h : Nat} : ∀ (s : List St) (acc : List Nat), (∀ c ∈ acc, 0 < c) → (∀ x ∈ s, St.ok h x) → ∀ c ∈ sinceA acc s, 0 < c
  | [], _, ha, _ => ha
  | x :: s, acc, ha, hs => since_pos s (nx acc x) (nx_pos ha (hs x List.mem_cons_self)) fun y hy => hs y (List.mem_cons_of_mem _ hy)
theorem since_le {h : Nat} : ∀ (s : List St) (acc : List Nat), (∀ c ∈ acc, c ≤ 1000) → (∀ x ∈ s, St.ok h x) → ∀ c ∈ sinceA acc s, c ≤ 1000
  | [], _, ha, _ => ha
  | x :: s, acc, ha, hs => since_le s (nx acc x) (by
    cases x with
    | road c ts =>
      intro d hd
      rcases List.mem_append.mp hd with e | e
      · exact ha d e
      · have := (hs _ List.mem_cons_self).2
        rw [List.mem_singleton.mp e]
        omega
    | join => intro d hd; cases hd) fun y hy => hs y (List.mem_cons_of_mem _ hy)
theorem since_len : ∀ (s : List St) (acc : List Nat), (sinceA acc s).length ≤ acc.length + s.length
  | [], _ => Nat.le_refl _
  | x :: s, acc => by
    have := since_len s (nx acc x)
    have q : (nx acc x).length ≤ acc.length + 1 := by
      cases x with
      | road c ts =>
        show (acc ++ [c]).length ≤ _
        simp
      | join => exact Nat.zero_le _
    show (sinceA (nx acc x) s).length ≤ acc.length + (s.length + 1)
    omega
/-- a road that is not less than one ahead of it changes nothing -/
theorem spare_road {h b : Nat} {s1 s2 : List St} {c c' : Nat} {ts ts' : Bool} (ok : ∀ x ∈ s1, St.ok h x) (hn : ∀ x ∈ s1, x ≠ .join) (hc : St.road c' ts' ∈ s1) (le : c' ≤ c) (b0 : 0 < b ∨ b = 0) : pt (sinceA [] (s1 ++ s2)) [b] = pt (sinceA [] (s1 ++ .road c ts :: s2)) [b] := by
  rw [since_app, since_app]
  refine since_same s2 ?_
  show pt (sinceA [] s1) [b] = pt (sinceA [] s1 ++ [c]) [b]
  rw [pt_snoc, flat_id]
  intro x hx
  have := pt_cuts (since_pos s1 [] (fun c hc => by cases hc) ok) [b] c' (since_roads s1 [] hn c' ts' hc) x hx
  omega
theorem since_map : ∀ (l acc : List Nat), sinceA acc (l.map fun c => .road c false) = acc ++ l
  | [], acc => (List.append_nil acc).symm
  | c :: l, acc => by
    rw [List.map_cons]
    show sinceA (acc ++ [c]) (l.map fun c => .road c false) = _
    rw [since_map l (acc ++ [c]), List.append_assoc]
    rfl
theorem fine_all {h : Nat} : ∀ {r : List St}, (∀ s ∈ r, s.ok h) → M.Step.fineAll h (r.map (St.to h)) ∧ M.Step.deepest (r.map (St.to h)) = 0 ∧ M.Step.inner (r.map (St.to h)) = 0
  | [], _ => by
    rw [List.map_nil]
    refine ⟨?_, ?_, ?_⟩
    · unfold M.Step.fineAll; trivial
    · unfold M.Step.deepest; rfl
    · unfold M.Step.inner; rfl
  | s :: r, hs => by
    obtain ⟨a, b, d⟩ := fine_all (r := r) fun x hx => hs x (List.mem_cons_of_mem _ hx)
    have h0 := hs s List.mem_cons_self
    rw [List.map_cons]
    cases s with
    | road c ts =>
      show M.Step.fineAll h (.road (h + c) ts .cut :: r.map (St.to h)) ∧ M.Step.deepest (.road (h + c) ts .cut :: r.map (St.to h)) = 0 ∧ M.Step.inner (.road (h + c) ts .cut :: r.map (St.to h)) = 0
      refine ⟨?_, ?_, ?_⟩
      · unfold M.Step.fineAll
        refine ⟨?_, a⟩
        unfold M.Step.fine
        have := h0.1
        have := h0.2
        omega
      · unfold M.Step.deepest
        exact b
      · unfold M.Step.inner
        exact d
    | join =>
      show M.Step.fineAll h (.join 1000000000000 :: r.map (St.to h)) ∧ M.Step.deepest (.join 1000000000000 :: r.map (St.to h)) = 0 ∧ M.Step.inner (.join 1000000000000 :: r.map (St.to h)) = 0
      refine ⟨?_, ?_, ?_⟩
      · unfold M.Step.fineAll
        refine ⟨?_, a⟩
        unfold M.Step.fine
        omega
      · unfold M.Step.deepest
        exact b
      · unfold M.Step.inner
        exact d
theorem fine_of {h : Nat} (h1 : 1 ≤ h) (h2 : h ≤ 40) {r : List St} (hs : ∀ s ∈ r, s.ok h) (l1 : 1 ≤ r.length) (l2 : r.length ≤ 12) : M.Way.fine (.mk h (r.map (St.to h))) := by
  obtain ⟨a, b, d⟩ := fine_all hs
  unfold M.Way.fine
  rw [List.length_map]
  exact ⟨⟨h1, h2⟩, ⟨l1, l2⟩, a, by omega, by omega⟩
/-- some road ahead is not greater -/
def spB (h : Nat) (s0 : St) : St → Bool
  | .road c _ => match s0 with
    | .road c0 _ => decide (((h + c : Nat) : Int) ≤ ((h + c0 : Nat) : Int))
    | .join => decide (((h + c : Nat) : Int) ≤ 1000000000000)
  | .join => false
/-! ### falling cuts -/
def fl (cs : List Nat) : List Nat := cs.foldl (fun a c => if a = [] ∨ c < a.getLastD 0 then a ++ [c] else a) []
theorem fl_snoc (l : List Nat) (c : Nat) : fl (l ++ [c]) = if fl l = [] ∨ c < (fl l).getLastD 0 then fl l ++ [c] else fl l := by
  unfold fl
  rw [List.foldl_append]
  rfl
theorem getLastD_mem {l : List Nat} (h : l ≠ []) : l.getLastD 0 ∈ l ∧ l.getLastD 0 = l.getLast h := by
  cases l with
  | nil => exact absurd rfl h
  | cons x l =>
    have e : (x :: l).getLastD 0 = (x :: l).getLast h := by
      rw [List.getLastD_eq_getLast?, List.getLast?_eq_getLast h]
      rfl
    rw [e]
    exact ⟨List.getLast_mem h, rfl⟩
theorem fl_len (l : List Nat) : (fl l).length ≤ l.length := by
  rcases List.eq_nil_or_concat l with e | ⟨r, c, e⟩
  · rw [e]
    exact Nat.le_refl _
  · rw [List.concat_eq_append] at e
    subst e
    have := fl_len r
    rw [fl_snoc]
    split
    · simp
      exact this
    · simp
      omega
termination_by l.length
decreasing_by all_goals (subst_vars; simp)
theorem fl_ok {m : Nat} (l : List Nat) (h : ∀ c ∈ l, 0 < c ∧ c ≤ m) : Fall (fl l) ∧ (∀ c ∈ fl l, c ≤ m) ∧ ∀ ss, pt (fl l) ss = pt l ss := by
  rcases List.eq_nil_or_concat l with e | ⟨r, c, e⟩
  · rw [e]
    exact ⟨trivial, (fun c hc => by cases hc), fun b => rfl⟩
  · rw [List.concat_eq_append] at e
    subst e
    obtain ⟨i1, i2, i3⟩ := fl_ok (m := m) r fun x hx => h x (List.mem_append_left _ hx)
    have hc := h c (List.mem_append_right _ List.mem_cons_self)
    rw [fl_snoc]
    by_cases q : fl r = [] ∨ c < (fl r).getLastD 0
    · rw [if_pos q]
      refine ⟨fall_snoc i1 hc.1 fun d hd => ?_, fun d hd => ?_, fun b => ?_⟩
      · rcases q with q | q
        · rw [q] at hd
          cases hd
        · have ne : fl r ≠ [] := fun z => by rw [z] at hd; cases hd
          have := last_le (fl r) i1 ne d hd
          rw [(getLastD_mem ne).2] at q
          omega
      · rcases List.mem_append.mp hd with e | e
        · exact i2 d e
        · rw [List.mem_singleton.mp e]
          exact hc.2
      · rw [pt_snoc, pt_snoc, i3]
    · rw [if_neg q]
      refine ⟨i1, i2, fun b => ?_⟩
      have ne : fl r ≠ [] := fun z => q (.inl z)
      rw [pt_snoc, ← i3, flat_id]
      intro x hx
      have := pt_cuts i1.pos b _ (getLastD_mem ne).1 x hx
      have q2 : ¬ c < (fl r).getLastD 0 := fun z => q (.inr z)
      omega
termination_by l.length
decreasing_by all_goals (subst_vars; simp)
end N

end
section
set_option autoImplicit false
set_option Elab.async false
set_option linter.all false
set_option maxRecDepth 100000
set_option maxHeartbeats 4000000
/-! ## min of a tuple with default= -/
namespace GF
open PySem PySem.Spec PyProof.Rows L2 PySem.W
theorem ints_reads {h : Heap} : ∀ {ns : List Int} {us : List Value}, Vals (ns.map V.int) us → ReadsAll h us (ns.map PyData.int) []
  | [], _, r => by cases r; exact .nil
  | n :: ns, _, r => by
    cases r with
    | cons a b =>
      obtain ⟨t, rfl⟩ := a
      exact .cons (as := []) (bs := []) (.int n t) (ints_reads b)
theorem ints_alike : ∀ ns : List Int, AlikeAll (ns.map PyData.int) := by
  intro ns
  refine ⟨fun x hx y hy => ?_, fun x hx => ?_⟩
  · obtain ⟨a, _, rfl⟩ := List.mem_map.mp hx
    obtain ⟨b, _, rfl⟩ := List.mem_map.mp hy
    rfl
  · obtain ⟨a, _, rfl⟩ := List.mem_map.mp hx
    intro z
    cases z
theorem ints_depth : ∀ ns : List Int, PyData.depthAll (ns.map PyData.int) = 0
  | [] => by simp only [List.map_nil, PyData.depthAll]
  | n :: ns => by simp only [List.map_cons, PyData.depthAll, PyData.depth, ints_depth ns, Nat.max_self]
theorem int_reads {h : Heap} {v : Value} {n : Int} {bs : List Addr} (r : Reads h v (.int n) bs) : RelV (.int n) v := by
  cases r
  exact ⟨_, rfl⟩
def rMinTD (K : PySem.W.Frag) : List V → List V → Hp → VK → Prop := fun xs zs H Q => ∃ (a : Addr) (ns : List Int) (d : Int), xs = [.ref a] ∧ zs = [.int d] ∧ SqT K H a (ns.map V.int) ∧ (ns = [] → Q (.int d) H) ∧ (∀ n r, ns = n :: r → Q (.int (r.foldl min n)) H)
section
variable {X : Cx}
theorem call_minTD (hc : X.calm = true) (hu : X.A.units + 64 < cLine) : CallRK X (.builtin "min") ["default"] (rMinTD X.K) := by
  intro pins s σ H xs zs us ws Q I r rz h
  obtain ⟨a, ns, d, rfl, rfl, hL, q0, q1⟩ := h
  cases r with
  | cons rx rr =>
    cases rr
    cases rx
    cases rz with
    | cons ra rb =>
      cases rb
      obtain ⟨td, rfl⟩ := ra
      obtain ⟨its, rv, pl, _⟩ := I.tuple hL
      have hr := ints_reads (h := s.heap) rv
      refine min_tuple_default (xs := ns.map .int) (d := .int d td) (I.ok.hd hc) (show s.heap.IsTuple a its.toArray from pl) (by simpa using hr) (ints_alike ns) (by rw [ints_depth]; omega) (fun e h' tk k => ?_) fun y ys i v h' tk bs e hv hR k => ?_
      · cases ns with
        | nil => exact ⟨.int d, H, I.kept (t' := tk) k, ⟨td, rfl⟩, q0 rfl⟩
        | cons n r => cases e
      · cases ns with
        | nil => cases e
        | cons n r =>
          injection e with e1 e2
          subst e1 e2
          rw [minD_ints] at hR
          exact ⟨.int _, H, I.kept (t' := tk) k, int_reads hR, q1 n r rfl⟩
end
end GF
/-! ## sums of chains; parts of any body -/
namespace CP
open PySem L2 G Y GenW
abbrev sCAdd : Stmt := inClass (S.top 31) 5
structure Oq (P : Program) (w : World) (K : PySem.W.Frag) (mg : Str → Option Value) (base : Heap) (C : Addr) (k : Nat) (m : Str) (ps : List Str) (sp : Sp) : Prop where
  ex : ∃ (f : Addr) (fd : FuncData), FnOk P w K mg base CX0 k f fd ps sp ∧ WO.Own K C f m ∧ Binds K fd ps []
theorem fold_cast : ∀ (l : List Nat) (n : Nat), (l.map fun n => ((n : Nat) : Int)).foldl min (n : Int) = ((l.foldl min n : Nat) : Int)
  | [], n => rfl
  | x :: l, n => by
    rw [List.map_cons, List.foldl_cons, List.foldl_cons, ← fold_cast l (min n x)]
    congr 1
    omega
section
variable {P : Program} {w : World} {K : PySem.W.Frag} {mg : Str → Option Value} {base : Heap} {C : Addr}
def spCPart0 (C : Addr) : SpG := fun vs H cont _ => ∃ (a : Addr) (b : Nat) (cs : List Nat), vs = [.ref a, .int (b : Int)] ∧ ChAt C H cs a ∧ Cuts cs ∧ b ≤ 1000 ∧ ∀ H', Same H H' → cont (ni (N.pt cs [b])) H'
theorem ok_cpart0 {f : Addr} {fd : FuncData} (F : Fun K "parted" "Chain.parted" sCPart f fd) (B : Bn mg) (T : Ct K mg C) (MP : Me P w K mg base C 2 "pieces" ["self", "body"] (spCPieces C)) (MB : Me P w K mg base C 1 "_boundary" ["self", "number"] (spCBound C)) : GFn P w K mg base 3 f fd ["self", "body"] (spCPart0 C) := by
  obtain ⟨fP, fdP, GP, mP, bP⟩ := MP.ex
  obtain ⟨fB, fdB, GB, mB, bB⟩ := MB.ex
  obtain ⟨oc, od, kV, dc, pm, an, cdv, ct, os, rfl, lk, hcd⟩ := F.ex
  refine gfn_of lk hcd scPt (fun vs H Q E h => ?_) (fun A outer s H vs Q E pn hr h => ?_)
  · obtain ⟨a, b, cs, rfl, _⟩ := h
    rfl
  · obtain ⟨a, b, cs, rfl, hc, hl, hb2, k⟩ := h
    have r1 := hr.mono (by decide : 1 ≤ 2)
    refine ⟨_, gss_cons (gs_ps (ps_set (i := 2) scPt.nd rfl (Or.inl rfl) pe_int))
      (gss_cons (GF.gs_for owns_gcx rfl (pi_range2 (by rfl) B.range (pa_cons pe_int (pa_cons (pe_meth (pv 0) T.cl mP GP hr bP .nil pass0 (pa_cons (pv 1) pa_nil)) pa_nil))) (pg_name (i := 3) scPt.nd rfl (Or.inl rfl))
        (gss_cons (gs_ps (ps_set (i := 4) scPt.nd rfl (Or.inl rfl) (pe_meth (pv 0) T.cl mB GB r1 bB .nil pass0 (pa_cons (pv 3) pa_nil))))
        (gss_cons (gs_yield (pe_op op_sub (pv 4) (pv 2)))
        (gss_cons (gs_ps (ps_set (i := 2) scPt.nd rfl (Or.inl rfl) (pv 4))) gss_nil))))
      (gss_cons (gs_yield (pe_op op_sub (pv 1) (pv 2))) gss_nil)), ?_⟩
    obtain ⟨dx, fs, i1, i2⟩ := hc.ins nk2.1
    by_cases h0 : b = 0
    · subst h0
      refine ⟨_, rfl, a, dx, fs, rfl, i1, i2, _, rfl, a, 0, cs, rfl, hc, hl, fun G0 s0 => ?_⟩
      rw [show N.PC cs 0 = 1 from rfl]
      refine ⟨_, _, rfl, ⟨by decide, by decide, by decide, by decide⟩, ?_⟩
      rw [show (((1 : Nat) : Int) - 1).toNat = 0 from rfl]
      refine GF.gfor_range (fun i ys σ G => Same H G ∧ ys = [] ∧ ∃ q1 q2, σ = [some (.ref a), some (.int ((0 : Nat) : Int)), some (.int 0), q1, q2])
        ⟨s0, rfl, _, _, rfl⟩ (fun i ys σ G hi => absurd hi (Nat.not_lt_zero _)) ?_
      rintro ys σ G ⟨s1, rfl, q1, q2, rfl⟩
      refine ⟨by decide, _, rfl, _, rfl, _, _, rfl, rfl, ?_⟩
      have := k G s1
      rw [N.pt_zero] at this
      exact this
    have hb : 0 < b := by omega
    have hL := N.L_pos cs hl.fall b hb
    have hLb := N.L_le hl.fall hb
    have ePC : N.PC cs b = N.L cs b := if_neg (by omega)
    refine ⟨_, rfl, a, dx, fs, rfl, i1, i2, _, rfl, a, b, cs, rfl, hc, hl, fun G0 s0 => ?_⟩
    rw [ePC]
    refine ⟨_, _, rfl, ⟨by decide, by decide, by omega, by omega⟩, ?_⟩
    have hn : (((N.L cs b : Nat) : Int) - 1).toNat = N.L cs b - 1 := by omega
    rw [hn]
    refine GF.gfor_range (fun i ys σ G => Same H G ∧ ys = ni ((N.pt cs [b]).take i) ∧ ∃ q1 q2, σ = [some (.ref a), some (.int (b : Int)), some (.int ((N.B cs i : Nat) : Int)), q1, q2])
      ⟨s0, rfl, _, _, by rw [N.B_zero]; rfl⟩ ?_ ?_
    · rintro i ys σ G hi ⟨s1, rfl, q1, q2, rfl⟩
      obtain ⟨x, hx, ex⟩ := N.pt_at hl.fall hb (i := i) (by omega)
      rw [if_pos (by omega)] at ex
      obtain ⟨dx, fs, i1, i2⟩ := (hc.mono s1).ins nk2.2.1
      refine ⟨_, rfl, a, dx, fs, rfl, i1, i2, _, rfl, a, i + 1, cs, ?_, hc.mono s1, hl, fun G2 s2 => ?_⟩
      · show [V.ref a, V.int (1 + (i : Int))] = _
        rw [show 1 + (i : Int) = ((i + 1 : Nat) : Int) by omega]
      · refine ⟨?_, _, rfl, _, rfl, _, _, rfl, rfl, ?_⟩
        · rw [ni_len]
          have := List.length_take_le i (N.pt cs [b])
          exact small1000 (by omega)
        · refine ⟨_, rfl, s1.trans s2, ?_, _, _, rfl⟩
          rw [take_snoc hx, ni_app]
          show _ ++ [V.int (((N.B cs (i + 1) : Nat) : Int) - ((N.B cs i : Nat) : Int))] = _ ++ [V.int (x : Int)]
          rw [show ((N.B cs (i + 1) : Nat) : Int) - ((N.B cs i : Nat) : Int) = (x : Int) by omega]
    · rintro ys σ G ⟨s1, rfl, q1, q2, rfl⟩
      obtain ⟨x, hx, ex⟩ := N.pt_at hl.fall hb (i := N.L cs b - 1) (by omega)
      rw [if_neg (by omega)] at ex
      refine ⟨?_, _, rfl, _, rfl, _, _, rfl, rfl, ?_⟩
      · rw [ni_len]
        have := List.length_take_le (N.L cs b - 1) (N.pt cs [b])
        exact small1000 (by omega)
      · have := k G s1
        have e1 := take_snoc hx
        rw [List.take_of_length_le (by rw [(N.pt_L cs hl.fall b hb).1]; omega)] at e1
        rw [e1, ni_app] at this
        have this : Q (ni ((N.pt cs [b]).take (N.L cs b - 1)) ++ [V.int (x : Int)]) G := this
        rw [show (x : Int) = (b : Int) - ((N.B cs (N.L cs b - 1) : Nat) : Int) by omega] at this
        exact this
/-- first + second -/
def spCAdd (C : Addr) : Sp := fun vs H Q _ => ∃ (a b : Addr) (l m : List Nat), vs = [.ref a, .ref b] ∧ ChAt C H l a ∧ ChAt C H m b ∧ Cuts l ∧ Cuts m ∧ l.length + m.length ≤ 1000 ∧ ∀ c H', Same H H' → ChAt C H' (N.add l m) c → Q (.ref c) H'
theorem cuts_add {l m : List Nat} (hl : Cuts l) (hm : Cuts m) (h : l.length + m.length ≤ 1000) : Cuts (N.add l m) := ⟨N.add_fall hl.fall hm.fall, N.add_le hl.le hm.le, Nat.le_trans (N.add_len l m) h⟩
abbrev NAd : List Str := ["self", "other", "least", "cut"]
theorem scAd : FnScope NAd ["self", "other"] (defScope sCAdd) := ⟨rfl, rfl, rfl, by decide +kernel, rfl, by decide +kernel, by decide +kernel⟩
theorem ok_cadd {f : Addr} {fd : FuncData} (F : Fun K "__add__" "Chain.__add__" sCAdd f fd) (B : Bn mg) (T : Ct K mg C) (gC : ∃ t, mg "GREATEST_CUT" = some (.int 1000 t)) (MW : Mw P w K mg base C) : FnOk P w K mg base CX0 6 f fd ["self", "other"] (spCAdd C) := by
  obtain ⟨fI, fdI, GI, MK, bI⟩ := MW.ex
  obtain ⟨tkC, gC⟩ := gC
  refine F.ok scAd (fun vs H Q E h => ?_) (fun cdv A outer s H vs Q E hr h => ?_)
  · obtain ⟨a, b, l, m, rfl, _⟩ := h
    rfl
  · obtain ⟨a, b, l, m, rfl, ha, hb, hl, hm, hlen, k⟩ := h
    refine ⟨_, pss_cons (ps_set (i := 2) scAd.nd rfl (Or.inr rfl) (pe_callBK (GF.call_minTD rfl hr.units) (by rfl) B.min (by decide +kernel) (pa_cons (pe_fld (pv 0) rfl) pa_nil) (pk_cons (pe_op op_add (pe_glob (v := .int 1000) rfl gC ⟨_, rfl⟩) pe_int) pk_nil)))
      (pss_one (ps_ret (pe_make MK GI hr rfl T.g bI .nil pass0 (pa_cons (pe_op op_catA (pe_fld (pv 0) rfl) (pe_callTy call_tuple_of (by rfl) B.tuple (by decide +kernel) (pa_cons
        (pe_lc (own := [("cut", 3)]) (g := gName 3) (tt := tTest (tOp (rI0 fun i j => .bl (decide (i < j))) (tVar 3) (tVar 2))) (te := tVar 3) rfl scAd.nd (pi_tup (pe_fld (pv 1) rfl)) (blkOk_by (N := NAd) (sc := defScope sCAdd) (by decide +kernel))
          (fun _ _ _ _ _ => pg_name (i := 3) scAd.nd rfl (Or.inl rfl)) (fun _ _ _ _ _ => pts_one (by exact pt_cmpR op_lt (pv 3) (pv 2) (nomark _))) (fun _ _ _ _ _ => by exact pv 3)) pa_nil))) pa_nil)))), ?_⟩
    obtain ⟨dx, t, u, h1, h2, h3⟩ := id ha
    obtain ⟨dy, t', u', g1, g2, g3⟩ := id hb
    have fin : ∀ (c0 : Addr) (G2 : Hp), Same H G2 → G2 c0 = some (.tup (ni (N.add l m))) → ∀ x dx, G2 x = none → G2 dx = none → dx ≠ x → spCInit C (.ref x :: ([.ref c0] ++ [])) (upd (upd G2 dx (.own x)) x (.ins C dx [])) (fun v H2 => v = .non ∧ Q (.ref x) H2) E0 :=
      fun c0 G2 s2 hc0 x dx hx hdx ne => made_ch hx hdx ne (.inr hc0) (cuts_add hl hm hlen) fun G3 s3 hch => ⟨rfl, k x G3 (s2.trans s3) hch⟩
    have rest : tRet (tMake C (spCInit C) [] E0 (tCons (tOp (rCatA K) (tFld K (tVar 0) "cuts") (tCB (fun xs H Q => ∃ p ys, xs = [V.ref p] ∧ ((SqL K H p ys ∧ ∀ l, H l = none → Q (.ref l) (upd H l (.tup ys))) ∨ (SqT K H p ys ∧ Q (.ref p) H))) (tCons (tLc (iTup K (tFld K (tVar 1) "cuts")) (gName 3) (tTest (tOp (rI0 fun i j => .bl (decide (i < j))) (tVar 3) (tVar 2))) (tVar 3) [3]) tNil))) tNil)) { nx := fun _ H' => Q .non H', rt := Q } [some (.ref a), some (.ref b), some (.int ((N.lo l : Nat) : Int)), none] H := by
      refine ⟨_, rfl, a, C, dx, _, _, rfl, h1, T.cl, T.nC, cfl_cuts t u, ?_⟩
      refine ⟨_, rfl, b, C, dy, _, _, rfl, g1, T.cl, T.nC, cfl_cuts t' u', t', rfl, ⟨_, SqT.of g2⟩, fun D hD => ?_⟩
      refine lc_it walk_tup (fun i G => Same H G ∧ G D = some (.lst (ni ((m.take i).filter fun d => decide (d < N.lo l))))) ⟨of_upd hD, upd_same⟩ (fun i G _ z => SqT.of (z.1 _ _ g2)) ?_ ?_
      · rintro i x G G' hi ⟨s1, hG⟩ ⟨rfl, hx⟩
        obtain ⟨c, hc, rfl⟩ := ni_get hx
        have e : m.take (i + 1) = m.take i ++ [c] := take_snoc hc
        refine ⟨rfl, _, rfl, _, rfl, _, _, rfl, rfl, _, rfl, ite2 (fun c1 => ?_) (fun c1 => ?_)⟩
        · have c2 : (c : Int) < ((N.lo l : Nat) : Int) := of_decide_eq_true c1
          refine ⟨_, rfl, _, hG, ?_, add_upd hD s1, ?_⟩
          · rw [ni_len] at hi ⊢
            have := List.length_filter_le (fun d => decide (d < N.lo l)) (m.take i)
            have := List.length_take_le i m
            have := hm.len
            exact small1000 (by omega)
          · rw [upd_same, e, List.filter_append, ni_app, List.filter_cons_of_pos (by simpa using (by omega : c < N.lo l))]
            rfl
        · have c2 : ¬ (c : Int) < ((N.lo l : Nat) : Int) := fun z => c1 (decide_eq_true z)
          refine ⟨s1, ?_⟩
          rw [hG, e, List.filter_append, List.filter_cons_of_neg (by simpa using (by omega : ¬ c < N.lo l)), List.filter_nil, List.append_nil]
      · rintro G ⟨s1, hG⟩
        rw [ni_len, List.take_length] at hG
        refine ⟨D, _, rfl, .inl ⟨SqL.of hG, fun t2 ht2 => ?_⟩⟩
        have s2 : Same G (upd G t2 (.tup (ni (m.filter fun d => decide (d < N.lo l))))) := of_upd ht2
        have h2' := s2 _ _ (s1 _ _ h2)
        have el : ni (N.add l m) = ni l ++ ni (m.filter fun d => decide (d < N.lo l)) := by
          unfold N.add
          rw [ni_app]
        refine ⟨t, t2, _, _, rfl, rfl, SqT.of h2', SqT.of upd_same, ?_, fun e => ?_, fun _ e => ?_, fun _ _ v hv => ?_⟩
        · rw [ni_len, ni_len]
          have := List.length_filter_le (fun d => decide (d < N.lo l)) m
          exact Nat.le_trans (show _ ≤ 1000 by omega) (by decide)
        · refine fin t2 _ (s1.trans s2) ?_
          rw [upd_same, el, e, List.nil_append]
        · refine fin t _ (s1.trans s2) ?_
          rw [h2', el, e, List.append_nil]
        · refine fin v _ ((s1.trans s2).trans (of_upd hv)) ?_
          rw [upd_same, el]
    refine ⟨_, rfl, a, C, dx, _, _, rfl, h1, T.cl, T.nC, cfl_cuts t u, _, _, rfl, rfl, ?_⟩
    refine ⟨t, l.map fun n => ((n : Nat) : Int), _, rfl, rfl, SqT.of h2, fun e => ?_, fun n r e => ?_⟩
    · have el : l = [] := List.map_eq_nil_iff.mp e
      have e2 : (1000 : Int) + 1 = ((N.lo l : Nat) : Int) := by
        rw [el]
        rfl
      rw [e2]
      exact rest
    · have e2 : r.foldl min n = ((N.lo l : Nat) : Int) := by
        cases l with
        | nil => cases e
        | cons c l =>
          rw [List.map_cons] at e
          injection e with e1 e3
          subst e1 e3
          rw [fold_cast]
          have := hl.le c List.mem_cons_self
          show ((l.foldl min c : Nat) : Int) = ((l.foldl min (min 1001 c) : Nat) : Int)
          rw [show min 1001 c = c by omega]
      rw [e2]
      exact rest
end
end CP
/-! ## one way behind another; a way without a step -/
namespace WP
open PySem L2 G
theorem StepsAt.app {C : Addr} {H : Hp} : ∀ {s r : List M.Step} {xs ys : List V}, StepsAt C H s xs → StepsAt C H r ys → StepsAt C H (s ++ r) (xs ++ ys)
  | [], r, xs, ys, a, b => by
    unfold StepsAt at a
    subst a
    exact b
  | x :: s, r, xs, ys, a, b => by
    unfold StepsAt at a
    obtain ⟨u, us, rfl, h1, h2⟩ := a
    show StepsAt C H (x :: (s ++ r)) (u :: (us ++ ys))
    unfold StepsAt
    exact ⟨u, us ++ ys, rfl, h1, h2.app b⟩
theorem StepsAt.ne {C : Addr} {H : Hp} {s : List M.Step} {xs : List V} (h : StepsAt C H s xs) (n : 1 ≤ s.length) : xs ≠ [] := fun e => by
  have := h.len
  rw [e] at this
  simp at this
  rw [← this] at n
  simp at n
section
variable {P : Program} {w : World} {K : PySem.W.Frag} {mg : Str → Option Value} {base : Heap} {C : Addr}
/-- the class as it makes ways -/
structure Mw (P : Program) (w : World) (K : PySem.W.Frag) (mg : Str → Option Value) (base : Heap) (C : Addr) : Prop where
  ex : ∃ (f : Addr) (fd : FuncData), FnOk P w K mg base CX0 6 f fd ["self", "head", "steps"] (spInit C) ∧ Mk K C f ∧ Binds K fd ["self", "head", "steps"] []
theorem made_way {H : Hp} {Q : VK} {E : XK} {l : Addr} {h : Nat} {xs : List V} {st : List M.Step} (hl : SAt H l xs) (hs : StepsAt C H st xs) (hf : M.Way.fine (.mk h st)) (k : ∀ x H', Same H H' → WayAt C H' (.mk h st) x → Q (.ref x) H') :
    ∀ x dx, H x = none → H dx = none → dx ≠ x → spInit C (.ref x :: ([.int (h : Int), .ref l] ++ [])) (upd (upd H dx (.own x)) x (.ins C dx [])) (fun v H2 => v = .non ∧ Q (.ref x) H2) E := fun x dx hx hdx ne =>
  ⟨x, l, dx, h, xs, st, H, rfl, upd_same, hx, (Same.of_upd hdx).trans (Same.of_upd (by rw [upd_ne ne.symm]; exact hx)), hl, hs, hf, fun H' s wa => ⟨rfl, k x H' s wa⟩⟩
def spAddW (C : Addr) : Sp := fun vs H Q _ => ∃ a b h s1 s2, vs = [.ref a, .ref b] ∧ WayAt C H (.mk h s1) a ∧ WayAt C H (.mk h s2) b ∧ 1 ≤ s1.length ∧ s1.length + s2.length ≤ 100 ∧ M.Way.fine (.mk h (s1 ++ s2)) ∧ ∀ c H', Same H H' → WayAt C H' (.mk h (s1 ++ s2)) c → Q (.ref c) H'
theorem scAW : FnScope ["self", "other"] ["self", "other"] (defScope sAdd) := ⟨rfl, rfl, rfl, by decide +kernel, rfl, by decide +kernel, by decide +kernel⟩
theorem ok_add {f : Addr} {fd : FuncData} (F : Fun K "__add__" "Way.__add__" sAdd f fd) (T : Wt K mg C) (MW : Mw P w K mg base C) : FnOk P w K mg base CX0 8 f fd ["self", "other"] (spAddW C) := by
  obtain ⟨fI, fdI, GI, MK, bI⟩ := MW.ex
  refine F.ok scAW (fun vs H Q E h => ?_) (fun cdv A outer s H vs Q E hr h => ?_)
  · obtain ⟨a, b, h, s1, s2, rfl, _⟩ := h
    rfl
  · obtain ⟨a, b, h, s1, s2, rfl, h1, h2, n1, n2, hf, k⟩ := h
    refine ⟨_, pss_cons (ps_if (pt_cmpR op_ne (pe_fld (pv 1) rfl) (pe_fld (pv 0) rfl) (nomark _)) ps_dead pss_nil)
      (pss_one (ps_ret (pe_make MK GI hr rfl T.g bI .nil pass0 (pa_cons (pe_fld (pv 0) rfl) (pa_cons (pe_op op_catT (pe_fld (pv 0) rfl) (pe_fld (pv 1) rfl)) pa_nil))))), ?_⟩
    obtain ⟨da, fa, a1, a2⟩ := head_fld h1
    obtain ⟨db, fb, b1, b2⟩ := head_fld h2
    obtain ⟨dc, fc, t1, xs, c1, c2, c3, c4⟩ := steps_fld h1
    obtain ⟨de, fe, t2, ys, e1, e2, e3, e4⟩ := steps_fld h2
    refine ⟨_, rfl, b, C, db, fb, _, rfl, b1, T.cl, T.nH, b2, _, rfl, a, C, da, fa, _, rfl, a1, T.cl, T.nH, a2, rfl, _, rfl, iteNS rfl ?_⟩
    have lx := c4.len
    have ly := e4.len
    refine ⟨_, rfl, a, C, da, fa, _, rfl, a1, T.cl, T.nH, a2, ?_⟩
    refine ⟨_, rfl, a, C, dc, fc, _, rfl, c1, T.cl, T.nS, c2, _, rfl, b, C, de, fe, _, rfl, e1, T.cl, T.nS, e2, ?_⟩
    refine catT_of c3 e3 (c4.ne n1) ?_ fun u G s hu => ?_
    · have q : xs.length + ys.length ≤ 100 := by rw [lx, ly]; exact n2
      exact Nat.le_trans q (by decide)
    · exact made_way (.inr hu) ((c4.mono s).app (e4.mono s)) hf fun x H' s2 wa => k x H' (s.trans s2) wa

abbrev sWithout : Stmt := inClass (top 45) 6
theorem StepsAt.take {C : Addr} {H : Hp} : ∀ {s : List M.Step} {xs : List V} (i : Nat), StepsAt C H s xs → StepsAt C H (s.take i) (xs.take i)
  | s, xs, 0, _ => by
    rw [List.take_zero, List.take_zero]
    unfold StepsAt
    rfl
  | [], xs, i + 1, h => by
    unfold StepsAt at h
    subst h
    unfold StepsAt
    rfl
  | y :: s, xs, i + 1, h => by
    unfold StepsAt at h
    obtain ⟨u, us, rfl, h1, h2⟩ := h
    rw [List.take_succ_cons, List.take_succ_cons]
    unfold StepsAt
    exact ⟨u, us.take i, rfl, h1, h2.take i⟩
theorem StepsAt.drop {C : Addr} {H : Hp} : ∀ {s : List M.Step} {xs : List V} (i : Nat), StepsAt C H s xs → StepsAt C H (s.drop i) (xs.drop i)
  | s, xs, 0, h => by
    rw [List.drop_zero, List.drop_zero]
    exact h
  | [], xs, i + 1, h => by
    unfold StepsAt at h
    subst h
    unfold StepsAt
    rfl
  | y :: s, xs, i + 1, h => by
    unfold StepsAt at h
    obtain ⟨u, us, rfl, h1, h2⟩ := h
    rw [List.drop_succ_cons, List.drop_succ_cons]
    exact h2.drop i
theorem sl_any {K : PySem.W.Frag} {H : Hp} {Q : VK} {t : Addr} {xs : List V} {lo hi : Option Int} (h : H t = some (.tup xs)) (k : ∀ u G, Same H G → G u = some (.tup (cutV xs lo hi)) → Q (.ref u) G) : rSlA K (.ref t) lo hi H Q :=
  ⟨t, xs, rfl, SqT.of h, fun z => k t H (Same.refl H) (by
    unfold cutV
    rw [z.1, z.2, List.drop_zero, Nat.sub_zero, List.take_length]
    exact h), fun _ p hp => k p _ (Same.of_upd hp) upd_same⟩
theorem catA_own {K : PySem.W.Frag} {H : Hp} {Q : VK} {a b : Addr} {xs ys : List V} (ha : H a = some (.tup xs)) (hb : H b = some (.tup ys)) (hl : xs.length + ys.length ≤ sizeLine) (k : ∀ c H', Same H H' → H' c = some (.tup (xs ++ ys)) → Q (.ref c) H') : rCatA K (.ref a) (.ref b) H Q :=
  ⟨a, b, xs, ys, rfl, rfl, SqT.of ha, SqT.of hb, hl, fun z => k b H (Same.refl H) (by rw [z]; exact hb), fun _ z => k a H (Same.refl H) (by rw [z, List.append_nil]; exact ha), fun _ _ p hp => k p _ (Same.of_upd hp) upd_same⟩
theorem cut_lo (xs : List V) (k : Nat) : cutV xs (some (k : Int)) none = xs.drop k := Y.cut_from xs k
theorem cut_hi (xs : List V) (k : Nat) : cutV xs none (some (k : Int)) = xs.take k := by
  unfold cutV
  rw [HT.sIx_nat, HT.sIx_none, List.drop_zero, Nat.sub_zero]
  by_cases h : k ≤ xs.length
  · rw [Nat.min_eq_left h]
  · rw [Nat.min_eq_right (by omega), List.take_of_length_le (Nat.le_refl _), List.take_of_length_le (by omega)]
/-- without a step -/
def spOutW (C : Addr) : Sp := fun vs H Q _ => ∃ (a : Addr) (i h : Nat) (s : List M.Step), vs = [.ref a, .int (i : Int)] ∧ WayAt C H (.mk h s) a ∧ i < s.length ∧ s.length ≤ 100 ∧ M.Way.fine (.mk h (s.take i ++ s.drop (i + 1))) ∧ ∀ c H', Same H H' → WayAt C H' (.mk h (s.take i ++ s.drop (i + 1))) c → Q (.ref c) H'
theorem scOW : FnScope ["self", "position"] ["self", "position"] (defScope sWithout) := ⟨rfl, rfl, rfl, by decide +kernel, rfl, by decide +kernel, by decide +kernel⟩
theorem ok_out {f : Addr} {fd : FuncData} (F : Fun K "without" "Way.without" sWithout f fd) (B : Bn mg) (T : Wt K mg C) (MW : Mw P w K mg base C) (DW : Df P w K mg base 2 "is_within" ["value", "least", "greatest"] spWithin) : FnOk P w K mg base CX0 8 f fd ["self", "position"] (spOutW C) := by
  obtain ⟨fI, fdI, GI, MK, bI⟩ := MW.ex
  obtain ⟨fW, fdW, GW, gW, kW, bW⟩ := DW.ex
  refine F.ok scOW (fun vs H Q E h => ?_) (fun cdv A outer s H vs Q E hr h => ?_)
  · obtain ⟨a, i, h, s, rfl, _⟩ := h
    rfl
  · obtain ⟨a, i, h, sts, rfl, hw, hi, hn, hf, k⟩ := h
    refine ⟨_, pss_cons (ps_if (pt_not (pt_val (pe_call GW (hr.mono (by decide)) rfl gW kW bW .nil pass0 (pa_cons (pv 1) (pa_cons pe_int (pa_cons (pe_op op_sub (pe_callB call_len_seq (by rfl) B.len PySem.boot_len (pa_cons (pe_fld (pv 0) rfl) pa_nil)) pe_int) pa_nil)))))) ps_dead pss_nil)
      (pss_one (ps_ret (pe_make MK GI hr rfl T.g bI .nil pass0 (pa_cons (pe_fld (pv 0) rfl) (pa_cons (pe_op op_catA (pe_slice sl_tupA (pe_fld (pv 0) rfl) po_none (po_some (pv 1))) (pe_slice sl_tupA (pe_fld (pv 0) rfl) (po_some (pe_op op_add (pv 1) pe_int)) po_none)) pa_nil))))), ?_⟩
    obtain ⟨da, fa, a1, a2⟩ := head_fld hw
    obtain ⟨dc, fc, t1, xs, c1, c2, c3, c4⟩ := steps_fld hw
    have lx := c4.len
    have lx2 : xs.length = sts.length := lx
    refine ⟨_, rfl, _, rfl, a, C, dc, fc, _, rfl, c1, T.cl, T.nS, c2, t1, _, rfl, .inr (SqT.of c3), _, _, rfl, rfl, (i : Int), 0, _, rfl, ?_⟩
    rw [lx2, decide_eq_true (show (0 : Int) ≤ (i : Int) ∧ (i : Int) ≤ (sts.length : Int) - 1 by omega)]
    refine ⟨_, rfl, iteF ?_⟩
    refine ⟨_, rfl, a, C, da, fa, _, rfl, a1, T.cl, T.nH, a2, ?_⟩
    refine ⟨_, rfl, a, C, dc, fc, _, rfl, c1, T.cl, T.nS, c2, ?_⟩
    dsimp only [tNoPart]
    refine ⟨_, rfl, _, rfl, ?_⟩
    refine sl_any c3 fun u1 G1 s1 h1 => ?_
    refine ⟨_, rfl, a, C, dc, fc, _, rfl, s1 _ _ c1, T.cl, T.nS, c2, _, rfl, _, _, rfl, rfl, _, rfl, ?_⟩
    dsimp only [tNoPart]
    refine sl_any (s1 _ _ c3) fun u2 G2 s2 h2 => ?_
    rw [cut_hi] at h1
    rw [show ((i : Int) + 1) = ((i + 1 : Nat) : Int) from rfl, cut_lo] at h2
    refine catA_own (s2 _ _ h1) h2 (by rw [List.length_take, List.length_drop]; exact Nat.le_trans (show _ ≤ 200 by omega) (by decide)) fun c G3 s3 hc => ?_
    have s4 := (s1.trans s2).trans s3
    exact made_way (.inr hc) (((c4.mono s4).take i).app ((c4.mono s4).drop (i + 1))) hf fun x H' s5 wa => k x H' (s4.trans s5) wa
end
end WP

end
section
set_option autoImplicit false
set_option Elab.async false
set_option linter.all false
set_option maxRecDepth 100000
set_option maxHeartbeats 4000000
/-! ## draws: what they leave -/
namespace Y
open PySem L2 G
/-- all but the source at p stays -/
def Bt (p : Addr) (H H' : Hp) : Prop := (∀ a o, a ≠ p → H a = some o → H' a = some o) ∧ S.At H' p
theorem Bt.trans {p : Addr} {H H1 H2 : Hp} (a : Bt p H H1) (b : Bt p H1 H2) : Bt p H H2 := ⟨fun x o n e => b.1 x o n (a.1 x o n e), b.2⟩
theorem Bt.same {p : Addr} {H H' : Hp} (s : Same H H') (h : S.At H p) : Bt p H H' := by
  obtain ⟨r, m, e, f⟩ := h
  exact ⟨fun a o _ e2 => s _ _ e2, r, m, s _ _ e, f⟩
theorem Bt.put {p : Addr} {H : Hp} {r m : Int} (f : S.Fine r m) : Bt p H (upd H p (.lst (S.Two r m))) := ⟨fun a o n e => by rw [upd_ne n]; exact e, r, m, upd_same, f⟩
theorem Bt.new {p u : Addr} {H : Hp} (o : HO) (h : S.At H p) (hu : H u = none) : Bt p H (upd H u o) := Bt.same (of_upd hu) h
theorem at_ne {H : Hp} {p L : Addr} (h : S.At H p) (hL : H L = none) : L ≠ p := fun e => by
  obtain ⟨r, m, e2, _⟩ := h
  rw [e, e2] at hL
  cases hL
theorem bt_lst {p L : Addr} {H H' : Hp} {o : HO} (b : Bt p H H') (ne : L ≠ p) (h : H L = some o) : H' L = some o := b.1 L _ ne h
theorem sameAt {p : Addr} {H H' : Hp} (s : Same H H') (h : S.At H p) : S.At H' p := by
  obtain ⟨r, m, e, f⟩ := h
  exact ⟨r, m, s _ _ e, f⟩
theorem sameBt {p : Addr} {H G G' : Hp} (s : Same H G) (n : H p = none) (b : Bt p G G') : Same H G' := fun a o e => b.1 a o (fun z => by rw [z, n] at e; cases e) (s a o e)
theorem draw_at {H : Hp} {Q : VK} {E : XK} {p : Addr} {n : Int} (h : S.At H p) (n1 : 1 ≤ n) (n2 : n.natAbs.log2 < 9000) (k : ∀ j H', 0 ≤ j → j < n → Bt p H H' → Q (.int j) H') : S.spDraw [.ref p, .int n] H Q E := by
  obtain ⟨r, m, hp, hf⟩ := h
  exact ⟨p, r, m, n, rfl, hp, hf, n1, n2, fun j r1 m1 f1 j0 j1 => k j _ j0 j1 (Bt.put f1)⟩
/-- a draw as it stands in an expression: below a written number, or below what a name holds -/
theorem draw_vv {σ : L2.St} {H : Hp} {Q : VK} {E : XK} {p : Addr} {i : Nat} {n : Int} (hσ : σ[i]? = some (some (.ref p))) (h : S.At H p) (n1 : 1 ≤ n) (n2 : n.natAbs.log2 < 9000) (k : ∀ j H', 0 ≤ j → j < n → Bt p H H' → Q (.int j) H') : tCall S.spDraw [] E (tCons (tVar i) (tCons (tC (.int n)) tNil)) σ H Q := ⟨_, hσ, draw_at (E := E) h n1 n2 k⟩
theorem draw_var {σ : L2.St} {H : Hp} {Q : VK} {E : XK} {p : Addr} {i j : Nat} {n : Int} (hσ : σ[i]? = some (some (.ref p))) (hj : σ[j]? = some (some (.int n))) (h : S.At H p) (n1 : 1 ≤ n) (n2 : n.natAbs.log2 < 9000) (k : ∀ j H', 0 ≤ j → j < n → Bt p H H' → Q (.int j) H') : tCall S.spDraw [] E (tCons (tVar i) (tCons (tVar j) tNil)) σ H Q := ⟨_, hσ, _, hj, draw_at (E := E) h n1 n2 k⟩
theorem draw_of {σ : L2.St} {H : Hp} {Q : VK} {p : Addr} {E : XK} {i : Nat} {c n : Int} (hσ : σ[i]? = some (some (.ref p))) (h : S.At H p) (n1 : 1 ≤ n) (n2 : n.natAbs.log2 < 9000) (k : ∀ j H', 0 ≤ j → j < n → Bt p H H' → Q (.int (c + j)) H') :
    tOp (rI0 fun i j => .int (i + j)) (tC (.int c)) (tCall S.spDraw [] E (tCons (tVar i) (tCons (tC (.int n)) tNil))) σ H Q := by
  obtain ⟨r, m, hp, hf⟩ := h
  exact ⟨_, hσ, p, r, m, n, rfl, hp, hf, n1, n2, fun j r1 m1 f1 j0 j1 => ⟨_, _, rfl, rfl, k j _ j0 j1 (Bt.put f1)⟩⟩
theorem draw_w {σ : L2.St} {H : Hp} {Q : VK} {E : XK} {p : Addr} {i j : Nat} {c n : Int} (hσ : σ[i]? = some (some (.ref p))) (hj : σ[j]? = some (some (.int n))) (h : S.At H p) (n1 : 1 ≤ n) (n2 : n.natAbs.log2 < 9000) (k : ∀ x H', 0 ≤ x → x < n → Bt p H H' → Q (.int (c + x)) H') :
    tOp (rI0 fun i j => .int (i + j)) (tC (.int c)) (tCall S.spDraw [] E (tCons (tVar i) (tCons (tVar j) tNil))) σ H Q := by
  obtain ⟨r, m, hp, hf⟩ := h
  exact ⟨_, hσ, _, hj, p, r, m, n, rfl, hp, hf, n1, n2, fun x r1 m1 f1 j0 j1 => ⟨_, _, rfl, rfl, k x _ j0 j1 (Bt.put f1)⟩⟩
/-- a pick from a list just made -/
theorem pick_at {K : PySem.W.Frag} {H : Hp} {Q : VK} {p l : Addr} {E : XK} {xs : List V} (h : S.At H p) (hl : H l = none) (h1 : 1 ≤ xs.length) (h2 : xs.length ≤ 1000) (k : ∀ x H', x ∈ xs → Bt p H H' → Q x H') : S.spPick K [.ref p, .ref l] (upd H l (.lst xs)) Q E := by
  obtain ⟨r, m, hp, hf⟩ := h
  have lp : l ≠ p := fun z => by
    rw [z, hp] at hl
    cases hl
  exact ⟨p, l, r, m, xs, rfl, by rw [upd_ne lp.symm]; exact hp, hf, lp, SqL.of upd_same, h1, h2, fun j x r2 m2 f2 hx => k x _ (List.mem_of_getElem? hx) ((Bt.same (of_upd hl) ⟨r, m, hp, hf⟩).trans (Bt.put f2))⟩
theorem pick_of {K : PySem.W.Frag} {σ : L2.St} {H : Hp} {Q : VK} {p : Addr} {E : XK} {i : Nat} {xs : List V} {ta : TA} (hσ : σ[i]? = some (some (.ref p))) (h : S.At H p) (h1 : 1 ≤ xs.length) (h2 : xs.length ≤ 1000) (ha : ∀ Q2 : List V → Hp → Prop, Q2 xs H → ta σ H Q2) (k : ∀ x H', x ∈ xs → Bt p H H' → Q x H') :
    tCall (S.spPick K) [] E (tCons (tVar i) (tCons (tLst ta) tNil)) σ H Q := ⟨_, hσ, ha _ ⟨Nat.le_trans h2 (by decide), fun l hl => pick_at (E := E) h hl h1 h2 k⟩⟩
end Y

end
section
set_option autoImplicit false
set_option Elab.async false
set_option linter.all false
set_option maxRecDepth 100000
set_option maxHeartbeats 4000000
/-! ## falling cuts; the law's steps and dues on the heap -/
namespace CP
open PySem L2 G Y
abbrev sLFall : Stmt := S.top 56
theorem eqv_nilL : ∀ l : List PyData, PyData.eqv (.list l) (.list []) = decide (l = [])
  | [] => by simp [PyData.eqv, PyData.eqvAll]
  | x :: l => by simp [PyData.eqv, PyData.eqvAll]
theorem eq_nilI {K : PySem.W.Frag} {H : Hp} {Q : VK} {D e : Addr} {l : List Nat} (hD : SqL K H D (ni l)) (he : SqL K H e []) (q : Q (.bl (decide (l = []))) H) : rEqD K (.ref D) (.ref e) H Q :=
  ⟨_, _, .lst hD (dp_ints l), .lst he .nil, shp_list l, by decide +kernel, by
    rw [eqv_nilL]
    have : decide (l.map dI = []) = decide (l = []) := by cases l <;> simp
    rw [this]
    exact q⟩
section
variable {P : Program} {w : World} {K : PySem.W.Frag} {mg : Str → Option Value} {base : Heap} {C : Addr}
def spFl : Sp := fun vs H Q _ => ∃ (D : Addr) (cs : List Nat), vs = [.ref D] ∧ H D = some (.lst (ni cs)) ∧ cs.length ≤ 900 ∧ ∀ R H', Same H H' → H R = none → H' R = some (.lst (ni (N.fl cs))) → Q (.ref R) H'
theorem scFl : FnScope ["cuts", "found", "cut"] ["cuts"] (defScope sLFall) := ⟨rfl, rfl, rfl, by decide +kernel, rfl, by decide +kernel, by decide +kernel⟩
theorem ok_fl {f : Addr} {fd : FuncData} (F : Fun K "_law_falling" "_law_falling" sLFall f fd) : FnOk P w K mg base CX0 1 f fd ["cuts"] spFl := by
  refine F.ok scFl (fun vs H Q E h => ?_) (fun cdv A outer s H vs Q E hr h => ?_)
  · obtain ⟨D, cs, rfl, _⟩ := h
    rfl
  · obtain ⟨D, cs, rfl, hD, hl, k⟩ := h
    refine ⟨_, pss_cons (ps_set (i := 1) scFl.nd rfl (Or.inl rfl) (pe_lst pa_nil))
      (pss_cons (ps_for PassesOwn.never rfl (pi_list (pv 0)) (pg_name (i := 2) scFl.nd rfl (Or.inl rfl)) (pss_one (ps_if (PW.pt (pw_or (pt_cmpR (op_eqD hr.units) (pv 1) (pe_lst pa_nil) (nomark _)) (pw_or1 (pt_cmpR (op_lt) (pv 2) (pe_ix ix_list (pv 1) (pe_un un_neg pe_int) (fun _ _ => rfl)) (nomark _))))) (pss_one (ps_expr (pe_bm PySem.F.plainAttrs_list PySem.F.slot_list_append PySem.F.type_list_append mt_append (pv 1) (pa_cons (pv 2) pa_nil)))) (pss_nil))))
      (pss_one (ps_ret (pv 1)))), ?_⟩
    refine set_then (i := 1) ⟨line2.2.2.2, fun R hR => ?_⟩
    refine ⟨_, rfl, D, rfl, ⟨_, SqL.of ((of_upd hR) _ _ hD)⟩, for_list (K := K) (a := D) (xs := ni cs) (fun i σ G => Same H G ∧ G R = some (.lst (ni (N.fl (cs.take i)))) ∧ ∃ q2, σ = [some (.ref D), some (.ref R), q2])
      ⟨of_upd hR, upd_same, _, rfl⟩ (fun i σ G _ z => SqL.of (z.1 _ _ hD)) ?_ ?_⟩
    · rintro i x σ G hx ⟨s1, hG, q2, rfl⟩
      obtain ⟨c, hc, rfl⟩ := ni_get hx
      have hi := (List.getElem?_eq_some_iff.mp hc).1
      have e := N.fl_snoc (cs.take i) c
      have sz : (ni (N.fl (cs.take i))).length < sizeLine := by
        rw [ni_len]
        exact small1000 (Nat.le_trans (N.fl_len _) (Nat.le_trans (List.length_take_le _ _) (by omega)))
      rw [← take_snoc hc] at e
      generalize hf : N.fl (cs.take i) = f at hG sz e
      refine ⟨_, rfl, line2.2.2.2, fun e1 f1 => ?_⟩
      have g1 := of_upd (o := .lst []) f1
      refine eq_nilI (SqL.of (g1 _ _ hG)) (SqL.of upd_same) ⟨_, rfl, ?_⟩
      have s2 := s1.trans g1
      have hG1 := g1 _ _ hG
      generalize upd G e1 (.lst []) = G1 at s2 hG1 ⊢
      by_cases h0 : f = []
      · rw [decide_eq_true h0]
        rw [if_pos (Or.inl h0)] at e
        refine iteT (iteT ⟨_, rfl, .inl ⟨rfl, _, SqL.of hG1⟩, _, rfl, R, _, _, rfl, rfl, hG1, sz, add_upd hR s2, ?_, _, rfl⟩)
        rw [upd_same, e, ni_app]
        rfl
      · rw [decide_eq_false h0]
        obtain ⟨g, y, rfl⟩ : ∃ g y, f = g ++ [y] := by
          rcases List.eq_nil_or_concat f with z | ⟨g, y, z⟩
          · exact absurd z h0
          · exact ⟨g, y, by rw [z, List.concat_eq_append]⟩
        have hG2 := hG1
        rw [ni_app] at hG1
        refine iteF ⟨_, rfl, _, rfl, 1, rfl, R, _, _, .int (y : Int), rfl, rfl, SqL.of hG1, atI_last _ _, _, _, rfl, rfl, _, rfl, ite2 (fun c1 => ?_) (fun c1 => ?_)⟩
        · have c2 : (c : Int) < (y : Int) := of_decide_eq_true c1
          rw [if_pos (Or.inr (by simpa using (by omega : c < y)))] at e
          refine ⟨_, rfl, .inl ⟨rfl, _, SqL.of hG2⟩, _, rfl, R, _, _, rfl, rfl, hG2, sz, add_upd hR s2, ?_, _, rfl⟩
          rw [upd_same, e, ni_app (g ++ [y])]
          rfl
        · have c2 : ¬ (c : Int) < (y : Int) := fun z => c1 (decide_eq_true z)
          rw [if_neg (fun z => by
            rcases z with z | z
            · exact h0 z
            · simp at z
              omega)] at e
          exact ⟨s2, by rw [e]; exact hG2, _, rfl⟩
    · rintro σ G ⟨s1, hG, q2, rfl⟩
      rw [ni_len, List.take_length] at hG
      exact ⟨_, rfl, k R G s1 hR hG⟩
end
/-! ### rows of steps, lists of stretches -/
/-- all but lists stays -/
def KeepT (H H' : Hp) : Prop := ∀ a o, (∀ xs, o ≠ .lst xs) → H a = some o → H' a = some o
theorem bt_keepT {p : Addr} {H H' : Hp} (b : Bt p H H') (h : S.At H p) : KeepT H H' := fun a o n e => b.1 a o (fun z => by
  obtain ⟨r, m, e2, _⟩ := h
  rw [z, e2] at e
  cases e
  exact n _ rfl) e
theorem put_keepT {G : Hp} {l : Addr} {xs : List V} {o : HO} (h : G l = some (.lst xs)) : KeepT G (upd G l o) := fun a o n e => by
  rw [upd_ne (fun z => by
    rw [z, h] at e
    cases e
    exact n _ rfl)]
  exact e
theorem same_keepT {H H' : Hp} (s : Same H H') : KeepT H H' := fun a o _ e => s a o e
theorem bt_upd {p D : Addr} {H G : Hp} {o : HO} (b : Bt p H G) (h : H D = none) (n : D ≠ p) : Bt p H (upd G D o) := ⟨fun a u ne e => by
  rw [upd_ne (fun z => by rw [z, h] at e; cases e)]
  exact b.1 a u ne e, by
  obtain ⟨r, m, e, f⟩ := b.2
  exact ⟨r, m, by rw [upd_ne n.symm]; exact e, f⟩⟩
def stV (h : Nat) : N.St → List V
  | .road c ts => [.str "road", .int ((h + c : Nat) : Int), .str (WP.sdS ts), .str "cut"]
  | .join => [.str "join", .int 1000000000000]
inductive StA (h : Nat) (G : Hp) : List N.St → List V → Prop
  | nil : StA h G [] []
  | cons {s : N.St} {r : List N.St} {t : Addr} {xs : List V} : G t = some (.tup (stV h s)) → StA h G r xs → StA h G (s :: r) (.ref t :: xs)
theorem StA.keep {h : Nat} {G G' : Hp} (k : KeepT G G') {r : List N.St} {xs : List V} (a : StA h G r xs) : StA h G' r xs := by
  induction a with
  | nil => exact .nil
  | cons e _ ih => exact .cons (k _ _ (fun _ z => by cases z) e) ih
theorem StA.snoc {h : Nat} {G : Hp} {r : List N.St} {xs : List V} {s : N.St} {t : Addr} (a : StA h G r xs) (e : G t = some (.tup (stV h s))) : StA h G (r ++ [s]) (xs ++ [.ref t]) := by
  induction a with
  | nil => exact .cons e .nil
  | cons e2 _ ih => exact .cons e2 ih
theorem StA.len {h : Nat} {G : Hp} {r : List N.St} {xs : List V} (a : StA h G r xs) : xs.length = r.length := by
  induction a with
  | nil => rfl
  | cons _ _ ih => rw [List.length_cons, List.length_cons, ih]
theorem StA.get {h : Nat} {G : Hp} {r : List N.St} {xs : List V} (a : StA h G r xs) : ∀ {i : Nat} {s : N.St}, r[i]? = some s → ∃ t, xs[i]? = some (.ref t) ∧ G t = some (.tup (stV h s)) := by
  induction a with
  | nil => intro i s e; cases e
  | cons e2 _ ih =>
    intro i s e
    cases i with
    | zero =>
      cases e
      exact ⟨_, rfl, e2⟩
    | succ i => exact ih (i := i) e
theorem StA.take {h : Nat} {G : Hp} {r : List N.St} {xs : List V} (a : StA h G r xs) : ∀ i, StA h G (r.take i) (xs.take i) := by
  induction a with
  | nil => intro i; rw [List.take_nil, List.take_nil]; exact .nil
  | cons e2 _ ih =>
    intro i
    cases i with
    | zero => exact .nil
    | succ i => exact .cons e2 (ih i)
theorem StA.steps {CW : Addr} {h : Nat} {G : Hp} {r : List N.St} {xs : List V} (a : StA h G r xs) : WP.StepsAt CW G (r.map (N.St.to h)) xs := by
  induction a with
  | nil =>
    show WP.StepsAt CW G [] []
    unfold WP.StepsAt
    rfl
  | @cons s r t xs e _ ih =>
    rw [List.map_cons]
    unfold WP.StepsAt
    refine ⟨_, _, rfl, ?_, ih⟩
    cases s with
    | road c ts =>
      show WP.StepAt CW G (.road (h + c) ts .cut) _
      unfold WP.StepAt
      exact ⟨t, rfl, e⟩
    | join =>
      show WP.StepAt CW G (.join 1000000000000) _
      unfold WP.StepAt
      exact ⟨t, rfl, e⟩
/-- lists of numbers at none of some places -/
inductive LsN (av : List Addr) (G : Hp) : List (List Nat) → List V → Prop
  | nil : LsN av G [] []
  | cons {l : List Nat} {rows : List (List Nat)} {t : Addr} {xs : List V} : t ∉ av → G t = some (.lst (ni l)) → LsN av G rows xs → LsN av G (l :: rows) (.ref t :: xs)
theorem LsN.mono {av : List Addr} {G G' : Hp} (k : ∀ a o, a ∉ av → G a = some o → G' a = some o) {rows : List (List Nat)} {xs : List V} (h : LsN av G rows xs) : LsN av G' rows xs := by
  induction h with
  | nil => exact .nil
  | cons n e _ ih => exact .cons n (k _ _ n e) ih
theorem LsN.snoc {av : List Addr} {G : Hp} {rows : List (List Nat)} {xs : List V} {l : List Nat} {t : Addr} (h : LsN av G rows xs) (n : t ∉ av) (e : G t = some (.lst (ni l))) : LsN av G (rows ++ [l]) (xs ++ [.ref t]) := by
  induction h with
  | nil => exact .cons n e .nil
  | cons n2 e2 _ ih => exact .cons n2 e2 ih
theorem LsN.len {av : List Addr} {G : Hp} {rows : List (List Nat)} {xs : List V} (h : LsN av G rows xs) : xs.length = rows.length := by
  induction h with
  | nil => rfl
  | cons _ _ _ ih => rw [List.length_cons, List.length_cons, ih]
theorem LsN.last {av : List Addr} {G : Hp} {rows : List (List Nat)} {l : List Nat} : ∀ {xs : List V}, LsN av G (rows ++ [l]) xs → ∃ ys t, xs = ys ++ [.ref t] ∧ G t = some (.lst (ni l)) := by
  induction rows with
  | nil =>
    intro xs h
    cases h with
    | cons n e h2 =>
      cases h2
      exact ⟨[], _, rfl, e⟩
  | cons r rows ih =>
    intro xs h
    cases h with
    | cons n e h2 =>
      obtain ⟨ys, t, rfl, e2⟩ := ih h2
      exact ⟨_ :: ys, t, rfl, e2⟩
theorem dep_ints (l : List Nat) : PyData.depthAll (l.map dI) = 0 := by
  induction l with
  | nil => rfl
  | cons x l ih =>
    rw [List.map_cons]
    simp only [PyData.depthAll, ih]
    rfl
theorem lay_list (l : List Nat) : (PyData.list (l.map dI)).canLay0 = true := by
  have h := shp_list l
  unfold SeqAt.shaped at h
  exact (Bool.and_eq_true _ _ ▸ h).1
/-- as data -/
def rowsD (rows : List (List Nat)) : List PyData := rows.map fun l => .list (l.map dI)
theorem LsN.dp {K : PySem.W.Frag} {av : List Addr} {G : Hp} {rows : List (List Nat)} {xs : List V} (h : LsN av G rows xs) : DpAll K G xs (rowsD rows) := by
  induction h with
  | nil => exact .nil
  | cons _ e _ ih => exact .cons (.lst (SqL.of e) (dp_ints _)) ih
theorem ls_dp {K : PySem.W.Frag} {G : Hp} {rows : List (List Nat)} {xs : List V} (h : WP.LsAt G rows xs) : DpAll K G xs (rowsD rows) := by
  induction h with
  | nil => exact .nil
  | cons e _ ih => exact .cons (.lst (SqL.of e) (dp_ints _)) ih
theorem shp_rows (rows : List (List Nat)) : SeqAt.shaped (.list (rowsD rows)) = true := by
  have h : PyData.canLayAll0 (rowsD rows) = true ∧ PyData.depthAll (rowsD rows) ≤ 1 := by
    unfold rowsD
    induction rows with
    | nil => exact ⟨rfl, Nat.zero_le _⟩
    | cons l rows ih =>
      rw [List.map_cons]
      refine ⟨by simp only [PyData.canLayAll0, ih.1, lay_list l, Bool.and_true], ?_⟩
      have h1 := ih.2
      simp only [PyData.depthAll, PyData.depth, dep_ints l]
      omega
  unfold SeqAt.shaped
  rw [show (PyData.list (rowsD rows)).canLay0 = true by simp only [PyData.canLay0, h.1], Bool.true_and]
  refine decide_eq_true ?_
  have h2 := h.2
  simp only [PyData.depth]
  omega
/-- a step as data -/
def stD (h : Nat) : N.St → PyData
  | .road c ts => .tuple [.str "road", .int ((h + c : Nat) : Int), .str (WP.sdS ts), .str "cut"]
  | .join => .tuple [.str "join", .int 1000000000000]
theorem StA.dp {K : PySem.W.Frag} {h : Nat} {G : Hp} {r : List N.St} {xs : List V} (a : StA h G r xs) : DpAll K G xs (r.map (stD h)) := by
  induction a with
  | nil => exact .nil
  | @cons s r t xs e _ ih =>
    rw [List.map_cons]
    refine .cons ?_ ih
    cases s with
    | road c ts => exact .tup (SqT.of e) (.cons (.str _) (.cons (.int _) (.cons (.str _) (.cons (.str _) .nil))))
    | join => exact .tup (SqT.of e) (.cons (.str _) (.cons (.int _) .nil))
theorem stD_lay (h : Nat) (s : N.St) : (stD h s).canLay0 = true ∧ (stD h s).depth = 1 := by
  cases s with
  | road c ts =>
    refine ⟨?_, ?_⟩
    · show (PyData.tuple [.str "road", .int ((h + c : Nat) : Int), .str (WP.sdS ts), .str "cut"]).canLay0 = true
      simp only [PyData.canLay0, PyData.canLayAll0, Bool.and_true, Bool.true_and]
      cases ts <;> decide +kernel
    · rfl
  | join => exact ⟨by show (PyData.tuple [.str "join", .int 1000000000000]).canLay0 = true; decide +kernel, rfl⟩
theorem shp_st (h : Nat) (r : List N.St) : SeqAt.shaped (.list (r.map (stD h))) = true := by
  have q : PyData.canLayAll0 (r.map (stD h)) = true ∧ PyData.depthAll (r.map (stD h)) ≤ 1 := by
    induction r with
    | nil => exact ⟨rfl, Nat.zero_le _⟩
    | cons s r ih =>
      rw [List.map_cons]
      refine ⟨by simp only [PyData.canLayAll0, ih.1, (stD_lay h s).1, Bool.and_true], ?_⟩
      have h1 := ih.2
      simp only [PyData.depthAll, (stD_lay h s).2]
      omega
  unfold SeqAt.shaped
  rw [show (PyData.list (r.map (stD h))).canLay0 = true by simp only [PyData.canLay0, q.1], Bool.true_and]
  refine decide_eq_true ?_
  have h2 := q.2
  simp only [PyData.depth]
  omega
theorem any_join (h : Nat) (r : List N.St) : ((r.map (stD h)).any fun z => PyData.eqv z (.tuple [.str "join", .int 1000000000000])) = true ↔ N.St.join ∈ r := by
  induction r with
  | nil => simp
  | cons s r ih =>
    rw [List.map_cons, List.any_cons, Bool.or_eq_true, ih, List.mem_cons]
    cases s with
    | road c ts =>
      have : PyData.eqv (stD h (.road c ts)) (.tuple [.str "join", .int 1000000000000]) = false := by
        show PyData.eqv (.tuple [.str "road", .int ((h + c : Nat) : Int), .str (WP.sdS ts), .str "cut"]) (.tuple [.str "join", .int 1000000000000]) = false
        simp [PyData.eqv, PyData.eqvAll]
      rw [this]
      simp
    | join =>
      have : PyData.eqv (stD h .join) (.tuple [.str "join", .int 1000000000000]) = true := by
        show PyData.eqv (.tuple [.str "join", .int 1000000000000]) (.tuple [.str "join", .int 1000000000000]) = true
        exact SeqAt.eqv_refl _ (stD_lay h .join).1
      rw [this]
      simp
end CP

end
section
set_option autoImplicit false
set_option Elab.async false
set_option linter.all false
set_option maxRecDepth 100000
set_option maxHeartbeats 4000000
/-! ## the law -/
namespace CP
open PySem L2 G Y GenW
abbrev sLaw : Stmt := S.top 57
theorem hr65 {A : Around} {k : Nat} (hr : Room k A) : A.units + 65 < cLine := by
  have := hr.un
  omega
theorem nkp : ¬ (("parted" : Str) = "cuts") ∧ ¬ (("parted" : Str) = "_counts") := by decide +kernel
theorem vfls : Vals [V.bl false] [Value.bool false] := .cons rfl .nil
/-- places of their own -/
structure Nv (p L5 L7 : Addr) (Gz : Hp) : Prop where
  n5 : Gz L5 = none
  n7 : Gz L7 = none
  e57 : L5 ≠ L7
  e5 : L5 ≠ p
  e7 : L7 ≠ p
/-- steps, cuts and dues, as they grow -/
structure J (p L5 L7 : Addr) (hd : Nat) (Gz G : Hp) (r : List N.St) (L6 : Addr) (cs : List Nat) (rows : List (List Nat)) : Prop where
  bt : Bt p Gz G
  l5 : ∃ xs, G L5 = some (.lst xs) ∧ StA hd G r xs
  l6 : G L6 = some (.lst (ni cs))
  n6 : L6 ≠ p ∧ L6 ≠ L5 ∧ L6 ≠ L7
  l7 : ∃ ys, G L7 = some (.lst ys) ∧ LsN [p, L5, L7] G rows ys
section
variable {p L5 L7 L6 : Addr} {hd : Nat} {Gz G G' : Hp} {r : List N.St} {cs : List Nat} {rows : List (List Nat)}
theorem J.bts (v : Nv p L5 L7 Gz) (j : J p L5 L7 hd Gz G r L6 cs rows) (b : Bt p G G') : J p L5 L7 hd Gz G' r L6 cs rows := by
  obtain ⟨xs, h5, a5⟩ := j.l5
  obtain ⟨ys, h7, a7⟩ := j.l7
  exact ⟨j.bt.trans b, ⟨xs, b.1 _ _ v.e5 h5, a5.keep (bt_keepT b j.bt.2)⟩, b.1 _ _ j.n6.1 j.l6, j.n6, ⟨ys, b.1 _ _ v.e7 h7, a7.mono fun a o n e => b.1 a o (fun z => n (by rw [z]; simp)) e⟩⟩
theorem J.same (v : Nv p L5 L7 Gz) (j : J p L5 L7 hd Gz G r L6 cs rows) (s : Same G G') : J p L5 L7 hd Gz G' r L6 cs rows := j.bts v (Bt.same s j.bt.2)
theorem J.fresh (j : J p L5 L7 hd Gz G r L6 cs rows) {e : Addr} (h : G e = none) : e ≠ p ∧ e ≠ L5 ∧ e ≠ L7 := by
  obtain ⟨xs, h5, a5⟩ := j.l5
  obtain ⟨ys, h7, a7⟩ := j.l7
  refine ⟨at_ne j.bt.2 h, fun z => ?_, fun z => ?_⟩
  · rw [z, h5] at h; cases h
  · rw [z, h7] at h; cases h
theorem J.put5 (v : Nv p L5 L7 Gz) (j : J p L5 L7 hd Gz G r L6 cs rows) {xs : List V} {t : Addr} {s : N.St} (h : G L5 = some (.lst xs)) (ht : G t = some (.tup (stV hd s))) : J p L5 L7 hd Gz (upd G L5 (.lst (xs ++ [.ref t]))) (r ++ [s]) L6 cs rows := by
  obtain ⟨xs', h5, a5⟩ := j.l5
  obtain ⟨ys, h7, a7⟩ := j.l7
  rw [h] at h5
  cases h5
  have kp := put_keepT (o := .lst (xs ++ [.ref t])) h
  exact ⟨bt_upd j.bt v.n5 v.e5, ⟨_, upd_same, (a5.keep kp).snoc (kp _ _ (fun _ z => by cases z) ht)⟩, by rw [upd_ne j.n6.2.1]; exact j.l6, j.n6, ⟨ys, by rw [upd_ne v.e57.symm]; exact h7, a7.mono fun a o n e => by rw [upd_ne (fun z => n (by rw [z]; simp))]; exact e⟩⟩
theorem J.put7 (v : Nv p L5 L7 Gz) (j : J p L5 L7 hd Gz G r L6 cs rows) {ys : List V} {t : Addr} {l : List Nat} (h : G L7 = some (.lst ys)) (ht : G t = some (.lst (ni l))) (nt : t ≠ p ∧ t ≠ L5 ∧ t ≠ L7) : J p L5 L7 hd Gz (upd G L7 (.lst (ys ++ [.ref t]))) r L6 cs (rows ++ [l]) := by
  obtain ⟨xs, h5, a5⟩ := j.l5
  obtain ⟨ys', h7, a7⟩ := j.l7
  rw [h] at h7
  cases h7
  have kp := put_keepT (o := .lst (ys ++ [.ref t])) h
  have mn : ∀ a o, a ∉ [p, L5, L7] → G a = some o → upd G L7 (.lst (ys ++ [.ref t])) a = some o := fun a o n e => by rw [upd_ne (fun z => n (by rw [z]; simp))]; exact e
  have nn : t ∉ [p, L5, L7] := by simp [nt.1, nt.2.1, nt.2.2]
  exact ⟨bt_upd j.bt v.n7 v.e7, ⟨xs, by rw [upd_ne v.e57]; exact h5, a5.keep kp⟩, by rw [upd_ne j.n6.2.2]; exact j.l6, j.n6, ⟨_, upd_same, (a7.mono mn).snoc nn (mn _ _ nn ht)⟩⟩
theorem J.new6 (j : J p L5 L7 hd Gz G r L6 cs rows) {e : Addr} {cs' : List Nat} (h : G e = some (.lst (ni cs'))) (n : e ≠ p ∧ e ≠ L5 ∧ e ≠ L7) : J p L5 L7 hd Gz G r e cs' rows := ⟨j.bt, j.l5, h, n, j.l7⟩
end
theorem if_then {c : TT} {t1 t2 t3 : TS} {D : Ends} {σ : L2.St} {H : Hp} (Z : L2.St → Hp → Prop) (k : ∀ σ' H', Z σ' H' → t3 D σ' H') (h : (∀ σ' H', Z σ' H' → t3 D σ' H') → tIfS c t1 t2 { D with nx := fun σ' H' => t3 D σ' H' } σ H) : tSeq (tIfS c t1 t2) t3 D σ H := h k
theorem fin_sd (x : V) (h : x ∈ [V.str "tell", V.str "drop"]) : ∃ ts, x = .str (WP.sdS ts) := by
  simp only [List.mem_cons, List.not_mem_nil, or_false] at h
  rcases h with rfl | rfl
  · exact ⟨true, rfl⟩
  · exact ⟨false, rfl⟩
section
variable {P : Program} {w : World} {K : PySem.W.Frag} {mg : Str → Option Value} {base : Heap} {C CW : Addr}
theorem word_run {σ : L2.St} {H : Hp} {Q : VK} {p : Addr} (h : σ[2]? = some (some (.ref p))) (hA : S.At H p) (k : ∀ ts G, Bt p H G → Q (.str (WP.sdS ts)) G) : tCall (S.spPick K) [] E0 (tCons (tVar 2) (tCons (tLst (tCons (tC (.str "tell")) (tCons (tC (.str "drop")) tNil))) tNil)) σ H Q :=
  pick_of (E := E0) (xs := [.str "tell", .str "drop"]) h hA (by decide) (by decide) (fun Q2 q => q) fun x G hx b => by
    obtain ⟨ts, rfl⟩ := fin_sd x hx
    exact k ts G b
theorem cut_run {σ : L2.St} {H : Hp} {Q : VK} {p : Addr} (h : σ[2]? = some (some (.ref p))) (hA : S.At H p) (k : ∀ (c : Nat) G, 4 ≤ c → c ≤ 43 → Bt p H G → Q (.int (c : Int)) G) :
    tOp (rI0 fun i j => .int (i + j)) (tC (.int 4)) (tCall S.spDraw [] E0 (tCons (tVar 2) (tCons (tCall (S.spPick K) [] E0 (tCons (tVar 2) (tCons (tLst (tCons (tC (.int 9)) (tCons (tC (.int 40)) tNil))) tNil))) tNil))) σ H Q := by
  refine ⟨_, h, ?_⟩
  refine pick_of (E := E0) (xs := [.int 9, .int 40]) h hA (by decide) (by decide) (fun Q2 q => q) fun x G hx b => ?_
  obtain ⟨z, rfl, z1, z2⟩ : ∃ z : Int, x = .int z ∧ 1 ≤ z ∧ z ≤ 40 := by
    simp only [List.mem_cons, List.not_mem_nil, or_false] at hx
    rcases hx with rfl | rfl
    · exact ⟨9, rfl, by decide, by decide⟩
    · exact ⟨40, rfl, by decide, by decide⟩
  dsimp only [tCons, tNil, tC, List.cons_append, List.nil_append]
  refine draw_at (E := E0) b.2 z1 (PySem.Flt.log2_lt_of (k := 9000) (by decide) (Nat.lt_of_lt_of_le (by omega : _ < 2 ^ 60) (Nat.pow_le_pow_right (by decide) (by decide)))) fun d G2 d0 d1 b2 => ⟨_, _, rfl, rfl, ?_⟩
  obtain ⟨n, rfl⟩ := Int.eq_ofNat_of_zero_le d0
  exact k (4 + n) G2 (by omega) (by omega) (b.trans b2)
theorem head_run {t2 : TS} {D : Ends} {σ : L2.St} {H : Hp} {p : Addr} (h : σ[2]? = some (some (.ref p))) (hA : S.At H p) (hs : σ.length = 19)
    (k : ∀ (hd : Nat) (L5 L6 L7 : Addr) (Gz G : Hp), 1 ≤ hd → hd ≤ 40 → Bt p H Gz → Nv p L5 L7 Gz → J p L5 L7 hd Gz G [] L6 [] [] → t2 D ((((σ.set 4 (some (.int (hd : Int)))).set 5 (some (.ref L5))).set 6 (some (.ref L6))).set 7 (some (.ref L7))) G) :
    tSeq (tAsg (tTup (tCons (tOp (rI0 fun i j => .int (i + j)) (tC (.int 1)) (tCall S.spDraw [] E0 (tCons (tVar 2) (tCons (tC (.int 40)) tNil)))) (tCons (tLst tNil) (tCons (tLst tNil) (tCons (tLst tNil) tNil))))) (gTup K 4 (gCons (gName 4) (gCons (gName 5) (gCons (gName 6) (gCons (gName 7) gNil)))))) t2 D σ H := by
  refine ⟨_, h, ?_⟩
  dsimp only [tCons, tNil, tC, List.cons_append, List.nil_append]
  refine draw_at (E := E0) hA (by decide) (by decide +kernel) fun d G d0 d1 b => ⟨_, _, rfl, rfl, line2.2.2.2, fun L5 n5 => ⟨line2.2.2.2, fun L6 n6 => ⟨line2.2.2.2, fun L7 n7 => ⟨(by decide : 4 ≤ sizeLine), fun T nT => ⟨T, _, rfl, SqT.of upd_same, rfl, _, _, rfl, _, _, rfl, _, _, rfl, _, _, rfl, rfl, ?_⟩⟩⟩⟩⟩
  obtain ⟨n, rfl⟩ := Int.eq_ofNat_of_zero_le d0
  have s5 := of_upd (o := .lst []) n5
  have s6 := of_upd (o := .lst []) n6
  have s7 := of_upd (o := .lst []) n7
  have sT := of_upd (o := .tup [V.int (1 + (n : Int)), .ref L5, .ref L6, .ref L7]) nT
  have e5 := at_ne b.2 n5
  have b5 := Bt.same s5 b.2
  have e6 := at_ne b5.2 n6
  have b6 := Bt.same s6 b5.2
  have e7 := at_ne b6.2 n7
  have b7 := Bt.same s7 b6.2
  have h5 := s6 _ _ (upd_same (H := G) (a := L5) (o := .lst []))
  have g5 := s7 _ _ h5
  have g6 := s7 _ _ (upd_same (H := upd G L5 (.lst [])) (a := L6) (o := .lst []))
  have e65 : L6 ≠ L5 := fun z => by rw [z, upd_same] at n6; cases n6
  have e75 : L7 ≠ L5 := fun z => by rw [z, h5] at n7; cases n7
  have e76 : L7 ≠ L6 := fun z => by rw [z, upd_same] at n7; cases n7
  refine k (1 + n) L5 L6 L7 G _ (by omega) (by omega) b ⟨n5, (s5.trans s6).free n7, e75.symm, e5, e7⟩ ⟨((b5.trans b6).trans b7).trans (Bt.same sT b7.2), ⟨[], sT _ _ g5, .nil⟩, sT _ _ g6, ⟨e6, e65, e76.symm⟩, ⟨[], sT _ _ upd_same, .nil⟩⟩
theorem cuts_fl {r : List N.St} {hd : Nat} (ok : ∀ s ∈ r, s.ok hd) (hl : r.length ≤ 100) : Cuts (N.fl (N.sinceA [] r)) ∧ ∀ ss, N.pt (N.fl (N.sinceA [] r)) ss = N.pt (N.sinceA [] r) ss := by
  have hp := N.since_pos r [] (fun c hc => by cases hc) ok
  have hm := N.since_le r [] (fun c hc => by cases hc) ok
  obtain ⟨h1, h2, h3⟩ := N.fl_ok (m := 1000) (N.sinceA [] r) fun c hc => ⟨hp c hc, hm c hc⟩
  have l1 := N.fl_len (N.sinceA [] r)
  have l2 := N.since_len r []
  exact ⟨⟨h1, h2, by simp at l2; omega⟩, h3⟩
theorem eqv_same {d : PyData} (h : SeqAt.shaped d = true) : PyData.eqv d d = true := SeqAt.eqv_refl _ (SeqAt.canLay_of_shaped h)
theorem ne_rows {H : Hp} {Q : VK} {t e : Addr} {xs ys : List V} {rows : List (List Nat)} (ht : H t = some (.lst xs)) (dx : DpAll K H xs (rowsD rows)) (he : H e = some (.lst ys)) (dy : DpAll K H ys (rowsD rows)) (q : Q (.bl false) H) : rNeD K (.ref t) (.ref e) H Q :=
  ⟨_, _, .lst (SqL.of ht) dx, .lst (SqL.of he) dy, shp_rows rows, shp_rows rows, by rw [eqv_same (shp_rows rows)]; exact q⟩
/-- ("comes", a list) -/
theorem ne_comes {H : Hp} {Q : VK} {t e u v : Addr} {l : List Nat} (ht : H t = some (.tup [.str "comes", .ref u])) (hu : H u = some (.lst (ni l))) (he : H e = some (.tup [.str "comes", .ref v])) (hv : H v = some (.lst (ni l))) (q : Q (.bl false) H) : rNeD K (.ref t) (.ref e) H Q := by
  have s : SeqAt.shaped (.tuple [.str "comes", .list (l.map dI)]) = true := by
    have h1 : PyData.canLayAll0 (l.map dI) = true := by
      have := lay_list l
      simpa only [PyData.canLay0] using this
    unfold SeqAt.shaped
    rw [Bool.and_eq_true, decide_eq_true_iff]
    refine ⟨?_, ?_⟩
    · simp only [PyData.canLay0, PyData.canLayAll0, h1, Bool.and_true]
      decide +kernel
    · simp only [PyData.depth, PyData.depthAll, dep_ints l]
      decide
  exact ⟨_, _, .tup (SqT.of ht) (.cons (.str _) (.cons (.lst (SqL.of hu) (dp_ints l)) .nil)), .tup (SqT.of he) (.cons (.str _) (.cons (.lst (SqL.of hv) (dp_ints l)) .nil)), s, s, by rw [eqv_same s]; exact q⟩
theorem nkw : ¬ (("without" : Str) = "size") ∧ ¬ (("without" : Str) = "depth") ∧ ¬ (("without" : Str) = "steps") ∧ ¬ (("without" : Str) = "head") := by decide +kernel
theorem way_ins {H : Hp} {wy : M.Way} {x : Addr} (h : WP.WayAt CW H wy x) : ∃ dx fs, H x = some (.ins CW dx fs) ∧ fs.lookup ("without" : Str) = none := by
  obtain ⟨hd, s⟩ := wy
  unfold WP.WayAt at h
  obtain ⟨dx, t, xs, h1, _, _⟩ := h
  refine ⟨dx, _, h1, ?_⟩
  unfold WP.flds
  rw [lookup_putF, if_neg nkw.1, lookup_putF, if_neg nkw.2.1, lookup_putF, if_neg nkw.2.2.1, lookup_putF, if_neg nkw.2.2.2]
  rfl
theorem way_isC {H : Hp} {wy : M.Way} {x : Addr} (h : WP.WayAt CW H wy x) : WO.InsC CW H x := by
  obtain ⟨dx, fs, h1, _⟩ := way_ins h
  exact ⟨dx, fs, h1⟩
theorem ch_isC {H : Hp} {l : List Nat} {x : Addr} (h : ChAt C H l x) : WO.InsC C H x := by
  obtain ⟨dx, t, u, h1, _, _⟩ := h
  exact ⟨dx, _, h1⟩
/-- some cuts, drawn -/
theorem cuts_run {σ : L2.St} {H : Hp} {Q : VK} {p : Addr} {n : Nat} {z : Int} (hz : z = (n : Int)) (hσ : σ[2]? = some (some (.ref p))) (hA : S.At H p) (hn : n ≤ 10) (k : ∀ (D : Addr) (l : List Nat) (G : Hp), Bt p H G → G D = some (.lst (ni l)) → D ≠ p → l.length = n → (∀ z ∈ l, 4 ≤ z ∧ z ≤ 33) → Q (.ref D) G) :
    tLc (iRng1 (tCons (tC (.int z)) tNil)) (gName 10) tYes (tOp (rI0 fun i j => .int (i + j)) (tC (.int 4)) (tCall S.spDraw [] E0 (tCons (tVar 2) (tCons (tC (.int 30)) tNil)))) [10] σ H Q := by
  subst hz
  refine ⟨(n : Int), rfl, by omega, by omega, fun D nD => ?_⟩
  rw [Int.toNat_natCast]
  have ne := at_ne hA nD
  refine lc_range (lo := 0) (n := n) (fun i G => Bt p H G ∧ ∃ l : List Nat, G D = some (.lst (ni l)) ∧ l.length = i ∧ ∀ z ∈ l, 4 ≤ z ∧ z ≤ 33) ⟨Bt.new (.lst []) hA nD, [], upd_same, rfl, fun z hz => by cases hz⟩ ?_ ?_
  · rintro i G hi ⟨bG, l, hD, hl, hz⟩
    refine ⟨?_, draw_of (p := p) ?_ bG.2 (by decide) (by decide +kernel) fun d G1 d0 d1 b3 => ⟨_, bt_lst b3 ne hD, ?_, ?_⟩⟩
    · show ((σ.set 10 none).set 10 _).set 10 none = σ.set 10 none
      rw [List.set_set, List.set_set]
    · show ((σ.set 10 none).set 10 _)[2]? = _
      rw [List.getElem?_set_ne (by decide), List.getElem?_set_ne (by decide)]
      exact hσ
    · rw [ni_len]
      exact small1000 (by omega)
    · obtain ⟨m, rfl⟩ := Int.eq_ofNat_of_zero_le d0
      refine ⟨bt_upd (bG.trans b3) nD ne, l ++ [4 + m], by rw [upd_same, ni_app]; rfl, by simp; exact hl, fun z hz2 => ?_⟩
      rcases List.mem_append.mp hz2 with q | q
      · exact hz z q
      · rw [List.mem_singleton.mp q]
        omega
  · rintro G ⟨bG, l, hD, hl, hz⟩
    exact k D l G bG hD ne hl hz
theorem par_cuts {t2 : TS} {D : Ends} {σ : L2.St} {H : Hp} {p : Addr} (hσ : σ[2]? = some (some (.ref p))) (hA : S.At H p)
    (k : ∀ (D1 : Addr) (l1 : List Nat) (D2 : Addr) (l2 : List Nat) (G : Hp), Bt p H G → G D1 = some (.lst (ni l1)) → l1.length = 3 → (∀ z ∈ l1, 4 ≤ z ∧ z ≤ 33) → G D2 = some (.lst (ni l2)) → l2.length = 2 → (∀ z ∈ l2, 4 ≤ z ∧ z ≤ 33) → t2 D ((σ.set 14 (some (.ref D1))).set 15 (some (.ref D2))) G) :
    tSeq (tPar 14 15 (tCons (tLc (iRng1 (tCons (tC (.int 3)) tNil)) (gName 10) tYes (tOp (rI0 fun i j => .int (i + j)) (tC (.int 4)) (tCall S.spDraw [] E0 (tCons (tVar 2) (tCons (tC (.int 30)) tNil)))) [10])
      (tCons (tLc (iRng1 (tCons (tC (.int 2)) tNil)) (gName 10) tYes (tOp (rI0 fun i j => .int (i + j)) (tC (.int 4)) (tCall S.spDraw [] E0 (tCons (tVar 2) (tCons (tC (.int 30)) tNil)))) [10]) tNil))) t2 D σ H := by
  have go : ∀ Q : VK, (∀ (D1 : Addr) (l1 : List Nat) (G1 : Hp), Bt p H G1 → G1 D1 = some (.lst (ni l1)) → D1 ≠ p → l1.length = 3 → (∀ z ∈ l1, 4 ≤ z ∧ z ≤ 33) → Q (.ref D1) G1) → tLc (iRng1 (tCons (tC (.int 3)) tNil)) (gName 10) tYes (tOp (rI0 fun i j => .int (i + j)) (tC (.int 4)) (tCall S.spDraw [] E0 (tCons (tVar 2) (tCons (tC (.int 30)) tNil)))) [10] σ H Q :=
    fun Q q => cuts_run (p := p) (n := 3) rfl hσ hA (by decide) q
  dsimp only [tSeq, tPar, tCons]
  refine go _ fun D1 l1 G1 b1 h1 n1 e1 z1 => ?_
  have go2 : ∀ Q : VK, (∀ (D2 : Addr) (l2 : List Nat) (G2 : Hp), Bt p G1 G2 → G2 D2 = some (.lst (ni l2)) → D2 ≠ p → l2.length = 2 → (∀ z ∈ l2, 4 ≤ z ∧ z ≤ 33) → Q (.ref D2) G2) → tLc (iRng1 (tCons (tC (.int 2)) tNil)) (gName 10) tYes (tOp (rI0 fun i j => .int (i + j)) (tC (.int 4)) (tCall S.spDraw [] E0 (tCons (tVar 2) (tCons (tC (.int 30)) tNil)))) [10] σ G1 Q :=
    fun Q q => cuts_run (p := p) (n := 2) rfl hσ b1.2 (by decide) q
  refine go2 _ fun D2 l2 G2 b2 h2 n2 e2 z2 => ⟨_, _, rfl, ?_⟩
  exact k D1 l1 D2 l2 G2 (b1.trans b2) (b2.1 _ _ n1 h1) e1 z1 h2 e2 z2
/-- roads made of cuts -/
theorem roads_run {σ : L2.St} {H : Hp} {Q : VK} {D : Addr} {l : List Nat} {hd i : Nat} (hi : σ[i]? = some (some (.ref D))) (h4 : σ[4]? = some (some (.int (hd : Int)))) (hs : σ.length = 19) (hD : H D = some (.lst (ni l))) (hl : l.length ≤ 100) (k : ∀ (E : Addr) (xs : List V) (G : Hp), Same H G → G E = some (.lst xs) → StA hd G (l.map fun c => .road c false) xs → Q (.ref E) G) :
    tLc (iList K (tVar i)) (gName 10) tYes (tTup (tCons (tC (.str "road")) (tCons (tOp (rI0 fun i j => .int (i + j)) (tVar 4) (tVar 10)) (tCons (tC (.str "drop")) (tCons (tC (.str "cut")) tNil))))) [10] σ H Q := by
  refine ⟨_, hi, D, rfl, ⟨_, SqL.of hD⟩, fun D3 n3 => ?_⟩
  refine lc_it walk_list (fun i G => Same H G ∧ ∃ xs, G D3 = some (.lst xs) ∧ StA hd G ((l.take i).map fun c => .road c false) xs) ⟨of_upd n3, [], upd_same, .nil⟩ (fun i G _ z => SqL.of (z.1 _ _ hD)) ?_ ?_
  · rintro i5 v G G' hi5 ⟨s2, xs, hG, hst⟩ ⟨rfl, hx⟩
    obtain ⟨c, hcc, rfl⟩ := ni_get hx
    have lx := hst.len
    rw [List.length_map] at lx
    refine ⟨?_, ?_⟩
    · show ((σ.set 10 none).set 10 _).set 10 none = σ.set 10 none
      rw [List.set_set, List.set_set]
    refine ⟨_, (show ((σ.set 10 none).set 10 _)[4]? = some (some (V.int (hd : Int))) from ?_), _, (show ((σ.set 10 none).set 10 (some (V.int (c : Int))))[10]? = some (some (V.int (c : Int))) from ?_), _, _, rfl, rfl, (by decide : 4 ≤ sizeLine), fun u hu => ⟨xs, (of_upd hu) _ _ hG, ?_, ?_⟩⟩
    · rw [List.getElem?_set_ne (by decide), List.getElem?_set_ne (by decide)]
      exact h4
    · rw [List.getElem?_set_self (by rw [List.length_set, hs]; decide)]
    · rw [lx]
      exact small1000 (Nat.le_trans (List.length_take_le _ _) (by rw [ni_len] at hi5; omega))
    have gu := of_upd (o := .tup [V.str "road", V.int ((hd : Int) + (c : Int)), V.str "drop", V.str "cut"]) hu
    have hG2 := gu _ _ hG
    refine ⟨add_upd n3 (s2.trans gu), xs ++ [.ref u], upd_same, ?_⟩
    rw [take_snoc hcc, List.map_append]
    exact ((hst.keep (same_keepT gu)).keep (put_keepT hG2)).snoc (s := .road c false) (put_keepT hG2 _ _ (fun _ z => by cases z) upd_same)
  · rintro G ⟨s2, xs, hG, hst⟩
    rw [ni_len, List.take_length] at hst
    exact k D3 xs G s2 hG hst
structure Dwk (P : Program) (w : World) (K : PySem.W.Frag) (mg : Str → Option Value) (base : Heap) (k : Nat) (x : Str) (ps : List Str) (sp : Sp) : Prop where
  ex : ∃ (f : Addr) (fd : FuncData), FnOk P w K mg base CX0 k f fd ps sp ∧ mg x = some (.ref f) ∧ PySem.W.keepIn K (.ref f) = true ∧ Binds K fd ps [.bool false]
structure Dps (P : Program) (w : World) (K : PySem.W.Frag) (mg : Str → Option Value) (base : Heap) (k : Nat) (x : Str) (ps : List Str) (sp : SpG) : Prop where
  ex : ∃ (f : Addr) (fd : FuncData), GFn P w K mg base k f fd ps sp ∧ mg x = some (.ref f) ∧ PySem.W.keepIn K (.ref f) = true ∧ Binds K fd ps [.bool false]
def spLaw (K : PySem.W.Frag) : Sp := fun vs H Q _ => ∃ (a : Addr) (ns : List Int), vs = [.ref a] ∧ SqL K H a (ns.map V.int) ∧ ns.length ≤ 63 ∧ (∀ z ∈ ns, Builtin.Int.intBits z ≤ 1048576) ∧ ∀ H', Q (.bl true) H'
abbrev NLa : List Str := ["script", "start", "source", "turn", "head", "steps", "cuts", "dues", "body", "step", "cut", "way", "at", "spare", "one", "two", "first", "second", "both"]
theorem scLa : FnScope NLa ["script"] (defScope sLaw) := ⟨rfl, rfl, rfl, by decide +kernel, rfl, by decide +kernel, by decide +kernel⟩
theorem ok_law {f : Addr} {fd : FuncData} {sfC : PySem.W.selfFirst K C = true} {sfW : PySem.W.selfFirst K CW = true} (F : Fun K "law" "law" sLaw f fd) (B : Bn mg) (T : Ct K mg C) (TW : WP.Wt K mg CW) (MW : Mw P w K mg base C) (MWw : WP.Mw P w K mg base CW) (MT : Mg P w K mg base C 3 "parted" ["self", "body"] (spCPart0 C)) (DU : Df P w K mg base 1 "_law_source" ["script", "start"] (S.spSource K)) (DD : Df P w K mg base 1 "_law_draw" ["source", "span"] S.spDraw)
    (DP : Df P w K mg base 2 "_law_pick" ["source", "items"] (S.spPick K)) (DFl : Df P w K mg base 1 "_law_falling" ["cuts"] spFl) (DA : Oq P w K mg base C 6 "__add__" ["self", "other"] (spCAdd C)) (DAw : Oq P w K mg base CW 8 "__add__" ["self", "other"] (WP.spAddW CW)) (MO : Me P w K mg base CW 8 "without" ["self", "position"] (WP.spOutW CW))
    (DWk : Dwk P w K mg base 11 "walk" ["way", "body", "sealed"] (WP.spWalk CW)) (DPs : Dps P w K mg base 10 "passed" ["way", "body", "sealed"] (WP.spPassed CW)) :
    G.Ok P w K mg base CX0 14 f fd ["script"] (spLaw K) := by
  obtain ⟨fI, fdI, GI, MK, bI⟩ := MW.ex
  obtain ⟨fIw, fdIw, GIw, MKw, bIw⟩ := MWw.ex
  obtain ⟨fPt, fdPt, GPt, mPt, bPt⟩ := MT.ex
  obtain ⟨fU, fdU, GU, gU, kU, bU⟩ := DU.ex
  obtain ⟨fD, fdD, GD, gD, kD, bD⟩ := DD.ex
  obtain ⟨fP, fdP, GP, gP, kP, bP⟩ := DP.ex
  obtain ⟨fFl, fdFl, GFl, gFl, kFl, bFl⟩ := DFl.ex
  obtain ⟨fA, fdA, GA, OA, bA⟩ := DA.ex
  obtain ⟨fAw, fdAw, GAw, OAw, bAw⟩ := DAw.ex
  obtain ⟨fO, fdO, GO, mO, bO⟩ := MO.ex
  obtain ⟨fWk, fdWk, GWk, gWk, kWk, bWk⟩ := DWk.ex
  obtain ⟨fPs, fdPs, GPs, gPs, kPs, bPs⟩ := DPs.ex
  refine G.mk F scLa (fun vs H Q E h => ?_) (fun cdv A outer s H vs Q E hg hr h => ?_)
  · obtain ⟨a, ns, rfl, _⟩ := h
    rfl
  · obtain ⟨a, ns, rfl, hS, hl, hb, k⟩ := h
    refine ⟨_, pss_cons (ps_for PassesOwn.never rfl (pi_range1 (by rfl) B.range (pa_cons (pe_callB (call_max2 rfl) (by rfl) B.max (by decide +kernel) (pa_cons pe_int (pa_cons (pe_callB (call_min2 rfl) (by rfl) B.min (by decide +kernel) (pa_cons pe_int (pa_cons (pe_callB call_len_seq (by rfl) B.len PySem.boot_len (pa_cons (pv 0) pa_nil)) pa_nil))) pa_nil))) pa_nil)) (pg_name (i := 1) scLa.nd rfl (Or.inl rfl)) (pss_cons (ps_set (i := 2) scLa.nd rfl (Or.inr rfl) (pe_call GU (hr.mono (by decide)) rfl gU kU bU .nil pass0 (pa_cons (pv 0) (pa_cons (pv 1) pa_nil))))
      (pss_one (ps_for PassesOwn.never rfl (pi_range1 (by rfl) B.range (pa_cons pe_int pa_nil)) (pg_name (i := 3) scLa.nd rfl (Or.inl rfl)) (pss_cons (ps_asg (pe_tup (pa_cons (pe_op op_add (pe_int) (pe_call GD (hr.mono (by decide)) rfl gD kD bD .nil pass0 (pa_cons (pv 2) (pa_cons (pe_int) pa_nil)))) (pa_cons (pe_lst pa_nil) (pa_cons (pe_lst pa_nil) (pa_cons (pe_lst pa_nil) pa_nil))))) (pg_tup (by rfl) (pgs_cons (pg_name (i := 4) scLa.nd rfl (Or.inr rfl)) (pgs_cons (pg_name (i := 5) scLa.nd rfl (Or.inr rfl)) (pgs_cons (pg_name (i := 6) scLa.nd rfl (Or.inl rfl)) (pgs_cons (pg_name (i := 7) scLa.nd rfl (Or.inl rfl)) pgs_nil))))))
      (pss_cons (ps_set (i := 8) scLa.nd rfl (Or.inl rfl) (pe_call GD (hr.mono (by decide)) rfl gD kD bD .nil pass0 (pa_cons (pv 2) (pa_cons (pe_int) pa_nil))))
      (pss_cons (ps_for PassesOwn.never rfl (pi_range1 (by rfl) B.range (pa_cons (pe_op op_add (pe_int) (pe_call GD (hr.mono (by decide)) rfl gD kD bD .nil pass0 (pa_cons (pv 2) (pa_cons (pe_int) pa_nil)))) pa_nil)) (pg_name (i := 9) scLa.nd rfl (Or.inl rfl)) (pss_cons (ps_if (pt_cmpR (op_eq) (pe_call GD (hr.mono (by decide)) rfl gD kD bD .nil pass0 (pa_cons (pv 2) (pa_cons (pe_int) pa_nil))) (pe_int) (nomark _)) (pss_cons (ps_expr (pe_bm PySem.F.plainAttrs_list PySem.F.slot_list_append PySem.F.type_list_append mt_append (pv 5) (pa_cons (pe_tup (pa_cons (pe_str) (pa_cons (pe_op op_pow pe_int pe_int) pa_nil))) pa_nil)))
      (pss_one (ps_set (i := 6) scLa.nd rfl (Or.inl rfl) (pe_lst pa_nil)))) (pss_cons (ps_set (i := 10) scLa.nd rfl (Or.inl rfl) (pe_op op_add (pe_int) (pe_call GD (hr.mono (by decide)) rfl gD kD bD .nil pass0 (pa_cons (pv 2) (pa_cons (pe_call GP (hr.mono (by decide)) rfl gP kP bP .nil pass0 (pa_cons (pv 2) (pa_cons (pe_lst (pa_cons (pe_int) (pa_cons (pe_int) pa_nil))) pa_nil))) pa_nil)))))
      (pss_cons (ps_expr (pe_bm PySem.F.plainAttrs_list PySem.F.slot_list_append PySem.F.type_list_append mt_append (pv 5) (pa_cons (pe_tup (pa_cons (pe_str) (pa_cons (pe_op op_add (pv 4) (pv 10)) (pa_cons (pe_call GP (hr.mono (by decide)) rfl gP kP bP .nil pass0 (pa_cons (pv 2) (pa_cons (pe_lst (pa_cons (pe_str) (pa_cons (pe_str) pa_nil))) pa_nil))) (pa_cons (pe_str) pa_nil))))) pa_nil)))
      (pss_one (ps_set (i := 6) scLa.nd rfl (Or.inl rfl) (pe_op op_cat (pv 6) (pe_lst (pa_cons (pv 10) pa_nil))))))))
      (pss_one (ps_expr (pe_bm PySem.F.plainAttrs_list PySem.F.slot_list_append PySem.F.type_list_append mt_append (pv 7) (pa_cons (pe_listG (pgen_meth (pe_make MK GI (hr.mono (by decide)) rfl T.g bI .nil pass0 (pa_cons (pe_call GFl (hr.mono (by decide)) rfl gFl kFl bFl .nil pass0 (pa_cons (pv 6) pa_nil)) pa_nil)) T.cl mPt GPt (hr.mono (by decide)) bPt .nil (pa_cons (pv 8) pa_nil)) GF.passG GF.noStop0 (hr.mono (by decide)) (by rfl) B.list (by decide +kernel)) pa_nil))))))
      (pss_cons (ps_set (i := 11) scLa.nd rfl (Or.inl rfl) (pe_make MKw GIw (hr.mono (by decide)) rfl TW.g bIw .nil pass0 (pa_cons (pv 4) (pa_cons (pv 5) pa_nil))))
      (pss_cons (ps_if (PW.pt (pw_or (pt_cmpR (op_neD hr.units) (pe_listG (pgen_call GPs (hr.mono (by decide)) rfl gPs kPs bPs vfls (pa_cons (pv 11) (pa_cons (pv 8) pa_nil))) GF.passG GF.noStop0 (hr.mono (by decide)) (by rfl) B.list (by decide +kernel)) (pv 7) (nomark _)) (pw_or1 (pt_cmpR (op_neD hr.units) (pe_call GWk (hr.mono (by decide)) rfl gWk kWk bWk vfls pass0 (pa_cons (pv 11) (pa_cons (pv 8) pa_nil))) (pe_tup (pa_cons (pe_str) (pa_cons (pe_ix ix_list (pv 7) (pe_un un_neg pe_int) (fun _ _ => rfl)) pa_nil))) (nomark _))))) (pss_one (ps_ret pe_bl)) (pss_nil))
      (pss_cons (ps_for PassesOwn.never rfl (pi_range1 (by rfl) B.range (pa_cons (pe_callB call_len_seq (by rfl) B.len PySem.boot_len (pa_cons (pv 5) pa_nil)) pa_nil)) (pg_name (i := 12) scLa.nd rfl (Or.inr rfl)) (pss_cons (ps_setLc (i := 13) (own := [("step", 9)]) (g := gName 9) (tt := tAnd (tTest (tOp rEq (tOp (rIxT K) (tVar 9) (tC (.int 0))) (tC (.str "road")))) (tTest (tOp (rI0 fun i j => .bl (decide (i ≤ j))) (tOp (rIxT K) (tVar 9) (tC (.int 1))) (tOp (rIxT K) (tOp (rIxL K) (tVar 5) (tVar 12)) (tC (.int 1)))))) (te := tVar 9) rfl scLa.nd rfl rfl (sw_true rfl rfl rfl (by decide +kernel)) (pi_list (pe_slice sl_list (pv 5) po_none (po_some (pv 12)))) (blkOk_by (N := NLa) (sc := defScope sLaw) (by decide +kernel))
          (fun _ _ _ _ _ => pg_name (i := 9) scLa.nd rfl (Or.inl rfl)) (fun _ _ _ _ _ => pts_one (by exact PW.pt (pw_and (pt_cmpR (op_eq) (pe_ix ix_tup (pv 9) (pe_int) (fun _ _ => rfl)) (pe_str) (nomark _)) (pw_and1 (pt_cmpR (op_le) (pe_ix ix_tup (pv 9) (pe_int) (fun _ _ => rfl)) (pe_ix ix_tup (pe_ix ix_list (pv 5) (pv 12) (fun _ _ => rfl)) (pe_int) (fun _ _ => rfl)) (nomark _)))))) (fun _ _ _ _ _ => by exact pv 9))
      (pss_one (ps_if (PW.pt (pw_and (pt_cmpR (op_eq) (pe_ix ix_tup (pe_ix ix_list (pv 5) (pv 12) (fun _ _ => rfl)) (pe_int) (fun _ _ => rfl)) (pe_str) (nomark _)) (pw_and (pt_cmpR (op_neD hr.units) (pv 13) (pe_lst pa_nil) (nomark _)) (pw_and1 (pt_cmpR (op_notInD (hr65 hr)) (pe_tup (pa_cons (pe_str) (pa_cons (pe_op op_pow pe_int pe_int) pa_nil))) (pe_slice sl_list (pv 5) po_none (po_some (pv 12))) (by rfl)))))) (pss_one (ps_if (pt_cmpR (op_neD hr.units) (pe_call GWk (hr.mono (by decide)) rfl gWk kWk bWk vfls pass0 (pa_cons (pe_meth (pv 11) TW.cl mO GO (hr.mono (by decide)) bO .nil pass0 (pa_cons (pv 12) pa_nil)) (pa_cons (pv 8) pa_nil))) (pe_call GWk (hr.mono (by decide)) rfl gWk kWk bWk vfls pass0 (pa_cons (pv 11) (pa_cons (pv 8) pa_nil))) (nomark _)) (pss_one (ps_ret pe_bl)) (pss_nil))) (pss_nil)))))
      (pss_cons (ps_par (i := 14) (j := 15) (by rfl) scLa.nd rfl rfl (by decide) rfl rfl (pa_cons (pe_lc (own := [("cut", 10)]) (g := gName 10) (tt := tYes) (te := tOp (rI0 fun i j => .int (i + j)) (tC (.int 4)) (tCall S.spDraw [] E0 (tCons (tVar 2) (tCons (tC (.int 30)) tNil)))) rfl scLa.nd (pi_range1 (by rfl) B.range (pa_cons pe_int pa_nil)) (blkOk_by (N := NLa) (sc := defScope sLaw) (by decide +kernel))
          (fun _ _ _ _ _ => pg_name (i := 10) scLa.nd rfl (Or.inl rfl)) (fun _ _ _ _ _ => pts_nil) (fun _ _ _ _ _ => by exact pe_op op_add pe_int (pe_call GD (hr.mono (by decide)) rfl gD kD bD .nil pass0 (pa_cons (pv 2) (pa_cons pe_int pa_nil))))) (pa_cons (pe_lc (own := [("cut", 10)]) (g := gName 10) (tt := tYes) (te := tOp (rI0 fun i j => .int (i + j)) (tC (.int 4)) (tCall S.spDraw [] E0 (tCons (tVar 2) (tCons (tC (.int 30)) tNil)))) rfl scLa.nd (pi_range1 (by rfl) B.range (pa_cons pe_int pa_nil)) (blkOk_by (N := NLa) (sc := defScope sLaw) (by decide +kernel))
          (fun _ _ _ _ _ => pg_name (i := 10) scLa.nd rfl (Or.inl rfl)) (fun _ _ _ _ _ => pts_nil) (fun _ _ _ _ _ => by exact pe_op op_add pe_int (pe_call GD (hr.mono (by decide)) rfl gD kD bD .nil pass0 (pa_cons (pv 2) (pa_cons pe_int pa_nil))))) pa_nil)) (by rfl))
      (pss_cons (ps_set (i := 16) scLa.nd rfl (Or.inl rfl) (pe_make MKw GIw (hr.mono (by decide)) rfl TW.g bIw .nil pass0 (pa_cons (pv 4) (pa_cons (pe_lc (own := [("cut", 10)]) (g := gName 10) (tt := tYes) (te := tTup (tCons (tC (.str "road")) (tCons (tOp (rI0 fun i j => .int (i + j)) (tVar 4) (tVar 10)) (tCons (tC (.str "drop")) (tCons (tC (.str "cut")) tNil))))) rfl scLa.nd (pi_list (pv 14)) (blkOk_by (N := NLa) (sc := defScope sLaw) (by decide +kernel))
          (fun _ _ _ _ _ => pg_name (i := 10) scLa.nd rfl (Or.inl rfl)) (fun _ _ _ _ _ => pts_nil) (fun _ _ _ _ _ => by exact pe_tup (pa_cons (pe_str) (pa_cons (pe_op op_add (pv 4) (pv 10)) (pa_cons (pe_str) (pa_cons (pe_str) pa_nil)))))) pa_nil))))
      (pss_cons (ps_set (i := 17) scLa.nd rfl (Or.inl rfl) (pe_make MKw GIw (hr.mono (by decide)) rfl TW.g bIw .nil pass0 (pa_cons (pv 4) (pa_cons (pe_lc (own := [("cut", 10)]) (g := gName 10) (tt := tYes) (te := tTup (tCons (tC (.str "road")) (tCons (tOp (rI0 fun i j => .int (i + j)) (tVar 4) (tVar 10)) (tCons (tC (.str "drop")) (tCons (tC (.str "cut")) tNil))))) rfl scLa.nd (pi_list (pv 15)) (blkOk_by (N := NLa) (sc := defScope sLaw) (by decide +kernel))
          (fun _ _ _ _ _ => pg_name (i := 10) scLa.nd rfl (Or.inl rfl)) (fun _ _ _ _ _ => pts_nil) (fun _ _ _ _ _ => by exact pe_tup (pa_cons (pe_str) (pa_cons (pe_op op_add (pv 4) (pv 10)) (pa_cons (pe_str) (pa_cons (pe_str) pa_nil)))))) pa_nil))))
      (pss_cons (ps_set (i := 18) scLa.nd rfl (Or.inl rfl) (pe_op (WO.op_addO GA (hr.mono (by decide)) OA sfC bA pass0) (pe_make MK GI (hr.mono (by decide)) rfl T.g bI .nil pass0 (pa_cons (pe_call GFl (hr.mono (by decide)) rfl gFl kFl bFl .nil pass0 (pa_cons (pv 14) pa_nil)) pa_nil)) (pe_make MK GI (hr.mono (by decide)) rfl T.g bI .nil pass0 (pa_cons (pe_call GFl (hr.mono (by decide)) rfl gFl kFl bFl .nil pass0 (pa_cons (pv 15) pa_nil)) pa_nil))))
      (pss_one (ps_if (pt_cmpR (op_neD hr.units) (pe_call GWk (hr.mono (by decide)) rfl gWk kWk bWk vfls pass0 (pa_cons (pe_op (WO.op_addO GAw (hr.mono (by decide)) OAw sfW bAw pass0) (pv 16) (pv 17)) (pa_cons (pv 8) pa_nil))) (pe_tup (pa_cons (pe_str) (pa_cons (pe_listG (pgen_meth (pv 18) T.cl mPt GPt (hr.mono (by decide)) bPt .nil (pa_cons (pv 8) pa_nil)) GF.passG GF.noStop0 (hr.mono (by decide)) (by rfl) B.list (by decide +kernel)) pa_nil))) (nomark _)) (pss_one (ps_ret pe_bl)) (pss_nil)))))))))))))))))
      (pss_one (ps_ret (pe_bl))), ?_⟩
    refine ⟨_, rfl, a, _, rfl, .inl hS, _, _, rfl, _, _, rfl, _, rfl, by split <;> omega, by split <;> (try split) <;> omega, for_range (n := Int.toNat _) (fun i σ G => Same H G ∧ ∃ q, σ = some (.ref a) :: q ∧ q.length = 18)
      ⟨Same.refl H, _, rfl, rfl⟩ ?_ ?_⟩
    · rintro i σ G hi ⟨s0, q, rfl, hq⟩
      obtain ⟨q1, q2, q3, q4, q5, q6, q7, q8, q9, q10, q11, q12, q13, q14, q15, q16, q17, q18, rfl⟩ : ∃ q1 q2 q3 q4 q5 q6 q7 q8 q9 q10 q11 q12 q13 q14 q15 q16 q17 q18, q = [q1, q2, q3, q4, q5, q6, q7, q8, q9, q10, q11, q12, q13, q14, q15, q16, q17, q18] := by
        match q, hq with
        | [q1, q2, q3, q4, q5, q6, q7, q8, q9, q10, q11, q12, q13, q14, q15, q16, q17, q18], _ => exact ⟨_, _, _, _, _, _, _, _, _, _, _, _, _, _, _, _, _, _, rfl⟩
      clear hq
      first | dsimp only | skip
      refine set_then (i := 2) ⟨_, rfl, _, rfl, a, ns, i, by show [V.ref a, V.int (0 + (i : Int))] = _; rw [Int.zero_add], ?_, s0.seq hS, hl, hb, fun p r m hp hf => ?_⟩
      · split at hi <;> (try split at hi) <;> omega
      have hp0 : H p = none := s0.free hp
      have s1 : Same H (upd G p (.lst (S.Two r m))) := s0.trans (of_upd hp)
      have at1 : S.At (upd G p (.lst (S.Two r m))) p := ⟨r, m, upd_same, hf⟩
      generalize upd G p (.lst (S.Two r m)) = G1 at s1 at1 ⊢
      clear hp
      refine ⟨6, rfl, by decide, by decide, for_range (n := 6) (fun _ σ G => Same H G ∧ S.At G p ∧ ∃ q1 q3 q4 q5 q6 q7 q8 q9 q10 q11 q12 q13 q14 q15 q16 q17 q18, σ = [some (.ref a), q1, some (.ref p), q3, q4, q5, q6, q7, q8, q9, q10, q11, q12, q13, q14, q15, q16, q17, q18])
        ⟨s1, at1, _, _, _, _, _, _, _, _, _, _, _, _, _, _, _, _, _, rfl⟩ ?_ fun σ G z => ⟨z.1, by obtain ⟨_, _, q1, q3, q4, q5, q6, q7, q8, q9, q10, q11, q12, q13, q14, q15, q16, q17, q18, e⟩ := z; exact ⟨_, e, rfl⟩⟩⟩
      clear s1 at1 G1
      rintro it σ Gt hit ⟨s1, at1, q1, q3, q4, q5, q6, q7, q8, q9, q10, q11, q12, q13, q14, q15, q16, q17, q18, rfl⟩
      first | dsimp only | skip
      refine head_run (p := p) rfl at1 rfl fun hd L5 L6 L7 Gz G2 hd1 hd2 bz v j => ?_
      have sz : ∀ G', Bt p Gz G' → Same H G' := fun G' b => sameBt s1 hp0 (bz.trans b)
      clear s1 at1 bz
      first | dsimp only | skip
      refine set_then (i := 8) (draw_vv (E := E0) rfl j.bt.2 (by decide) (by decide +kernel) fun d8 G3 d80 d81 b3 => ?_)
      obtain ⟨b, rfl⟩ := Int.eq_ofNat_of_zero_le d80
      have hb90 : b ≤ 89 := by omega
      replace j := j.bts v b3
      clear b3 d80 d81
      first | dsimp only | skip
      refine draw_of (p := p) rfl j.bt.2 (by decide) (by decide +kernel) fun d9 G4 d90 d91 b4 => ⟨_, rfl, by omega, by omega, ?_⟩
      replace j := j.bts v b4
      clear b4
      refine for_range (n := (1 + d9).toNat) (fun i9 σ G => ∃ (r : List N.St) (L6 : Addr) (q9 q10 : Option V), σ = [some (.ref a), q1, some (.ref p), some (.int (0 + (it : Int))), some (.int (hd : Int)), some (.ref L5), some (.ref L6), some (.ref L7), some (.int (b : Int)), q9, q10, q11, q12, q13, q14, q15, q16, q17, q18] ∧ J p L5 L7 hd Gz G r L6 (N.sinceA [] r) (N.rowsA b [] r) ∧ r.length = i9 ∧ ∀ s ∈ r, s.ok hd)
        ⟨[], _, _, _, rfl, j, rfl, fun s hs => by cases hs⟩ ?_ ?_
      · clear j
        rintro i9 σ G hi9 ⟨r, L6, q9, q10, rfl, j, hlen, ok⟩
        have l8 : r.length ≤ 8 := by omega
        first | dsimp only | skip
        refine if_then (fun σ' G' => ∃ (s : N.St) (L6 : Addr) (q10 : Option V), σ' = [some (.ref a), q1, some (.ref p), some (.int (0 + (it : Int))), some (.int (hd : Int)), some (.ref L5), some (.ref L6), some (.ref L7), some (.int (b : Int)), some (.int (0 + (i9 : Int))), q10, q11, q12, q13, q14, q15, q16, q17, q18] ∧ J p L5 L7 hd Gz G' (r ++ [s]) L6 (N.nx (N.sinceA [] r) s) (N.rowsA b [] r) ∧ s.ok hd) ?rest (fun kk => ?_)
        case rest =>
          clear j
          rintro σ' G' ⟨s, L6, q10, rfl, j, oks⟩
          have ok' : ∀ x ∈ r ++ [s], x.ok hd := fun x hx => by
            rcases List.mem_append.mp hx with e | e
            · exact ok x e
            · rw [List.mem_singleton.mp e]
              exact oks
          have es : N.nx (N.sinceA [] r) s = N.sinceA [] (r ++ [s]) := by
            rw [N.since_app]
            rfl
          have er : N.rowsA b [] (r ++ [s]) = N.rowsA b [] r ++ [N.pt (N.sinceA [] (r ++ [s])) [b]] := by
            rw [N.rows_app, ← es]
            rfl
          rw [es] at j
          have lr : (r ++ [s]).length ≤ 9 := by simp; omega
          obtain ⟨hc, hpt⟩ := cuts_fl ok' (by omega)
          have ls := N.since_len (r ++ [s]) []
          obtain ⟨ys, h7, a7⟩ := id j.l7
          have l7 := a7.len
          rw [N.rows_len] at l7
          refine ⟨_, rfl, .inl ⟨rfl, _, SqL.of h7⟩, _, rfl, L6, _, rfl, j.l6, (by simp at ls; omega), fun R G5 s5 _ hR => fun x dx hx hdx ne => made_ch hx hdx ne (.inl hR) hc fun G6 s6 hch => ⟨rfl, ?_⟩⟩
          obtain ⟨dx2, fs, i1, i2⟩ := hch.ins nkp
          refine ⟨x, dx2, fs, rfl, i1, i2, _, rfl, x, b, _, rfl, hch, hc, by omega, fun G7 s7 p1 hp1 => ?_⟩
          have g := of_upd (o := .lst (ni (N.pt (N.fl (N.sinceA [] (r ++ [s]))) [b]))) hp1
          have s57 := (s5.trans s6).trans s7
          have j1 := j.same v s57
          have fr := j1.fresh hp1
          have j2 := j1.same v g
          have h7' := g _ _ (s57 _ _ h7)
          refine ⟨L7, _, _, rfl, rfl, h7', small1000 (by omega), r ++ [s], L6, _, _, rfl, ?_, by simp; omega, ok'⟩
          have j3 := j2.put7 v h7' (l := N.pt (N.sinceA [] (r ++ [s])) [b]) (t := p1) (by rw [upd_same, hpt]) fr
          rw [er]
          exact j3
        refine draw_vv (E := E0) rfl j.bt.2 (by decide) (by decide +kernel) fun dk Gk _ _ bk => ⟨rfl, _, rfl, ite2 (fun c => ?_) (fun c => ?_)⟩
        · clear c
          replace j := j.bts v bk
          obtain ⟨xs, h5, a5⟩ := id j.l5
          have lx := a5.len
          have e10 : V.int ((10 : Int) ^ (12 : Int).toNat) = V.int 1000000000000 := by decide +kernel
          refine ⟨_, rfl, .inl ⟨rfl, _, SqL.of h5⟩, _, _, rfl, rfl, ⟨by decide, by decide, by decide⟩, line2.1, fun t nt => ?_⟩
          have g := of_upd (o := .tup [V.str "join", V.int ((10 : Int) ^ (12 : Int).toNat)]) nt
          refine ⟨L5, _, _, rfl, rfl, g _ _ h5, small1000 (by omega), ?_⟩
          have j1 := (j.same v g).put5 v (g _ _ h5) (t := t) (s := .join) (by rw [upd_same, e10]; rfl)
          refine ⟨line2.2.2.2, fun e ne => kk _ _ ⟨.join, e, _, rfl, ?_, trivial⟩⟩
          exact (j1.same v (of_upd ne)).new6 (e := e) (cs' := []) upd_same (j1.fresh ne)
        · clear c
          replace j := j.bts v bk
          refine set_then (i := 10) (cut_run (p := p) rfl j.bt.2 fun c Gc c4 c43 bc => ?_)
          replace j := j.bts v bc
          obtain ⟨xs, h5, a5⟩ := id j.l5
          have lx := a5.len
          refine ⟨_, rfl, .inl ⟨rfl, _, SqL.of h5⟩, _, rfl, _, rfl, _, _, rfl, rfl, ?_⟩
          refine word_run (p := p) rfl j.bt.2 fun ts Gw bw => ⟨(by decide : 4 ≤ sizeLine), fun t nt => ?_⟩
          replace h5 := bw.1 _ _ v.e5 h5
          replace j := j.bts v bw
          have g := of_upd (o := .tup [V.str "road", V.int ((hd : Int) + (c : Int)), V.str (WP.sdS ts), V.str "cut"]) nt
          refine ⟨L5, _, _, rfl, rfl, g _ _ h5, small1000 (by omega), ?_⟩
          have j1 := (j.same v g).put5 v (g _ _ h5) (t := t) (s := .road c ts) (by rw [upd_same]; rfl)
          generalize upd (upd Gw t (.tup [V.str "road", V.int ((hd : Int) + (c : Int)), V.str (WP.sdS ts), V.str "cut"])) L5 (.lst (xs ++ [.ref t])) = Gx at j1 ⊢
          have ls := N.since_len r []
          refine ⟨_, rfl, _, rfl, line2.2.2.1, fun e1 f1 => ?_⟩
          have g1 := of_upd (o := .lst [V.int (c : Int)]) f1
          have j2 := j1.same v g1
          refine ⟨L6, e1, _, _, rfl, rfl, j2.l6, upd_same, ?_, fun e2 f2 => kk _ _ ⟨.road c ts, e2, _, rfl, ?_, ⟨by omega, by omega⟩⟩⟩
          · rw [ni_len]
            exact Nat.le_of_lt (small1000 (show _ ≤ 1000 by show (N.sinceA [] r).length + 1 ≤ 1000; simp at ls; omega))
          · refine (j2.same v (of_upd f2)).new6 (e := e2) ?_ (j2.fresh f2)
            rw [upd_same]
            show some (HO.lst (ni (N.sinceA [] r) ++ [V.int (c : Int)])) = some (HO.lst (ni (N.sinceA [] r ++ [c])))
            rw [ni_app]
            rfl
      rintro σ G ⟨r, L6, q9, q10, rfl, j, hlen, ok⟩
      have r1 : 1 ≤ r.length := by omega
      have r8 : r.length ≤ 8 := by omega
      clear hlen d90 d91
      have hfine := N.fine_of hd1 hd2 ok r1 (by omega)
      obtain ⟨xs, h5, a5⟩ := id j.l5
      obtain ⟨ys, h7, a7⟩ := id j.l7
      first | dsimp only | skip
      refine set_then (i := 11) ⟨_, rfl, _, rfl, fun xw dx hx hdx ne => ⟨xw, L5, dx, hd, xs, r.map (N.St.to hd), G, rfl, upd_same, hx, (of_upd hdx).trans (of_upd (by rw [upd_ne ne.symm]; exact hx)), .inl h5, a5.steps, hfine, fun G6 s6 wa => ⟨rfl, ?_⟩⟩⟩
      replace h5 := s6 _ _ h5
      replace h7 := s6 _ _ h7
      replace j := j.same v s6
      clear s6 hx hdx ne
      first | dsimp only | skip
      refine ⟨_, rfl, _, rfl, xw, b, false, .mk hd (r.map (N.St.to hd)), rfl, wa, hfine, by omega, fun xp G7 s7 hls _ => fun P nP => ⟨_, rfl, ?_⟩⟩
      have eps : M.passed false hd (r.map (N.St.to hd)) [b] = N.rowsA b [] r := N.passed_ok (by omega) (by omega) r [] (fun c hc => by cases hc) ok
      have hls2 : WP.LsAt G7 (N.rowsA b [] r) xp := by
        have z : WP.LsAt G7 (M.passed false hd (r.map (N.St.to hd)) [b]) xp := hls
        rwa [eps] at z
      clear hls
      have g := of_upd (o := .lst xp) nP
      have s8 := s7.trans g
      replace j := j.same v s8
      replace h5 := s8 _ _ h5
      replace h7 := s8 _ _ h7
      replace wa := wa.mono s8
      obtain ⟨ys2, h7', a7⟩ := id j.l7
      rw [h7] at h7'
      cases h7'
      refine ne_rows upd_same (ls_dp (hls2.mono g)) h7 a7.dp ⟨_, rfl, iteF ?_⟩
      generalize upd G7 P (.lst xp) = G8 at j h5 h7 wa a7 ⊢
      clear s7 s8 g hls2 nP
      have ew := N.walk_ok (b := b) (by omega : 0 < hd) (by omega) ok
      obtain ⟨r0, s0', er⟩ : ∃ r0 s, r = r0 ++ [s] := by
        rcases List.eq_nil_or_concat r with z | ⟨g, y, z⟩
        · rw [z] at r1; simp at r1
        · exact ⟨g, y, by rw [z, List.concat_eq_append]⟩
      have erows : N.rowsA b [] r = N.rowsA b [] r0 ++ [N.pt (N.sinceA [] r) [b]] := by
        rw [er, N.rows_app, N.since_app]
        rfl
      rw [erows] at a7
      obtain ⟨ys0, tl, rfl, htl⟩ := a7.last
      refine ⟨_, rfl, _, rfl, xw, b, false, .mk hd (r.map (N.St.to hd)), rfl, wa, hfine, by omega, fun vv G9 s9 fa => ?_⟩
      rw [ew] at fa
      obtain ⟨u8, L8, rfl, g1, g2⟩ := fa
      have g2' : G9 L8 = some (.lst (ni (N.pt (N.sinceA [] r) [b]))) := g2
      clear g2
      refine ⟨_, rfl, 1, rfl, L7, _, _, .ref tl, rfl, rfl, SqL.of (s9 _ _ h7), atI_last _ _, line2.1, fun e3 he3 => ?_⟩
      have g := of_upd (o := .tup [V.str "comes", V.ref tl]) he3
      refine ne_comes (g _ _ g1) (g _ _ g2') upd_same (g _ _ (s9 _ _ htl)) ⟨_, rfl, iteF ?_⟩
      have s10 := s9.trans g
      replace j := j.same v s10
      replace h5 := s10 _ _ h5
      replace wa := wa.mono s10
      generalize upd G9 e3 (.tup [V.str "comes", V.ref tl]) = Ga at j h5 wa ⊢
      clear s9 s10 g g1 g2' he3 h7 htl a7 erows er
      obtain ⟨xs', h5', a5⟩ := id j.l5
      rw [h5] at h5'
      cases h5'
      first | (unfold tNext; dsimp only) | dsimp only | skip
      have lx := a5.len
      refine ⟨_, rfl, L5, _, rfl, .inl (SqL.of h5), _, rfl, by omega, by omega, ?_⟩
      refine for_range (n := Int.toNat _) (fun _ σ G => Same Ga G ∧ ∃ q9 q12 q13, σ = [some (.ref a), q1, some (.ref p), some (.int (0 + (it : Int))), some (.int (hd : Int)), some (.ref L5), some (.ref L6), some (.ref L7), some (.int (b : Int)), q9, q10, some (.ref xw), q12, q13, q14, q15, q16, q17, q18])
        ⟨Same.refl _, _, _, _, rfl⟩ ?_ ?_
      · rintro ia σ G hia ⟨sx, q9, q12, q13, rfl⟩
        have hi2 : ia < r.length := by omega
        obtain ⟨s0, hs0⟩ : ∃ s, r[ia]? = some s := ⟨_, List.getElem?_eq_getElem hi2⟩
        obtain ⟨t0, ht0, hT0⟩ := a5.get hs0
        have ei : (0 : Int) + (ia : Int) = (ia : Int) := Int.zero_add _
        have aT := a5.take ia
        have lT := aT.len
        first | dsimp only | skip
        rw [ei]
        refine set_then (i := 13) ?_
        refine ⟨_, rfl, ?_⟩
        dsimp only [tNoPart]
        refine ⟨_, rfl, _, rfl, L5, _, rfl, SqL.of (sx _ _ h5), fun e1 f1 => ?_⟩
        rw [WP.cut_hi]
        refine ⟨e1, rfl, ⟨_, SqL.of upd_same⟩, fun D nD => ?_⟩
        have g1 := of_upd (o := .lst (xs.take ia)) f1
        have hE1 : upd G e1 (.lst (xs.take ia)) e1 = some (.lst (xs.take ia)) := upd_same
        have sx1 := sx.trans g1
        generalize upd G e1 (.lst (xs.take ia)) = G0 at nD sx1 hE1 ⊢
        refine lc_it walk_list (fun j G' => Same G0 G' ∧ ∃ zs, G' D = some (.lst zs) ∧ StA hd G' (((r.take ia).take j).filter (N.spB hd s0)) zs) ⟨of_upd nD, [], upd_same, .nil⟩ (fun i G _ z => SqL.of (z.1 _ _ hE1)) ?_ ?_
        · rintro j8 x G1 G' hj8 ⟨s2, zs, hZ, aZ⟩ ⟨rfl, hx⟩
          obtain ⟨s, hs⟩ : ∃ s, (r.take ia)[j8]? = some s := ⟨_, List.getElem?_eq_getElem (by omega)⟩
          obtain ⟨t, ht, hT⟩ := aT.get hs
          obtain rfl : x = .ref t := Option.some.inj (hx.symm.trans ht)
          have s3 := sx1.trans s2
          replace hT := s3 _ _ hT
          have hT0' := s3 _ _ hT0
          have h5' := s3 _ _ h5
          have lz := aZ.len
          have esn : ((r.take ia).take (j8 + 1)).filter (N.spB hd s0) = ((r.take ia).take j8).filter (N.spB hd s0) ++ (if N.spB hd s0 s = true then [s] else []) := by
            rw [take_snoc hs, List.filter_append]
            congr 1
            by_cases y : N.spB hd s0 s = true
            · rw [if_pos y, List.filter_cons_of_pos y]
              rfl
            · rw [if_neg y, List.filter_cons_of_neg y]
              rfl
          refine ⟨rfl, ?_⟩
          have nkj : ¬ (V.str "join" = V.str "road") := fun h => absurd (V.str.inj h) (by decide +kernel)
          have skip : N.spB hd s0 s = false → Same G0 G' ∧ ∃ zs, G' D = some (.lst zs) ∧ StA hd G' (((r.take ia).take (j8 + 1)).filter (N.spB hd s0)) zs := fun y => ⟨s2, zs, hZ, by rw [esn, if_neg (by rw [y]; decide), List.append_nil]; exact aZ⟩
          cases s with
          | join =>
            refine ⟨_, rfl, t, _, _, .str "join", rfl, rfl, SqT.of hT, at0, rfl, _, rfl, ?_⟩
            rw [decide_eq_false nkj]
            exact iteF (iteF (skip rfl))
          | road c ts =>
            refine ⟨_, rfl, t, _, _, .str "road", rfl, rfl, SqT.of hT, at0, rfl, _, rfl, ?_⟩
            rw [decide_eq_true rfl]
            refine iteT ?_
            have i1 : atI (stV hd (.road c ts)) (1 : Int) = some (.int ((hd + c : Nat) : Int)) := by exact atI_nat (j := 1) rfl
            obtain ⟨z0, iz, ez⟩ : ∃ z0 : Int, atI (stV hd s0) (1 : Int) = some (.int z0) ∧ N.spB hd s0 (.road c ts) = decide (((hd + c : Nat) : Int) ≤ z0) := by
              cases s0 with
              | road c0 ts0 => exact ⟨_, by exact atI_nat (j := 1) rfl, rfl⟩
              | join => exact ⟨_, by exact atI_nat (j := 1) rfl, rfl⟩
            refine ⟨_, rfl, t, _, _, _, rfl, rfl, SqT.of hT, i1, _, rfl, _, rfl, L5, _, _, .ref t0, rfl, rfl, SqL.of h5', atI_nat ht0, t0, _, _, _, rfl, rfl, SqT.of hT0', iz, _, _, rfl, rfl, _, rfl, ?_⟩
            rw [← ez]
            by_cases y : N.spB hd s0 (.road c ts) = true
            · rw [y]
              refine iteT ⟨_, rfl, zs, hZ, ?_, add_upd nD s2, zs ++ [.ref t], upd_same, ?_⟩
              · rw [lz]
                exact small1000 (Nat.le_trans (List.length_filter_le _ _) (Nat.le_trans (List.length_take_le' _ _) (Nat.le_trans (List.length_take_le' _ _) (by omega))))
              · rw [esn, if_pos y]
                have kp := put_keepT (o := .lst (zs ++ [.ref t])) hZ
                exact (aZ.keep kp).snoc (kp _ _ (fun _ z => by cases z) hT)
            · have y' := Bool.eq_false_iff.mpr y
              rw [y']
              exact iteF (skip y')
        rintro G1 ⟨s2, zs, hZ, aZ⟩
        rw [List.take_of_length_le (Nat.le_of_eq lT.symm)] at aZ
        have s3 := sx1.trans s2
        first | dsimp only | skip
        obtain ⟨k0, ik, ek⟩ : ∃ k0 : Str, atI (stV hd s0) (0 : Int) = some (.str k0) ∧ decide (V.str k0 = V.str "road") = (match s0 with | .road _ _ => true | .join => false) := by
          cases s0 with
          | road c0 ts0 => exact ⟨"road", at0, decide_eq_true rfl⟩
          | join => exact ⟨"join", at0, decide_eq_false fun h => absurd (V.str.inj h) (by decide +kernel)⟩
        refine ⟨_, rfl, _, rfl, L5, _, _, .ref t0, rfl, rfl, SqL.of (s3 _ _ h5), atI_nat ht0, t0, _, _, _, rfl, rfl, SqT.of (s3 _ _ hT0), ik, rfl, _, rfl, ?_⟩
        rw [ek]
        cases s0 with
        | join => exact iteF (iteF ⟨s3, _, _, _, rfl⟩)
        | road c0 ts0 =>
          refine iteT ⟨_, rfl, line2.2.2.2, fun e2 f2 => ?_⟩
          have g2 := of_upd (o := .lst []) f2
          refine ⟨_, _, .lst (SqL.of (g2 _ _ hZ)) (aZ.keep (same_keepT g2)).dp, .lst (SqL.of upd_same) .nil, shp_st hd _, by decide +kernel, ?_⟩
          rw [eqv_nilL]
          by_cases ze : (r.take ia).filter (N.spB hd (.road c0 ts0)) = []
          · rw [ze]
            exact ⟨_, rfl, iteF (iteF ⟨s3.trans g2, _, _, _, rfl⟩)⟩
          rw [decide_eq_false (fun z => ze (List.map_eq_nil_iff.mp z))]
          have s4 := s3.trans g2
          refine ⟨_, rfl, iteT ?_⟩
          generalize upd G1 e2 (.lst []) = G2 at s4 ⊢
          clear g2 f2
          have e10 : V.int ((10 : Int) ^ (12 : Int).toNat) = V.int 1000000000000 := by decide +kernel
          refine ⟨_, _, rfl, rfl, ⟨by decide, by decide, by decide⟩, line2.1, fun u nu => ⟨_, rfl, ?_⟩⟩
          dsimp only [tNoPart]
          refine ⟨_, rfl, _, rfl, L5, _, rfl, SqL.of ((of_upd nu) _ _ (s4 _ _ h5)), fun e3 f3 => ?_⟩
          rw [WP.cut_hi]
          have g3 := (of_upd (o := .tup [V.str "join", V.int ((10 : Int) ^ (12 : Int).toNat)]) nu).trans (of_upd (o := .lst (xs.take ia)) f3)
          have hu : upd (upd G2 u (.tup [V.str "join", V.int ((10 : Int) ^ (12 : Int).toNat)])) e3 (.lst (xs.take ia)) u = some (.tup [V.str "join", V.int 1000000000000]) := by
            rw [← e10]
            exact (of_upd f3) _ _ upd_same
          have he3 : upd (upd G2 u (.tup [V.str "join", V.int ((10 : Int) ^ (12 : Int).toNat)])) e3 (.lst (xs.take ia)) e3 = some (.lst (xs.take ia)) := upd_same
          have s5 := s4.trans g3
          generalize upd (upd G2 u (.tup [V.str "join", V.int ((10 : Int) ^ (12 : Int).toNat)])) e3 (.lst (xs.take ia)) = G3 at s5 hu he3 ⊢
          refine ⟨_, _, .tup (SqT.of hu) (.cons (.str _) (.cons (.int _) .nil)), .lst (SqL.of he3) (aT.keep (same_keepT s5)).dp, by decide +kernel, shp_st hd _, _, rfl, ?_⟩
          by_cases jn : N.St.join ∈ r.take ia
          · rw [(any_join hd _).mpr jn]
            exact iteF ⟨s5, _, _, _, rfl⟩
          have jn' : ((r.take ia).map (stD hd)).any (fun z => PyData.eqv z (.tuple [.str "join", .int 1000000000000])) = false := Bool.eq_false_iff.mpr fun z => jn ((any_join hd _).mp z)
          rw [jn']
          refine iteT ?_
          -- without it
          obtain ⟨s', hs'⟩ := List.exists_mem_of_ne_nil _ ze
          rw [List.mem_filter] at hs'
          obtain ⟨c', ts', rfl, le⟩ : ∃ c' ts', s' = .road c' ts' ∧ c' ≤ c0 := by
            cases s' with
            | join => exact absurd hs'.2 (by show ¬ (false = true); decide)
            | road c' ts' =>
              refine ⟨c', ts', rfl, ?_⟩
              have : decide (((hd + c' : Nat) : Int) ≤ ((hd + c0 : Nat) : Int)) = true := hs'.2
              have := of_decide_eq_true this
              omega
          have esplit : r = r.take ia ++ .road c0 ts0 :: r.drop (ia + 1) := by
            obtain ⟨q, ex⟩ := List.getElem?_eq_some_iff.mp hs0
            have q2 := List.drop_eq_getElem_cons q
            rw [ex] at q2
            rw [← q2, List.take_append_drop]
          have ok1 : ∀ s ∈ r.take ia, s.ok hd := fun s hs => ok s (List.mem_of_mem_take hs)
          have ok2 : ∀ s ∈ r.take ia ++ r.drop (ia + 1), s.ok hd := fun s hs => by
            rcases List.mem_append.mp hs with z | z
            · exact ok1 s z
            · exact ok s (List.mem_of_mem_drop z)
          have same := N.spare_road (b := b) (s2 := r.drop (ia + 1)) (ts := ts0) ok1 (fun x hx z => jn (z ▸ hx)) hs'.1 le (by omega)
          rw [← esplit] at same
          have l1 : 1 ≤ (r.take ia).length := List.length_pos_of_mem hs'.1
          have lt1 : (r.take ia).length = ia := by rw [List.length_take]; omega
          have hf2 := N.fine_of hd1 hd2 ok2 (by rw [List.length_append]; omega) (by rw [List.length_append, List.length_drop]; omega)
          have emap : (r.take ia ++ r.drop (ia + 1)).map (N.St.to hd) = (r.map (N.St.to hd)).take ia ++ (r.map (N.St.to hd)).drop (ia + 1) := by
            rw [List.map_append, List.map_take, List.map_drop]
          have ew2 := N.walk_ok (b := b) (by omega : 0 < hd) (by omega) ok2
          rw [same] at ew2
          rw [emap] at hf2 ew2
          have wa3 := wa.mono s5
          obtain ⟨dw, fw, hw1, hw2⟩ := way_ins wa3
          refine ⟨_, rfl, xw, dw, fw, rfl, hw1, hw2, _, rfl, xw, ia, hd, r.map (N.St.to hd), rfl, wa3, by rw [List.length_map]; exact hi2, by rw [List.length_map]; omega, hf2, fun c G4 s6 wc => ?_⟩
          refine ⟨_, rfl, c, b, false, _, rfl, wc, hf2, by omega, fun v1 G5 s7 fa => ?_⟩
          rw [ew2] at fa
          obtain ⟨u1, L1, rfl, y1, y2⟩ := fa
          refine ⟨_, rfl, _, rfl, xw, b, false, .mk hd (r.map (N.St.to hd)), rfl, (wa3.mono s6).mono s7, hfine, by omega, fun v2 G6 s8 fa => ?_⟩
          rw [ew] at fa
          obtain ⟨u2, L2, rfl, y3, y4⟩ := fa
          refine ne_comes (s8 _ _ y1) (s8 _ _ y2) y3 y4 ⟨_, rfl, iteF ?_⟩
          exact ⟨((s5.trans s6).trans s7).trans s8, _, _, _, rfl⟩
      rintro σ G ⟨sx, q9, q12, q13, rfl⟩
      replace j := j.same v sx
      clear sx wa h5 a5 ew hfine
      have bt := j.bt
      first | dsimp only | skip
      refine par_cuts (p := p) rfl bt.2 fun D1 l1 D2 l2 G2 b2 h1 e1 z1 h2 e2 z2 => ?_
      replace bt := bt.trans b2
      clear b2 j
      have okr : ∀ (l : List Nat), (∀ z ∈ l, 4 ≤ z ∧ z ≤ 33) → ∀ s ∈ l.map (fun c => N.St.road c false), s.ok hd := fun l hz s hs => by
        obtain ⟨c, hc, rfl⟩ := List.mem_map.mp hs
        have := hz c hc
        exact ⟨by omega, by omega⟩
      have fine1 := N.fine_of hd1 hd2 (okr l1 z1) (by rw [List.length_map]; omega) (by rw [List.length_map]; omega)
      have fine2 := N.fine_of hd1 hd2 (okr l2 z2) (by rw [List.length_map]; omega) (by rw [List.length_map]; omega)
      have ok12 : ∀ s ∈ l1.map (fun c => N.St.road c false) ++ l2.map (fun c => N.St.road c false), s.ok hd := fun s hs => by
        rcases List.mem_append.mp hs with q | q
        · exact okr l1 z1 s q
        · exact okr l2 z2 s q
      have fine12 := N.fine_of hd1 hd2 ok12 (by rw [List.length_append, List.length_map, List.length_map]; omega) (by rw [List.length_append, List.length_map, List.length_map]; omega)
      have ew12 := N.walk_ok (b := b) (by omega : 0 < hd) (by omega) ok12
      obtain ⟨f1, m1, p1⟩ := N.fl_ok (m := 1000) l1 fun c hc => by have := z1 c hc; omega
      obtain ⟨f2, m2, p2⟩ := N.fl_ok (m := 1000) l2 fun c hc => by have := z2 c hc; omega
      have le1 := N.fl_len l1
      have le2 := N.fl_len l2
      have cut1 : Cuts (N.fl l1) := ⟨f1, m1, by omega⟩
      have cut2 : Cuts (N.fl l2) := ⟨f2, m2, by omega⟩
      have cut3 := cuts_add cut1 cut2 (by omega)
      have epr : N.pt (N.add (N.fl l1) (N.fl l2)) [b] = N.pt (N.sinceA [] (l1.map (fun c => N.St.road c false) ++ l2.map fun c => N.St.road c false)) [b] := by
        rw [N.pt_add f1 f2 m2, p1, p2, N.since_app, N.since_map, N.since_map, List.nil_append, N.pt_cat]
      rw [← epr] at ew12
      rw [List.map_append] at fine12 ew12
      clear epr p1 p2 okr ok12
      first | dsimp only | skip
      refine set_then (i := 16) ⟨_, rfl, ?_⟩
      refine roads_run (hd := hd) (i := 14) rfl rfl rfl h1 (by omega) fun E1 x1 G3 s3 hE1 a1 => ?_
      refine fun xa dx hx hdx ne => ⟨xa, E1, dx, hd, x1, _, G3, rfl, upd_same, hx, (of_upd hdx).trans (of_upd (by rw [upd_ne ne.symm]; exact hx)), .inl hE1, a1.steps, fine1, fun G4 s4 wa1 => ⟨rfl, ?_⟩⟩
      replace h1 := (s3.trans s4) _ _ h1
      replace h2 := (s3.trans s4) _ _ h2
      replace bt := bt.trans (Bt.same (s3.trans s4) bt.2)
      clear s3 s4 hE1 a1 hx hdx ne
      first | dsimp only | skip
      refine set_then (i := 17) ⟨_, rfl, ?_⟩
      refine roads_run (hd := hd) (i := 15) rfl rfl rfl h2 (by omega) fun E2 x2 G5 s5 hE2 a2 => ?_
      refine fun xb dx hx hdx ne => ⟨xb, E2, dx, hd, x2, _, G5, rfl, upd_same, hx, (of_upd hdx).trans (of_upd (by rw [upd_ne ne.symm]; exact hx)), .inl hE2, a2.steps, fine2, fun G6 s6 wa2 => ⟨rfl, ?_⟩⟩
      replace h1 := (s5.trans s6) _ _ h1
      replace h2 := (s5.trans s6) _ _ h2
      replace wa1 := wa1.mono (s5.trans s6)
      replace bt := bt.trans (Bt.same (s5.trans s6) bt.2)
      clear s5 s6 hE2 a2 hx hdx ne
      first | dsimp only | skip
      refine set_then (i := 18) ⟨_, rfl, D1, l1, rfl, h1, by omega, fun R1 G7 s7 _ hR1 => fun xc dx hx hdx ne => made_ch hx hdx ne (.inl hR1) cut1 fun G8 s8 hc1 => ⟨rfl, _, rfl, D2, l2, rfl, (s7.trans s8) _ _ h2, by omega, fun R2 G9 s9 _ hR2 => fun xd dy hy hdy ny => made_ch hy hdy ny (.inl hR2) cut2 fun Gb sb hc2 => ⟨rfl, ?_⟩⟩⟩
      have hc1' := hc1.mono (s9.trans sb)
      have sq := (s7.trans s8).trans (s9.trans sb)
      refine ⟨xc, xd, rfl, rfl, ch_isC hc1', ch_isC hc2, xc, xd, _, _, rfl, hc1', hc2, cut1, cut2, by omega, fun x3 Gc sc h3 => ⟨x3, rfl, ?_⟩⟩
      have sr := sq.trans sc
      replace wa1 := wa1.mono sr
      replace wa2 := wa2.mono sr
      replace bt := bt.trans (Bt.same sr bt.2)
      clear sr sq sc s7 s8 s9 sb hc1' hc1 hc2 hR1 hR2 hx hdx ne hy hdy ny
      first | dsimp only | skip
      have w0 := way_isC wa1
      refine ⟨_, rfl, _, rfl, xa, xb, rfl, rfl, way_isC wa1, way_isC wa2, xa, xb, hd, _, _, rfl, wa1, wa2, by rw [List.length_map, List.length_map]; omega, by rw [List.length_map, List.length_map, List.length_map, List.length_map]; omega, fine12, fun xe Gd sd we => ⟨xe, rfl, _, rfl, xe, b, false, _, rfl, we, fine12, by omega, fun vv Ge se fa => ?_⟩⟩
      rw [ew12] at fa
      obtain ⟨u1, U1, rfl, y1, y2⟩ := fa
      obtain ⟨dx3, fs3, i1, i2⟩ := (h3.mono (sd.trans se)).ins nkp
      refine ⟨_, rfl, x3, dx3, fs3, rfl, i1, i2, _, rfl, x3, b, _, rfl, h3.mono (sd.trans se), cut3, by omega, fun Gf sf pp hpp => ⟨line2.1, fun ee hee => ?_⟩⟩
      have g1 := of_upd (o := .lst (ni (N.pt (N.add (N.fl l1) (N.fl l2)) [b]))) hpp
      have g2 := of_upd (o := .tup [V.str "comes", V.ref pp]) hee
      have sg := sf.trans (g1.trans g2)
      refine ne_comes (sg _ _ y1) (sg _ _ y2) upd_same (g2 _ _ upd_same) ⟨_, rfl, iteF ?_⟩
      have bt2 := bt.trans (Bt.same ((sd.trans se).trans sg) bt.2)
      exact ⟨sz _ bt2, bt2.2, _, _, _, _, _, _, _, _, _, _, _, _, _, _, _, _, _, rfl⟩
    · rintro σ G ⟨s0, q, rfl, hq⟩
      exact k _
end
end CP

end
section
set_option autoImplicit false
set_option Elab.async false
set_option linter.all false
set_option maxRecDepth 100000
set_option maxHeartbeats 4000000
/-! ## what the top leaves -/
namespace CP
open PySem L2 G Y GenW
/-- a def that is called by another name -/
structure Fa (K : PySem.W.Frag) (mg : Str → Option Value) (x y : Str) (st : Stmt) (ps : List Str) : Prop where
  ex : ∃ (f : Addr) (fd : FuncData), Fun K y y st f fd ∧ mg x = some (.ref f) ∧ PySem.W.keepIn K (.ref f) = true ∧ Binds K fd ps []
theorem Fa.df {P : Program} {w : World} {K : PySem.W.Frag} {mg : Str → Option Value} {base : Heap} {x y : Str} {st : Stmt} {ps : List Str} {k : Nat} {sp : Sp} (h : Fa K mg x y st ps) (ok : ∀ f fd, Fun K y y st f fd → FnOk P w K mg base CX0 k f fd ps sp) : Df P w K mg base k x ps sp := by
  obtain ⟨f, fd, h1, h2, h3, h4⟩ := h.ex
  exact ⟨f, fd, ok f fd h1, h2, h3, h4⟩
section
variable {K : PySem.W.Frag} {mg : Str → Option Value} {h : Heap} {f : Addr} {fd : FuncData}
theorem fd_I (X : K.In h) (Gn : h.Ns mainGlobals mg) (a : PySem.W.nsIn K mainGlobals "is_integer" = some (some (.ref f))) (F : Fun K "is_integer" "is_integer" sInteger f fd) : Fa K mg "is_integer" "is_integer" sInteger ["value"] :=
  ⟨f, fd, F, PySem.W.mg_of X Gn a, F.kp, F.binds fun _ _ _ _ _ _ us hl => match us, hl with | [_], _ => rfl⟩
theorem fd_W (X : K.In h) (Gn : h.Ns mainGlobals mg) (a : PySem.W.nsIn K mainGlobals "is_within" = some (some (.ref f))) (F : Fun K "is_within" "is_within" sWithin f fd) : Fa K mg "is_within" "is_within" sWithin ["value", "least", "greatest"] :=
  ⟨f, fd, F, PySem.W.mg_of X Gn a, F.kp, F.binds fun _ _ _ _ _ _ us hl => match us, hl with | [_, _, _], _ => rfl⟩
theorem fd_ar (X : K.In h) (Gn : h.Ns mainGlobals mg) (a : PySem.W.nsIn K mainGlobals "_are_cuts" = some (some (.ref f))) (F : Fun K "_are_cuts" "_are_cuts" sAreCuts f fd) : Fa K mg "_are_cuts" "_are_cuts" sAreCuts ["value"] :=
  ⟨f, fd, F, PySem.W.mg_of X Gn a, F.kp, F.binds fun _ _ _ _ _ _ us hl => match us, hl with | [_], _ => rfl⟩
theorem fd_co (X : K.In h) (Gn : h.Ns mainGlobals mg) (a : PySem.W.nsIn K mainGlobals "_piece_counts" = some (some (.ref f))) (F : Fun K "_piece_counts" "_piece_counts" sCounts f fd) : Fa K mg "_piece_counts" "_piece_counts" sCounts ["cuts"] :=
  ⟨f, fd, F, PySem.W.mg_of X Gn a, F.kp, F.binds fun _ _ _ _ _ _ us hl => match us, hl with | [_], _ => rfl⟩
theorem fd_pi (X : K.In h) (Gn : h.Ns mainGlobals mg) (a : PySem.W.nsIn K mainGlobals "_pieces" = some (some (.ref f))) (F : Fun K "_pieces" "_pieces" sPieces f fd) : Fa K mg "_pieces" "_pieces" sPieces ["body", "cuts", "counts"] :=
  ⟨f, fd, F, PySem.W.mg_of X Gn a, F.kp, F.binds fun _ _ _ _ _ _ us hl => match us, hl with | [_, _, _], _ => rfl⟩
theorem fd_ls (X : K.In h) (Gn : h.Ns mainGlobals mg) (a : PySem.W.nsIn K mainGlobals "_law_source" = some (some (.ref f))) (F : Fun K "_law_source" "_law_source" S.sSource f fd) : Fa K mg "_law_source" "_law_source" S.sSource ["script", "start"] :=
  ⟨f, fd, F, PySem.W.mg_of X Gn a, F.kp, F.binds fun _ _ _ _ _ _ us hl => match us, hl with | [_, _], _ => rfl⟩
theorem fd_ld (X : K.In h) (Gn : h.Ns mainGlobals mg) (a : PySem.W.nsIn K mainGlobals "_law_draw" = some (some (.ref f))) (F : Fun K "_law_draw" "_law_draw" S.sDraw f fd) : Fa K mg "_law_draw" "_law_draw" S.sDraw ["source", "span"] :=
  ⟨f, fd, F, PySem.W.mg_of X Gn a, F.kp, F.binds fun _ _ _ _ _ _ us hl => match us, hl with | [_, _], _ => rfl⟩
theorem fd_lp (X : K.In h) (Gn : h.Ns mainGlobals mg) (a : PySem.W.nsIn K mainGlobals "_law_pick" = some (some (.ref f))) (F : Fun K "_law_pick" "_law_pick" S.sPick f fd) : Fa K mg "_law_pick" "_law_pick" S.sPick ["source", "items"] :=
  ⟨f, fd, F, PySem.W.mg_of X Gn a, F.kp, F.binds fun _ _ _ _ _ _ us hl => match us, hl with | [_, _], _ => rfl⟩
theorem fd_lf (X : K.In h) (Gn : h.Ns mainGlobals mg) (a : PySem.W.nsIn K mainGlobals "_law_falling" = some (some (.ref f))) (F : Fun K "_law_falling" "_law_falling" sLFall f fd) : Fa K mg "_law_falling" "_law_falling" sLFall ["cuts"] :=
  ⟨f, fd, F, PySem.W.mg_of X Gn a, F.kp, F.binds fun _ _ _ _ _ _ us hl => match us, hl with | [_], _ => rfl⟩
theorem fw_B (X : K.In h) (Gn : h.Ns mainGlobals mg) (a : PySem.W.nsIn K mainGlobals "is_body" = some (some (.ref f))) (F : Fun K "is_body" "is_body" WP.sBody f fd) : WP.Fd K mg "is_body" WP.sBody ["value"] :=
  ⟨f, fd, F, PySem.W.mg_of X Gn a, F.kp, F.binds fun _ _ _ _ _ _ us hl => match us, hl with | [_], _ => rfl⟩
theorem fw_wk (X : K.In h) (Gn : h.Ns mainGlobals mg) (a : PySem.W.nsIn K mainGlobals "_walked" = some (some (.ref f))) (F : Fun K "_walked" "_walked" WP.sWalked f fd) : WP.Fd K mg "_walked" WP.sWalked ["way", "body", "sealed"] :=
  ⟨f, fd, F, PySem.W.mg_of X Gn a, F.kp, F.binds fun _ _ _ _ _ _ us hl => match us, hl with | [_, _, _], _ => rfl⟩
theorem fw_se (X : K.In h) (Gn : h.Ns mainGlobals mg) (a : PySem.W.nsIn K mainGlobals "_seen_from_way" = some (some (.ref f))) (F : Fun K "_seen_from_way" "_seen_from_way" WP.sSeen f fd) : WP.Fd K mg "_seen_from_way" WP.sSeen ["fate", "position"] :=
  ⟨f, fd, F, PySem.W.mg_of X Gn a, F.kp, F.binds fun _ _ _ _ _ _ us hl => match us, hl with | [_, _], _ => rfl⟩
theorem fw_bs (X : K.In h) (Gn : h.Ns mainGlobals mg) (a : PySem.W.nsIn K mainGlobals "_behind_step" = some (some (.ref f))) (F : Fun K "_behind_step" "_behind_step" WP.sBStep f fd) : WP.Fd K mg "_behind_step" WP.sBStep ["way", "step", "stretches", "sealed"] :=
  ⟨f, fd, F, PySem.W.mg_of X Gn a, F.kp, F.binds fun _ _ _ _ _ _ us hl => match us, hl with | [_, _, _, _], _ => rfl⟩
theorem fw_br (X : K.In h) (Gn : h.Ns mainGlobals mg) (a : PySem.W.nsIn K mainGlobals "_behind_road" = some (some (.ref f))) (F : Fun K "_behind_road" "_behind_road" WP.sBRoad f fd) : WP.Fd K mg "_behind_road" WP.sBRoad ["way", "step", "stretches", "sealed"] :=
  ⟨f, fd, F, PySem.W.mg_of X Gn a, F.kp, F.binds fun _ _ _ _ _ _ us hl => match us, hl with | [_, _, _, _], _ => rfl⟩
theorem fw_pa (X : K.In h) (Gn : h.Ns mainGlobals mg) (a : PySem.W.nsIn K mainGlobals "_parts" = some (some (.ref f))) (F : Fun K "_parts" "_parts" WP.sParts f fd) : WP.Fd K mg "_parts" WP.sParts ["stretch", "carried"] :=
  ⟨f, fd, F, PySem.W.mg_of X Gn a, F.kp, F.binds fun _ _ _ _ _ _ us hl => match us, hl with | [_, _], _ => rfl⟩
theorem fw_bj (X : K.In h) (Gn : h.Ns mainGlobals mg) (a : PySem.W.nsIn K mainGlobals "_behind_join" = some (some (.ref f))) (F : Fun K "_behind_join" "_behind_join" WP.sBJoin f fd) : WP.Fd K mg "_behind_join" WP.sBJoin ["step", "stretches"] :=
  ⟨f, fd, F, PySem.W.mg_of X Gn a, F.kp, F.binds fun _ _ _ _ _ _ us hl => match us, hl with | [_, _], _ => rfl⟩
theorem fw_bt (X : K.In h) (Gn : h.Ns mainGlobals mg) (a : PySem.W.nsIn K mainGlobals "_behind_tunnel" = some (some (.ref f))) (F : Fun K "_behind_tunnel" "_behind_tunnel" WP.sBTun f fd) : WP.Fd K mg "_behind_tunnel" WP.sBTun ["way", "step", "stretches", "sealed"] :=
  ⟨f, fd, F, PySem.W.mg_of X Gn a, F.kp, F.binds fun _ _ _ _ _ _ us hl => match us, hl with | [_, _, _, _], _ => rfl⟩
theorem fw_tu (X : K.In h) (Gn : h.Ns mainGlobals mg) (a : PySem.W.nsIn K mainGlobals "_turned" = some (some (.ref f))) (F : Fun K "_turned" "_turned" WP.sTurned f fd) : WP.Fd K mg "_turned" WP.sTurned ["fate", "inner", "tells"] :=
  ⟨f, fd, F, PySem.W.mg_of X Gn a, F.kp, F.binds fun _ _ _ _ _ _ us hl => match us, hl with | [_, _, _], _ => rfl⟩
theorem fw_li (X : K.In h) (Gn : h.Ns mainGlobals mg) (a : PySem.W.nsIn K mainGlobals "is_step_list" = some (some (.ref f))) (F : Fun K "is_step_list" "is_step_list" WP.sList f fd) : WP.Fd K mg "is_step_list" WP.sList ["value"] :=
  ⟨f, fd, F, PySem.W.mg_of X Gn a, F.kp, F.binds fun _ _ _ _ _ _ us hl => match us, hl with | [_], _ => rfl⟩
theorem fw_st (X : K.In h) (Gn : h.Ns mainGlobals mg) (a : PySem.W.nsIn K mainGlobals "_is_step" = some (some (.ref f))) (F : Fun K "_is_step" "_is_step" WP.sStep f fd) : WP.Fd K mg "_is_step" WP.sStep ["value", "head"] :=
  ⟨f, fd, F, PySem.W.mg_of X Gn a, F.kp, F.binds fun _ _ _ _ _ _ us hl => match us, hl with | [_, _], _ => rfl⟩
theorem fw_rd (X : K.In h) (Gn : h.Ns mainGlobals mg) (a : PySem.W.nsIn K mainGlobals "is_road" = some (some (.ref f))) (F : Fun K "is_road" "is_road" WP.sRoad f fd) : WP.Fd K mg "is_road" WP.sRoad ["size", "sealed", "loose", "least"] :=
  ⟨f, fd, F, PySem.W.mg_of X Gn a, F.kp, F.binds fun _ _ _ _ _ _ us hl => match us, hl with | [_, _, _, _], _ => rfl⟩
theorem fw_tl (X : K.In h) (Gn : h.Ns mainGlobals mg) (a : PySem.W.nsIn K mainGlobals "is_tells" = some (some (.ref f))) (F : Fun K "is_tells" "is_tells" WP.sTells f fd) : WP.Fd K mg "is_tells" WP.sTells ["value"] :=
  ⟨f, fd, F, PySem.W.mg_of X Gn a, F.kp, F.binds fun _ _ _ _ _ _ us hl => match us, hl with | [_], _ => rfl⟩
theorem fw_mo (X : K.In h) (Gn : h.Ns mainGlobals mg) (a : PySem.W.nsIn K mainGlobals "is_most" = some (some (.ref f))) (F : Fun K "is_most" "is_most" WP.sMost f fd) : WP.Fd K mg "is_most" WP.sMost ["value"] :=
  ⟨f, fd, F, PySem.W.mg_of X Gn a, F.kp, F.binds fun _ _ _ _ _ _ us hl => match us, hl with | [_], _ => rfl⟩
theorem fw_hd (X : K.In h) (Gn : h.Ns mainGlobals mg) (a : PySem.W.nsIn K mainGlobals "is_head" = some (some (.ref f))) (F : Fun K "is_head" "is_head" WP.sHead f fd) : WP.Fd K mg "is_head" WP.sHead ["value"] :=
  ⟨f, fd, F, PySem.W.mg_of X Gn a, F.kp, F.binds fun _ _ _ _ _ _ us hl => match us, hl with | [_], _ => rfl⟩
theorem words_of {a : Addr} {dd : Option Addr} {sl : Array (Option Value)} {n : Nat} {us : List Value} {xs : List V} (lk : K.lookup a = some ⟨.type "tuple", dd, .seq us.toArray n, sl⟩) (hl : xs.length ≤ sizeLine) (r : Vals xs us) : ∀ H, SqT K H a xs := fun H => .inr ⟨_, us.toArray, _, lk, rfl, rfl, by rw [List.size_toArray, ← r.length]; exact hl, by simpa using r⟩
theorem fund_mk {x y : Str} {v : V} {u : Value} {st : Stmt} {oc : Value} {od an : Option Addr} {osl : Array (Option Value)} {D : Addr} {doc pm cdv ct : Value} (l : K.lookup f = some ⟨oc, od, .func (PySem.W.fnOf x x (defArgs st) (defBody st) (defScope st) .none (.ref D) doc pm an cdv ct), osl⟩)
    (c : PySem.W.codeIn K cdv x = true) (k : PySem.W.keepIn K (.ref f) = true) (n : PySem.W.nsIn K D y = some (some u)) (r : RelV v u) : FunD K x x (defArgs st) (defBody st) (defScope st) [] [(y, v)] f (PySem.W.fnOf x x (defArgs st) (defBody st) (defScope st) .none (.ref D) doc pm an cdv ct) :=
  ⟨⟨oc, od, _, _, doc, pm, an, cdv, ct, osl, rfl, l, c, .inl ⟨rfl, rfl⟩, .inr ⟨D, rfl, fun q hq => by
    rw [List.mem_singleton.mp hq]
    exact ⟨_, n, r⟩⟩⟩, k⟩
theorem fls_of {ds : List Value} (r : Vals [V.bl false] ds) : ds = [.bool false] := by
  cases r with
  | cons a b =>
    cases b
    cases a
    rfl
/-- walk and passed as they stand behind the top -/
structure Fwk (K : PySem.W.Frag) (mg : Str → Option Value) (x : Str) (st : Stmt) : Prop where
  ex : ∃ (f : Addr) (fd : FuncData), Fun K x x st f fd ∧ mg x = some (.ref f) ∧ Binds K fd ["way", "body", "sealed"] [.bool false]

theorem fk_wk {oc : Value} {od an : Option Addr} {osl : Array (Option Value)} {D : Addr} {doc pm cdv ct : Value} (X : K.In h) (Gn : h.Ns mainGlobals mg) (a : PySem.W.nsIn K mainGlobals "walk" = some (some (.ref f))) (l : K.lookup f = some ⟨oc, od, .func (PySem.W.fnOf "walk" "walk" (defArgs WP.sWalk) (defBody WP.sWalk) (defScope WP.sWalk) .none (.ref D) doc pm an cdv ct), osl⟩)
    (c : PySem.W.codeIn K cdv "walk" = true) (k : PySem.W.keepIn K (.ref f) = true) (n : PySem.W.nsIn K D "sealed" = some (some (.bool false))) : Fwk K mg "walk" WP.sWalk := by
  obtain ⟨ds, r, b⟩ := (fund_mk l c k n (v := .bl false) rfl).binds0 (ps := ["way", "body", "sealed"]) 2 (by simp) rfl fun D doc pm an cdv ct us ks hu hk => match us, ks, hu, hk with
    | [_, _], [_], _, _ => ⟨_, _, _, _, _, _, rfl, rfl, rfl⟩
  rw [fls_of r] at b
  exact ⟨f, _, fun_mk l c k, PySem.W.mg_of X Gn a, b⟩
theorem fk_ps {oc : Value} {od an : Option Addr} {osl : Array (Option Value)} {D : Addr} {doc pm cdv ct : Value} (X : K.In h) (Gn : h.Ns mainGlobals mg) (a : PySem.W.nsIn K mainGlobals "passed" = some (some (.ref f))) (l : K.lookup f = some ⟨oc, od, .func (PySem.W.fnOf "passed" "passed" (defArgs WP.sPassed) (defBody WP.sPassed) (defScope WP.sPassed) .none (.ref D) doc pm an cdv ct), osl⟩)
    (c : PySem.W.codeIn K cdv "passed" = true) (k : PySem.W.keepIn K (.ref f) = true) (n : PySem.W.nsIn K D "sealed" = some (some (.bool false))) : Fwk K mg "passed" WP.sPassed := by
  obtain ⟨ds, r, b⟩ := (fund_mk l c k n (v := .bl false) rfl).binds0 (ps := ["way", "body", "sealed"]) 2 (by simp) rfl fun D doc pm an cdv ct us ks hu hk => match us, ks, hu, hk with
    | [_, _], [_], _, _ => ⟨_, _, _, _, _, _, rfl, rfl, rfl⟩
  rw [fls_of r] at b
  exact ⟨f, _, fun_mk l c k, PySem.W.mg_of X Gn a, b⟩
theorem bn_mk (X : K.In h) (Gn : h.Ns mainGlobals mg) (a0 : PySem.W.nsIn K mainGlobals "isinstance" = some none) (a1 : PySem.W.nsIn K mainGlobals "bool" = some none) (a2 : PySem.W.nsIn K mainGlobals "int" = some none) (a3 : PySem.W.nsIn K mainGlobals "tuple" = some none) (a4 : PySem.W.nsIn K mainGlobals "list" = some none) (a5 : PySem.W.nsIn K mainGlobals "len" = some none) (a6 : PySem.W.nsIn K mainGlobals "range" = some none) (a7 : PySem.W.nsIn K mainGlobals "zip" = some none) (a8 : PySem.W.nsIn K mainGlobals "min" = some none) (a9 : PySem.W.nsIn K mainGlobals "max" = some none) (a10 : PySem.W.nsIn K mainGlobals "sorted" = some none) (a11 : PySem.W.nsIn K mainGlobals "set" = some none) (a12 : PySem.W.nsIn K mainGlobals "enumerate" = some none) : Bn mg := ⟨PySem.W.mg_none_of X Gn a0, PySem.W.mg_none_of X Gn a1, PySem.W.mg_none_of X Gn a2, PySem.W.mg_none_of X Gn a3, PySem.W.mg_none_of X Gn a4, PySem.W.mg_none_of X Gn a5, PySem.W.mg_none_of X Gn a6, PySem.W.mg_none_of X Gn a7, PySem.W.mg_none_of X Gn a8, PySem.W.mg_none_of X Gn a9, PySem.W.mg_none_of X Gn a10, PySem.W.mg_none_of X Gn a11, PySem.W.mg_none_of X Gn a12⟩
theorem sum_mk (X : K.In h) (Gn : h.Ns mainGlobals mg) (a : PySem.W.nsIn K mainGlobals "sum" = some none) : mg "sum" = none := PySem.W.mg_none_of X Gn a
theorem ct_mk {C : Addr} (X : K.In h) (Gn : h.Ns mainGlobals mg) (cg : PySem.W.nsIn K mainGlobals "Chain" = some (some (.ref C))) (c1 : PySem.W.plainGet K C Str.empty = true) (c2 : PySem.W.hasDictIn K C = true) (c3 : PySem.W.plainOver K C = true) (c4 : PySem.W.findIn K (.ref C) "__setattr__" = some (some (.builtin "object.__setattr__")))
    (c5 : PySem.W.findIn K (.ref C) "cuts" = some none) (c6 : PySem.W.findIn K (.ref C) "_counts" = some none) : Ct K mg C := ⟨PySem.W.mg_of X Gn cg, ⟨c1, c2, c3, c4⟩, c5, c6⟩
theorem num_mk {t : Tok} {x : Str} {n : Int} (X : K.In h) (Gn : h.Ns mainGlobals mg) (d : PySem.W.nsIn K mainGlobals x = some (some (.int n t))) : ∃ t, mg x = some (.int n t) := ⟨t, PySem.W.mg_of X Gn d⟩
theorem wt_mk {C aS aL aT : Addr} {t0 t1 t2 t3 t4 t5 u1 u2 u3 u4 u5 u6 u7 u8 : Tok} {dS dL dT : Option Addr} {nS nL nT : Nat} {sS sL sT : Array (Option Value)} (X : K.In h) (Gn : h.Ns mainGlobals mg) (cg : PySem.W.nsIn K mainGlobals "Way" = some (some (.ref C)))
    (c1 : PySem.W.plainGet K C Str.empty = true) (c2 : PySem.W.hasDictIn K C = true) (c3 : PySem.W.plainOver K C = true) (c4 : PySem.W.findIn K (.ref C) "__setattr__" = some (some (.builtin "object.__setattr__")))
    (c5 : PySem.W.findIn K (.ref C) "head" = some none) (c6 : PySem.W.findIn K (.ref C) "steps" = some none) (c7 : PySem.W.findIn K (.ref C) "depth" = some none) (c8 : PySem.W.findIn K (.ref C) "size" = some none)
    (iA : PySem.W.findIn K (.ref C) "__class__" = some (some (.builtin "object.__class__"))) (iN : PySem.W.specialIn K (.builtin "object.__class__") "__get__" = some (some (.builtin "getset_descriptor.__get__"))) (iT : PySem.W.takesIn K (.builtin "object.__class__") = some true) (iM : PySem.W.mroIn K C (.type "object") = some true)
    (d0 : PySem.W.nsIn K mainGlobals "GREATEST_HEAD" = some (some (.int 40 t0))) (d1 : PySem.W.nsIn K mainGlobals "GREATEST_ROAD" = some (some (.int 1000 t1))) (d2 : PySem.W.nsIn K mainGlobals "GREATEST_MOST" = some (some (.int 1000000000000 t2))) (d3 : PySem.W.nsIn K mainGlobals "MOST_STEPS" = some (some (.int 12 t3))) (d4 : PySem.W.nsIn K mainGlobals "GREATEST_DEPTH" = some (some (.int 3 t4))) (d5 : PySem.W.nsIn K mainGlobals "GREATEST_SIZE" = some (some (.int 40 t5)))
    (e1 : PySem.W.nsIn K mainGlobals "SEALED_WORDS" = some (some (.ref aS))) (f1 : K.lookup aS = some ⟨.type "tuple", dS, .seq [Value.str "tell" u1, .str "drop" u2].toArray nS, sS⟩)
    (e2 : PySem.W.nsIn K mainGlobals "LOOSE_WORDS" = some (some (.ref aL))) (f2 : K.lookup aL = some ⟨.type "tuple", dL, .seq [Value.str "cut" u3, .str "tell" u4, .str "drop" u5].toArray nL, sL⟩)
    (e3 : PySem.W.nsIn K mainGlobals "TELLS_WORDS" = some (some (.ref aT))) (f3 : K.lookup aT = some ⟨.type "tuple", dT, .seq [Value.str "turn" u6, .str "keep" u7, .str "lose" u8].toArray nT, sT⟩)     : WP.Wt K mg C :=
  ⟨PySem.W.mg_of X Gn cg, ⟨c1, c2, c3, c4⟩, c5, c6, c7, c8, iA, iN, iT, iM, ⟨_, PySem.W.mg_of X Gn d0⟩, ⟨_, PySem.W.mg_of X Gn d1⟩, ⟨_, PySem.W.mg_of X Gn d2⟩, ⟨_, PySem.W.mg_of X Gn d3⟩, ⟨_, PySem.W.mg_of X Gn d4⟩, ⟨_, PySem.W.mg_of X Gn d5⟩,
    ⟨_, PySem.W.mg_of X Gn e1, words_of f1 (by decide) (.cons ⟨_, rfl⟩ (.cons ⟨_, rfl⟩ .nil))⟩, ⟨_, PySem.W.mg_of X Gn e2, words_of f2 (by decide) (.cons ⟨_, rfl⟩ (.cons ⟨_, rfl⟩ (.cons ⟨_, rfl⟩ .nil)))⟩, ⟨_, PySem.W.mg_of X Gn e3, words_of f3 (by decide) (.cons ⟨_, rfl⟩ (.cons ⟨_, rfl⟩ (.cons ⟨_, rfl⟩ .nil)))⟩⟩
end
theorem all_mk {l : PySem.W.OpenLaw} {w : World} {K : PySem.W.Frag} {h : Heap} {mg : Str → Option Value} {fa C CW fIn fIw fAw fO fPc fT fBd fA fLaw : Addr} {dIn dIw dAw dO dPc dT dBd dA dLaw : FuncData} (X : K.In h) (Gn : h.Ns mainGlobals mg) (hfa : mg "law" = some (.ref fa)) (B : Bn mg) (hsum : mg "sum" = none) (T : Ct K mg C) (gC : ∃ t, mg "GREATEST_CUT" = some (.int 1000 t)) (gB : ∃ t, mg "GREATEST_BODY" = some (.int 1000000000000000000 t)) (TW : WP.Wt K mg CW) (sfC : PySem.W.selfFirst K C = true) (sfW : PySem.W.selfFirst K CW = true)
    (z_I : Fa K mg "is_integer" "is_integer" sInteger ["value"])
    (z_W : Fa K mg "is_within" "is_within" sWithin ["value", "least", "greatest"])
    (z_ar : Fa K mg "_are_cuts" "_are_cuts" sAreCuts ["value"])
    (z_co : Fa K mg "_piece_counts" "_piece_counts" sCounts ["cuts"])
    (z_pi : Fa K mg "_pieces" "_pieces" sPieces ["body", "cuts", "counts"])
    (z_ls : Fa K mg "_law_source" "_law_source" S.sSource ["script", "start"])
    (z_ld : Fa K mg "_law_draw" "_law_draw" S.sDraw ["source", "span"])
    (z_lp : Fa K mg "_law_pick" "_law_pick" S.sPick ["source", "items"])
    (z_lf : Fa K mg "_law_falling" "_law_falling" sLFall ["cuts"])
    (w_B : WP.Fd K mg "is_body" WP.sBody ["value"])
    (w_wk : WP.Fd K mg "_walked" WP.sWalked ["way", "body", "sealed"])
    (w_se : WP.Fd K mg "_seen_from_way" WP.sSeen ["fate", "position"])
    (w_bs : WP.Fd K mg "_behind_step" WP.sBStep ["way", "step", "stretches", "sealed"])
    (w_br : WP.Fd K mg "_behind_road" WP.sBRoad ["way", "step", "stretches", "sealed"])
    (w_pa : WP.Fd K mg "_parts" WP.sParts ["stretch", "carried"])
    (w_bj : WP.Fd K mg "_behind_join" WP.sBJoin ["step", "stretches"])
    (w_bt : WP.Fd K mg "_behind_tunnel" WP.sBTun ["way", "step", "stretches", "sealed"])
    (w_tu : WP.Fd K mg "_turned" WP.sTurned ["fate", "inner", "tells"])
    (w_li : WP.Fd K mg "is_step_list" WP.sList ["value"])
    (w_st : WP.Fd K mg "_is_step" WP.sStep ["value", "head"])
    (w_rd : WP.Fd K mg "is_road" WP.sRoad ["size", "sealed", "loose", "least"])
    (w_tl : WP.Fd K mg "is_tells" WP.sTells ["value"])
    (w_mo : WP.Fd K mg "is_most" WP.sMost ["value"])
    (w_hd : WP.Fd K mg "is_head" WP.sHead ["value"])
    (z_wk : Fwk K mg "walk" WP.sWalk) (z_ps : Fwk K mg "passed" WP.sPassed)
    (MI : Mk K C fIn) (FIn : Fun K "__init__" "Chain.__init__" sCInit fIn dIn) (MIw : Mk K CW fIw) (FIw : Fun K "__init__" "Way.__init__" WP.sInit fIw dIw)
    (mPc : Meth K C "pieces" fPc) (FPc : Fun K "pieces" "Chain.pieces" sCPieces fPc dPc)
    (mT : Meth K C "parted" fT) (FT : Fun K "parted" "Chain.parted" sCPart fT dT)
    (mBd : Meth K C "_boundary" fBd) (FBd : Fun K "_boundary" "Chain._boundary" sCBoundary fBd dBd)
    (oA : WO.Own K C fA "__add__") (FA : Fun K "__add__" "Chain.__add__" sCAdd fA dA) 
    (oAw : WO.Own K CW fAw "__add__") (FAw : Fun K "__add__" "Way.__add__" WP.sAdd fAw dAw) (mO : Meth K CW "without" fO) (FO : Fun K "without" "Way.without" WP.sWithout fO dO)
    (aL : PySem.W.nsIn K mainGlobals "law" = some (some (.ref fLaw))) (FLaw : Fun K "law" "law" sLaw fLaw dLaw) :
    ∃ fd : FuncData, (∀ (s : Shared) (u : Value), BindsTo s fd ⟨[u], []⟩ [("script", u)]) ∧ ∀ base : Heap, K.In base → base.Ns mainGlobals mg → G.Ok l.prog w K mg base CX0 14 fa fd ["script"] (spLaw K) := by
  have e := hfa.symm.trans (PySem.W.mg_of X Gn aL)
  cases e
  refine ⟨dLaw, ?_, fun base _ _ => ?_⟩
  · obtain ⟨_, _, _, _, _, _, _, _, _, rfl, _, _⟩ := FLaw.ex
    exact fun s u => .of_eq rfl
  have DI : Df l.prog w K mg base 1 "is_integer" ["value"] spInteger := z_I.df fun f fd F => ok_integer F B
  have DW : Df l.prog w K mg base 2 "is_within" ["value", "least", "greatest"] spWithin := z_W.df fun f fd F => ok_within F DI
  have DP : Df l.prog w K mg base 1 "_pieces" ["body", "cuts", "counts"] (spPieces K) := z_pi.df fun f fd F => ok_pieces F B
  have DC : Df l.prog w K mg base 2 "_piece_counts" ["cuts"] (spCounts K) := z_co.df fun f fd F => ok_counts F B DP
  have DA : Df l.prog w K mg base 3 "_are_cuts" ["value"] spAre := z_ar.df fun f fd F => ok_are F B gC DW
  have MW : Mw l.prog w K mg base C := ⟨fIn, dIn, ok_cinit FIn B T DA DC, MI, FIn.binds fun _ _ _ _ _ _ us hl => match us, hl with | [_, _], _ => rfl⟩
  have MP : Me l.prog w K mg base C 2 "pieces" ["self", "body"] (spCPieces C) := ⟨fPc, dPc, ok_cpieces FPc T DP, mPc, FPc.binds fun _ _ _ _ _ _ us hl => match us, hl with | [_, _], _ => rfl⟩
  have MB : Me l.prog w K mg base C 1 "_boundary" ["self", "number"] (spCBound C) := ⟨fBd, dBd, ok_cbound FBd B T, mBd, FBd.binds fun _ _ _ _ _ _ us hl => match us, hl with | [_, _], _ => rfl⟩
  have MT : Mg l.prog w K mg base C 3 "parted" ["self", "body"] (spCPart0 C) := ⟨fT, dT, ok_cpart0 FT B T MP MB, mT, FT.binds fun _ _ _ _ _ _ us hl => match us, hl with | [_, _], _ => rfl⟩
  have DAd : Oq l.prog w K mg base C 6 "__add__" ["self", "other"] (spCAdd C) := ⟨fA, dA, ok_cadd FA B T gC MW, oA, FA.binds fun _ _ _ _ _ _ us hl => match us, hl with | [_, _], _ => rfl⟩
  have Bi : S.Bi mg := ⟨B.int, B.len⟩
  have DU : Df l.prog w K mg base 1 "_law_source" ["script", "start"] (S.spSource K) := z_ls.df fun f fd F => S.ok_source F Bi
  have DR : Df l.prog w K mg base 1 "_law_draw" ["source", "span"] S.spDraw := z_ld.df fun f fd F => S.ok_draw F Bi
  obtain ⟨fR, fdR, FR, gR, kR, bR⟩ := z_ld.ex
  have DPk : Df l.prog w K mg base 2 "_law_pick" ["source", "items"] (S.spPick K) := z_lp.df fun f fd F => S.ok_pick F Bi FR gR bR
  have DFl : Df l.prog w K mg base 1 "_law_falling" ["cuts"] spFl := z_lf.df fun f fd F => ok_fl F
  -- ways
  have BW : WP.Bn mg := ⟨B.isi, B.bool, B.int, B.tuple, B.list, B.len, B.enum, B.max, hsum⟩
  obtain ⟨fN, fdN, FN, gN, kN, bN⟩ := z_I.ex
  obtain ⟨fW, fdW, FW, gW, kW, bW⟩ := z_W.ex
  obtain ⟨tB, gB⟩ := gB
  obtain ⟨tM, gM⟩ := TW.gMost
  have W0 : WP.Wi l.prog w K mg base fW fdW := ⟨WP.ok_within FW BW FN gN bN, gW, kW, bW⟩
  have EW : WP.Df l.prog w K mg base 2 "is_within" ["value", "least", "greatest"] WP.spWithin := ⟨fW, fdW, W0.ok, gW, kW, bW⟩
  have EB : WP.Df l.prog w K mg base 3 "is_body" ["value"] (WP.spIn1 0 1000000000000000000) := w_B.df fun f fd F => WP.ok_body F W0 gB
  have EM : WP.Df l.prog w K mg base 3 "is_most" ["value"] (WP.spIn1 1 1000000000000) := w_mo.df fun f fd F => WP.ok_most F W0 gM
  have ERd : WP.Df l.prog w K mg base 3 "is_road" ["size", "sealed", "loose", "least"] WP.spRoad := w_rd.df fun f fd F => WP.ok_road F TW EW
  have ETn : WP.Df l.prog w K mg base 1 "is_tells" ["value"] WP.spTells := w_tl.df fun f fd F => WP.ok_tells F TW
  obtain ⟨tH, gH⟩ := TW.gHead
  have EHd : WP.Df l.prog w K mg base 3 "is_head" ["value"] (WP.spIn1 1 40) := w_hd.df fun f fd F => WP.ok_head F W0 gH
  have ELi : WP.Df l.prog w K mg base 1 "is_step_list" ["value"] (WP.spList K) := w_li.df fun f fd F => WP.ok_list F BW TW
  have ESt : WP.Df l.prog w K mg base 5 "_is_step" ["value", "head"] (WP.spStep CW) := w_st.df fun f fd F => WP.ok_step F BW TW ERd EM ETn
  have MWw : WP.Mw l.prog w K mg base CW := ⟨fIw, dIw, WP.ok_init FIw BW TW EHd ELi ESt, MIw, FIw.binds fun _ _ _ _ _ _ us hl => match us, hl with | [_, _, _], _ => rfl⟩
  have Zw : WP.Walkers K mg := ⟨w_pa, w_br, w_bj, w_tu, w_se, w_bt, w_bs, w_wk, B.range, B.min⟩
  have EWd : WP.Df l.prog w K mg base 10 "_walked" ["way", "body", "sealed"] (WP.spWalked CW 3) := WP.df_walked BW TW Zw 3 (by decide)
  have DWk : Dwk l.prog w K mg base 11 "walk" ["way", "body", "sealed"] (WP.spWalk CW) := by
    obtain ⟨f, fd, h1, h2, h3⟩ := z_wk.ex
    exact ⟨f, fd, WP.ok_walk h1 EWd EB, h2, h1.kp, h3⟩
  have DPs : Dps l.prog w K mg base 10 "passed" ["way", "body", "sealed"] (WP.spPassed CW) := by
    obtain ⟨f, fd, h1, h2, h3⟩ := z_ps.ex
    exact ⟨f, fd, WP.ok_passed h1 BW TW (WP.df_step BW TW Zw) EB, h2, h1.kp, h3⟩
  have DAw : Oq l.prog w K mg base CW 8 "__add__" ["self", "other"] (WP.spAddW CW) := ⟨fAw, dAw, WP.ok_add FAw TW MWw, oAw, FAw.binds fun _ _ _ _ _ _ us hl => match us, hl with | [_, _], _ => rfl⟩
  have MO : Me l.prog w K mg base CW 8 "without" ["self", "position"] (WP.spOutW CW) := ⟨fO, dO, WP.ok_out FO BW TW MWw EW, mO, FO.binds fun _ _ _ _ _ _ us hl => match us, hl with | [_, _], _ => rfl⟩
  exact ok_law (sfC := sfC) (sfW := sfW) FLaw B T TW MW MWw MT DU DR DPk DFl DAd DAw MO DWk DPs
end CP

end
section
open PySem PySem.W PyProof.Rows
set_option Elab.async false
set_option pp.deepTerms false
set_option pp.maxSteps 60
set_option maxRecDepth 100000 in
set_option maxHeartbeats 0 in
theorem PySem.Challenge.cw_roadsizes_k08_whole_roads_part_as_chains_holds : PySem.Challenge.rw_roadsizes_k08_whole_roads_part_as_chains.Holds := by
  w_on; o_law; k_head; (case hw => w_witness2)
  k_fill
  refine G.walk (l := PySem.Challenge.rw_roadsizes_k08_whole_roads_part_as_chains) (n := 63) (k := 14) (sp := CP.spLaw) (x := "script") rfl (by decide) rfl ⟨rfl, by decide, by decide⟩ (fun w h Y => PySem.W.kIn_of Y) ?F (fun K H a ns hl hb hS => ⟨a, ns, rfl, hS, hl, hb, fun _ => rfl⟩)
  case F =>
    intro w mg fa h KX hNs hmg
    refine' CP.all_mk KX hNs hmg (CP.bn_mk KX hNs ?y0 ?y1 ?y2 ?y3 ?y4 ?y5 ?y6 ?y7 ?y8 ?y9 ?y10 ?y11 ?y12) (CP.sum_mk KX hNs ?y13) (CP.ct_mk KX hNs ?cg ?c1 ?c2 ?c3 ?c4 ?c5 ?c6) (CP.num_mk KX hNs ?d0) (CP.num_mk KX hNs ?d1)
      (CP.wt_mk KX hNs ?wcg ?wc1 ?wc2 ?wc3 ?wc4 ?wc5 ?wc6 ?wc7 ?wc8 ?wiA ?wiN ?wiT ?wiM ?wd0 ?wd1 ?wd2 ?wd3 ?wd4 ?wd5 ?we1 ?wf1 ?we2 ?wf2 ?we3 ?wf3) ?sf1 ?sf2
      (CP.fd_I KX hNs ?aI (L2.fun_mk (st := CP.sInteger) ?lI ?oI ?kI))
      (CP.fd_W KX hNs ?aW (L2.fun_mk (st := CP.sWithin) ?lW ?oW ?kW))
      (CP.fd_ar KX hNs ?aar (L2.fun_mk (st := CP.sAreCuts) ?lar ?oar ?kar))
      (CP.fd_co KX hNs ?aco (L2.fun_mk (st := CP.sCounts) ?lco ?oco ?kco))
      (CP.fd_pi KX hNs ?api (L2.fun_mk (st := CP.sPieces) ?lpi ?opi ?kpi))
      (CP.fd_ls KX hNs ?als (L2.fun_mk (st := S.sSource) ?lls ?ols ?kls))
      (CP.fd_ld KX hNs ?ald (L2.fun_mk (st := S.sDraw) ?lld ?old ?kld))
      (CP.fd_lp KX hNs ?alp (L2.fun_mk (st := S.sPick) ?llp ?olp ?klp))
      (CP.fd_lf KX hNs ?alf (L2.fun_mk (st := CP.sLFall) ?llf ?olf ?klf))
      (CP.fw_B KX hNs ?waB (L2.fun_mk (st := WP.sBody) ?lwB ?owB ?kwB))
      (CP.fw_wk KX hNs ?wawk (L2.fun_mk (st := WP.sWalked) ?lwwk ?owwk ?kwwk))
      (CP.fw_se KX hNs ?wase (L2.fun_mk (st := WP.sSeen) ?lwse ?owse ?kwse))
      (CP.fw_bs KX hNs ?wabs (L2.fun_mk (st := WP.sBStep) ?lwbs ?owbs ?kwbs))
      (CP.fw_br KX hNs ?wabr (L2.fun_mk (st := WP.sBRoad) ?lwbr ?owbr ?kwbr))
      (CP.fw_pa KX hNs ?wapa (L2.fun_mk (st := WP.sParts) ?lwpa ?owpa ?kwpa))
      (CP.fw_bj KX hNs ?wabj (L2.fun_mk (st := WP.sBJoin) ?lwbj ?owbj ?kwbj))
      (CP.fw_bt KX hNs ?wabt (L2.fun_mk (st := WP.sBTun) ?lwbt ?owbt ?kwbt))
      (CP.fw_tu KX hNs ?watu (L2.fun_mk (st := WP.sTurned) ?lwtu ?owtu ?kwtu))
      (CP.fw_li KX hNs ?wali (L2.fun_mk (st := WP.sList) ?lwli ?owli ?kwli))
      (CP.fw_st KX hNs ?wast (L2.fun_mk (st := WP.sStep) ?lwst ?owst ?kwst))
      (CP.fw_rd KX hNs ?ward (L2.fun_mk (st := WP.sRoad) ?lwrd ?owrd ?kwrd))
      (CP.fw_tl KX hNs ?watl (L2.fun_mk (st := WP.sTells) ?lwtl ?owtl ?kwtl))
      (CP.fw_mo KX hNs ?wamo (L2.fun_mk (st := WP.sMost) ?lwmo ?owmo ?kwmo))
      (CP.fw_hd KX hNs ?wahd (L2.fun_mk (st := WP.sHead) ?lwhd ?owhd ?kwhd))
      (CP.fk_wk KX hNs ?awkW ?lwkW ?owkW ?kwkW ?nwkW)
      (CP.fk_ps KX hNs ?apsW ?lpsW ?opsW ?kpsW ?npsW)
      ⟨?i1, ?i2, ?i3, ?i4⟩ (L2.fun_mk (st := CP.sCInit) ?lIn ?oIn ?kIn) ⟨?j1, ?j2, ?j3, ?j4⟩ (L2.fun_mk (st := WP.sInit) ?lJn ?oJn ?kJn)
      ⟨?maPc, ?mfPc, ?mkPc⟩ (L2.fun_mk (st := CP.sCPieces) ?lmPc ?omPc ?kmPc)
      ⟨?maT, ?mfT, ?mkT⟩ (L2.fun_mk (st := CP.sCPart) ?lmT ?omT ?kmT)
      ⟨?maBd, ?mfBd, ?mkBd⟩ (L2.fun_mk (st := CP.sCBoundary) ?lmBd ?omBd ?kmBd)
      ⟨?oaA, ?ofA⟩ (L2.fun_mk (st := CP.sCAdd) ?lqA ?oqA ?kqA)
      ⟨?oaw, ?ofw⟩ (L2.fun_mk (st := WP.sAdd) ?lAw ?oAw ?kAw) ⟨?mao, ?mfo, ?mko⟩ (L2.fun_mk (st := WP.sWithout) ?lOw ?oOw ?kOw)
      ?aLaw (L2.fun_mk (st := CP.sLaw) ?lLaw ?oLaw ?kLaw)
    (case y0 => k_is)
    (case y1 => k_is)
    (case y2 => k_is)
    (case y3 => k_is)
    (case y4 => k_is)
    (case y5 => k_is)
    (case y6 => k_is)
    (case y7 => k_is)
    (case y8 => k_is)
    (case y9 => k_is)
    (case y10 => k_is)
    (case y11 => k_is)
    (case y12 => k_is)
    (case y13 => k_is)
    (case cg => k_is)
    (case c1 => k_is)
    (case c2 => k_is)
    (case c3 => k_is)
    (case c4 => k_is)
    (case c5 => k_is)
    (case c6 => k_is)
    (case d0 => k_is)
    (case d1 => k_is)
    (case wcg => k_is)
    (case wc1 => k_is)
    (case wc2 => k_is)
    (case wc3 => k_is)
    (case wc4 => k_is)
    (case wc5 => k_is)
    (case wc6 => k_is)
    (case wc7 => k_is)
    (case wc8 => k_is)
    (case wiA => k_is)
    (case wiN => k_is)
    (case wiT => k_is)
    (case wiM => k_is)
    (case wd0 => k_is)
    (case wd1 => k_is)
    (case wd2 => k_is)
    (case wd3 => k_is)
    (case wd4 => k_is)
    (case wd5 => k_is)
    (case we1 => k_is)
    (case wf1 => k_is)
    (case we2 => k_is)
    (case wf2 => k_is)
    (case we3 => k_is)
    (case wf3 => k_is)
    (case sf1 => k_is)
    (case sf2 => k_is)
    (case aI => k_is)
    (case lI => k_is)
    (case oI => k_is)
    (case kI => k_is)
    (case aW => k_is)
    (case lW => k_is)
    (case oW => k_is)
    (case kW => k_is)
    (case aar => k_is)
    (case lar => k_is)
    (case oar => k_is)
    (case kar => k_is)
    (case aco => k_is)
    (case lco => k_is)
    (case oco => k_is)
    (case kco => k_is)
    (case api => k_is)
    (case lpi => k_is)
    (case opi => k_is)
    (case kpi => k_is)
    (case als => k_is)
    (case lls => k_is)
    (case ols => k_is)
    (case kls => k_is)
    (case ald => k_is)
    (case lld => k_is)
    (case old => k_is)
    (case kld => k_is)
    (case alp => k_is)
    (case llp => k_is)
    (case olp => k_is)
    (case klp => k_is)
    (case alf => k_is)
    (case llf => k_is)
    (case olf => k_is)
    (case klf => k_is)
    (case waB => k_is)
    (case lwB => k_is)
    (case owB => k_is)
    (case kwB => k_is)
    (case wawk => k_is)
    (case lwwk => k_is)
    (case owwk => k_is)
    (case kwwk => k_is)
    (case wase => k_is)
    (case lwse => k_is)
    (case owse => k_is)
    (case kwse => k_is)
    (case wabs => k_is)
    (case lwbs => k_is)
    (case owbs => k_is)
    (case kwbs => k_is)
    (case wabr => k_is)
    (case lwbr => k_is)
    (case owbr => k_is)
    (case kwbr => k_is)
    (case wapa => k_is)
    (case lwpa => k_is)
    (case owpa => k_is)
    (case kwpa => k_is)
    (case wabj => k_is)
    (case lwbj => k_is)
    (case owbj => k_is)
    (case kwbj => k_is)
    (case wabt => k_is)
    (case lwbt => k_is)
    (case owbt => k_is)
    (case kwbt => k_is)
    (case watu => k_is)
    (case lwtu => k_is)
    (case owtu => k_is)
    (case kwtu => k_is)
    (case wali => k_is)
    (case lwli => k_is)
    (case owli => k_is)
    (case kwli => k_is)
    (case wast => k_is)
    (case lwst => k_is)
    (case owst => k_is)
    (case kwst => k_is)
    (case ward => k_is)
    (case lwrd => k_is)
    (case owrd => k_is)
    (case kwrd => k_is)
    (case watl => k_is)
    (case lwtl => k_is)
    (case owtl => k_is)
    (case kwtl => k_is)
    (case wamo => k_is)
    (case lwmo => k_is)
    (case owmo => k_is)
    (case kwmo => k_is)
    (case wahd => k_is)
    (case lwhd => k_is)
    (case owhd => k_is)
    (case kwhd => k_is)
    (case awkW => k_is)
    (case lwkW => k_is)
    (case owkW => k_is)
    (case kwkW => k_is)
    (case nwkW => k_is)
    (case apsW => k_is)
    (case lpsW => k_is)
    (case opsW => k_is)
    (case kpsW => k_is)
    (case npsW => k_is)
    (case i1 => k_is)
    (case i2 => k_is)
    (case i3 => k_is)
    (case i4 => k_is)
    (case lIn => k_is)
    (case oIn => k_is)
    (case kIn => k_is)
    (case j1 => k_is)
    (case j2 => k_is)
    (case j3 => k_is)
    (case j4 => k_is)
    (case lJn => k_is)
    (case oJn => k_is)
    (case kJn => k_is)
    (case maPc => k_is)
    (case mfPc => k_is)
    (case mkPc => k_is)
    (case lmPc => k_is)
    (case omPc => k_is)
    (case kmPc => k_is)
    (case maT => k_is)
    (case mfT => k_is)
    (case mkT => k_is)
    (case lmT => k_is)
    (case omT => k_is)
    (case kmT => k_is)
    (case maBd => k_is)
    (case mfBd => k_is)
    (case mkBd => k_is)
    (case lmBd => k_is)
    (case omBd => k_is)
    (case kmBd => k_is)
    (case oaA => k_is)
    (case ofA => k_is)
    (case lqA => k_is)
    (case oqA => k_is)
    (case kqA => k_is)
    (case oaw => k_is)
    (case ofw => k_is)
    (case lAw => k_is)
    (case oAw => k_is)
    (case kAw => k_is)
    (case mao => k_is)
    (case mfo => k_is)
    (case mko => k_is)
    (case lOw => k_is)
    (case oOw => k_is)
    (case kOw => k_is)
    (case aLaw => k_is)
    (case lLaw => k_is)
    (case oLaw => k_is)
    (case kLaw => k_is)

end
