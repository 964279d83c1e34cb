import PyProof.Rows.All
import Wide.All
import OpenK.AllK
import Wide.FinOn
import HandS.ForMost
import HandS.EndBits
import HandS.Wide
import PyProof.ReprRoads
import HandS.SortKw
import KE.DataMinMax
import HandS.IsInst
import HandS.More
import KE.GoesEnum
import HandS.Walk
import HandS.Flow
import HandS.OwnEq
import HandS.SetFor
import HandS.Strs
import HandS.Zip
import HandS.Star
import HandS.TupAny
import HandS.GenList
import HandS.Style
import KE.KRevSl
import PyProof.ReprBulk
import KE.KDictZip
import PyProof.NeKinds
import KE.KStateDown
import HandS.Defaults
import HandS.Head0
import HandS.Head1
import HandS.Head2
import HandS.HeadEnd
import HandS.HeadHook1
import HandS.HeadHook2
import PySem.Challenge.RW_roadsizes_k41_whole_ways_alike
section
set_option autoImplicit false
/-! ## chains: what the numbers do -/
namespace N
/-- the pieces of a body -/
def L : List Nat → Nat → Nat
  | [], _ => 1
  | c :: r, b => b / c * L r c + (if b % c = 0 then 0 else L r (b % c))
/-- the boundary with a number -/
def B : List Nat → Nat → Nat
  | [], _ => 0
  | c :: r, n => n / L r c * c + B r (n % L r c)
/-- the rest of a place -/
def rem : List Nat → Nat → Nat
  | [], p => p
  | c :: r, p => rem r (p % c)
def dig : List Nat → Nat → List Nat
  | [], p => [p]
  | c :: r, p => p / c :: dig r (p % c)
theorem L_cons (c : Nat) (r : List Nat) (b : Nat) : L (c :: r) b = b / c * L r c + (if b % c = 0 then 0 else L r (b % c)) := by conv => lhs; unfold L
theorem B_cons (c : Nat) (r : List Nat) (n : Nat) : B (c :: r) n = n / L r c * c + B r (n % L r c) := by conv => lhs; unfold B
theorem rem_cons (c : Nat) (r : List Nat) (p : Nat) : rem (c :: r) p = rem r (p % c) := by conv => lhs; unfold rem
/-- cuts: falling, none of them 0 -/
def Fall : List Nat → Prop
  | [] => True
  | c :: r => 0 < c ∧ (∀ d ∈ r, d < c) ∧ Fall r
theorem Fall.pos : ∀ {l : List Nat}, Fall l → ∀ d ∈ l, 0 < d
  | [], _, d, h => by cases h
  | c :: r, f, d, h => by
    rcases List.mem_cons.mp h with e | e
    · rw [e]; exact f.1
    · exact f.2.2.pos d e
theorem L_pos : ∀ (l : List Nat), Fall l → ∀ b, 0 < b → 0 < L l b
  | [], _, b, _ => by unfold L; omega
  | c :: r, f, b, hb => by
    unfold L
    have h1 := L_pos r f.2.2 c f.1
    by_cases h : b % c = 0
    · rw [if_pos h]
      have h2 : 0 < b / c := Nat.div_pos (Nat.le_of_dvd hb (Nat.dvd_of_mod_eq_zero h)) f.1
      exact Nat.lt_of_lt_of_le (Nat.mul_pos h2 h1) (Nat.le_add_right _ _)
    · rw [if_neg h]
      have h2 := L_pos r f.2.2 (b % c) (by omega)
      omega
theorem B_zero : ∀ l : List Nat, B l 0 = 0
  | [] => rfl
  | c :: r => by
    unfold B
    rw [Nat.zero_div, Nat.zero_mod, B_zero r, Nat.zero_mul]
theorem rem_zero : ∀ l : List Nat, rem l 0 = 0
  | [] => rfl
  | c :: r => by
    unfold rem
    rw [Nat.zero_mod, rem_zero r]
/-- two numbers in parts: which one is less -/
theorem parts_lt {q j Q R c : Nat} (hj : j < c) (hR : R < c) : q * c + j < Q * c + R ↔ q < Q ∨ (q = Q ∧ j < R) := by
  constructor
  · intro h
    rcases Nat.lt_trichotomy q Q with a | a | a
    · exact .inl a
    · subst a
      exact .inr ⟨rfl, by omega⟩
    · have := Nat.mul_le_mul_right c a
      rw [Nat.succ_mul] at this
      omega
  · rintro (a | ⟨rfl, a⟩)
    · have := Nat.mul_le_mul_right c a
      rw [Nat.succ_mul] at this
      omega
    · omega
/-- the boundaries below a body are one less than its pieces -/
theorem below : ∀ (l : List Nat), Fall l → ∀ b, 0 < b → ∀ m, (l = [] → m = 0) → (B l m < b ↔ m < L l b)
  | [], _, b, hb, m, hm => by
    rw [hm rfl]
    unfold B L
    omega
  | c :: r, f, b, hb, m, _ => by
    have hc := f.1
    have hk := L_pos r f.2.2 c hc
    have ih := below r f.2.2
    have hj := Nat.mod_lt m hk
    have hR := Nat.mod_lt b hc
    have e1 := Nat.div_add_mod m (L r c)
    have e2 := Nat.div_add_mod b c
    have nil : r = [] → m % L r c = 0 := fun e => by
      rw [e]
      show m % 1 = 0
      exact Nat.mod_one m
    have hB : B r (m % L r c) < c := (ih c hc _ nil).mpr hj
    -- what is left of the body
    have left : ∀ (x : Nat), x < L r c → (r = [] → x = 0) → (B r x < b % c ↔ x < (if b % c = 0 then 0 else L r (b % c))) := fun x hx hn => by
      by_cases h : b % c = 0
      · rw [if_pos h, h]
        omega
      · rw [if_neg h]
        exact ih (b % c) (by omega) x hn
    have most : (if b % c = 0 then 0 else L r (b % c)) ≤ L r c := by
      by_cases h : b % c = 0
      · rw [if_pos h]
        omega
      · rw [if_neg h]
        cases r with
        | nil => exact Nat.le_refl _
        | cons d s =>
          rcases Nat.lt_or_ge (L (d :: s) c) (L (d :: s) (b % c)) with z | z
          · have q := (ih (b % c) (by omega) (L (d :: s) c) (fun e => by cases e)).mpr z
            have q2 := (ih c hc (L (d :: s) c) (fun e => by cases e)).mp (by omega)
            omega
          · exact z
    have goal : (m / L r c < b / c ∨ (m / L r c = b / c ∧ B r (m % L r c) < b % c)) ↔ (m / L r c < b / c ∨ (m / L r c = b / c ∧ m % L r c < (if b % c = 0 then 0 else L r (b % c)))) := by
      rw [left _ hj nil]
    rw [B_cons, L_cons]
    have h1 := parts_lt (q := m / L r c) (Q := b / c) hB hR
    rw [Nat.mul_comm c] at e2
    rw [e2] at h1
    refine h1.trans (goal.trans ?_)
    generalize hX : (if b % c = 0 then 0 else L r (b % c)) = X at most ⊢
    rw [Nat.mul_comm (L r c)] at e1
    rcases Nat.lt_or_ge X (L r c) with z | z
    · have h2 := parts_lt (q := m / L r c) (Q := b / c) hj z
      rw [e1] at h2
      exact h2.symm
    · have eX : X = L r c := Nat.le_antisymm most z
      rw [eX]
      constructor
      · rintro (a | ⟨a, _⟩)
        · have := Nat.mul_le_mul_right (L r c) a
          rw [Nat.succ_mul] at this
          omega
        · rw [← a]
          omega
      · intro h
        rcases Nat.lt_trichotomy (m / L r c) (b / c) with a | a | a
        · exact .inl a
        · exact .inr ⟨a, hj⟩
        · have := Nat.mul_le_mul_right (L r c) a
          rw [Nat.succ_mul] at this
          omega
/-- boundaries go up -/
theorem up : ∀ (l : List Nat), Fall l → l ≠ [] → ∀ n, B l n < B l (n + 1)
  | [], _, h, _ => absurd rfl h
  | c :: r, f, _, n => by
    have hk := L_pos r f.2.2 c f.1
    have hj := Nat.mod_lt n hk
    have nil : r = [] → n % L r c = 0 := fun e => by
      rw [e]
      show n % 1 = 0
      exact Nat.mod_one n
    have hB : B r (n % L r c) < c := (below r f.2.2 c f.1 _ nil).mpr hj
    have e1 := Nat.div_add_mod n (L r c)
    rw [B_cons, B_cons]
    by_cases h : n % L r c + 1 = L r c
    · have e2 : n + 1 = 0 + L r c * (n / L r c + 1) := by rw [Nat.mul_add]; omega
      have d : (n + 1) / L r c = n / L r c + 1 := by rw [e2, Nat.add_mul_div_left _ _ hk, Nat.zero_div, Nat.zero_add]
      have m : (n + 1) % L r c = 0 := by rw [e2, Nat.add_mul_mod_self_left, Nat.zero_mod]
      rw [d, m, B_zero, Nat.succ_mul]
      omega
    · have e2 : n + 1 = (n % L r c + 1) + L r c * (n / L r c) := by omega
      have d : (n + 1) / L r c = n / L r c := by rw [e2, Nat.add_mul_div_left _ _ hk, Nat.div_eq_of_lt (by omega), Nat.zero_add]
      have m : (n + 1) % L r c = n % L r c + 1 := by rw [e2, Nat.add_mul_mod_self_left, Nat.mod_eq_of_lt (by omega)]
      rw [d, m]
      have hr : r ≠ [] := fun e => h (by rw [e]; show n % 1 + 1 = 1; rw [Nat.mod_one])
      have := up r f.2.2 hr (n % L r c)
      omega
theorem up_lt {l : List Nat} (f : Fall l) (h : l ≠ []) : ∀ {m n : Nat}, m < n → B l m < B l n
  | m, 0, q => absurd q (Nat.not_lt_zero _)
  | m, n + 1, q => by
    rcases Nat.lt_or_ge m n with a | a
    · exact Nat.lt_trans (up_lt f h a) (up l f h n)
    · have e : m = n := by omega
      rw [e]
      exact up l f h n
theorem up_iff {l : List Nat} (f : Fall l) (h : l ≠ []) {m n : Nat} : B l m < B l n ↔ m < n := by
  constructor
  · intro q
    rcases Nat.lt_trichotomy m n with a | a | a
    · exact a
    · rw [a] at q; omega
    · have := up_lt f h a; omega
  · exact up_lt f h
theorem eq_of_lt_iff {a b : Nat} (h : ∀ m, m < a ↔ m < b) : a = b := by
  have h1 := h a
  have h2 := h b
  omega
/-- the boundary with a number has so many up to it -/
theorem L_B {l : List Nat} (f : Fall l) (h : l ≠ []) {n : Nat} (hn : 0 < n) : L l (B l n) = n := by
  have p : 0 < B l n := by
    have := up_lt f h hn
    omega
  refine eq_of_lt_iff fun m => ?_
  rw [← below l f (B l n) p m fun e => absurd e h, up_iff f h]
theorem L_B1 {l : List Nat} (f : Fall l) (h : l ≠ []) {n : Nat} : L l (B l n + 1) = n + 1 := by
  refine eq_of_lt_iff fun m => ?_
  rw [← below l f (B l n + 1) (by omega) m fun e => absurd e h]
  constructor
  · intro q
    rcases Nat.lt_or_ge m (n + 1) with a | a
    · exact a
    · have := up_lt f h (m := n) (n := m) (by omega)
      omega
  · intro q
    rcases Nat.lt_or_ge m n with a | a
    · have := up_lt f h a
      omega
    · have e : m = n := by omega
      rw [e]
      omega
theorem rem_B : ∀ (l : List Nat), Fall l → ∀ n, (l = [] → n = 0) → rem l (B l n) = 0
  | [], _, n, h => by rw [h rfl]; rfl
  | c :: r, f, n, _ => by
    have hk := L_pos r f.2.2 c f.1
    have hj := Nat.mod_lt n hk
    have nil : r = [] → n % L r c = 0 := fun e => by
      rw [e]
      show n % 1 = 0
      exact Nat.mod_one n
    have hB : B r (n % L r c) < c := (below r f.2.2 c f.1 _ nil).mpr hj
    rw [B_cons, rem_cons, Nat.add_comm, Nat.add_mul_mod_self_right, Nat.mod_eq_of_lt hB]
    exact rem_B r f.2.2 _ nil
/-- the first boundary is the least cut -/
theorem B_one : ∀ (l : List Nat), Fall l → ∀ (h : l ≠ []), B l 1 = l.getLast h
  | [], _, h => absurd rfl h
  | [c], _, _ => by
    rw [B_cons]
    show 1 / 1 * c + 0 = c
    omega
  | c :: d :: s, f, _ => by
    have ih := B_one (d :: s) f.2.2 (by simp)
    have lt : (d :: s).getLast (by simp) < c := f.2.1 _ (List.getLast_mem _)
    have k1 : 1 < L (d :: s) c := (below (d :: s) f.2.2 c f.1 1 (fun e => by cases e)).mp (by rw [ih]; exact lt)
    rw [List.getLast_cons (by simp)]
    rw [B_cons, Nat.div_eq_of_lt k1, Nat.mod_eq_of_lt k1, ih]
    omega
theorem last_le : ∀ (l : List Nat), Fall l → ∀ (h : l ≠ []), ∀ d ∈ l, l.getLast h ≤ d
  | [], _, h, _, _ => absurd rfl h
  | [c], _, _, d, hd => by
    have e : d = c := by simpa using hd
    rw [e]
    exact Nat.le_refl _
  | c :: e :: s, f, _, d, hd => by
    rw [List.getLast_cons (by simp)]
    rcases List.mem_cons.mp hd with q | q
    · rw [q]
      exact Nat.le_of_lt (f.2.1 _ (List.getLast_mem _))
    · exact last_le (e :: s) f.2.2 (by simp) d q
theorem L_mono_lt {l : List Nat} (f : Fall l) (h : l ≠ []) {n b : Nat} (hb : B l n < b) : n < L l b := (below l f b (by omega) n fun e => absurd e h).mp hb
end N
namespace N
/-- how many pieces each cut's part makes -/
def cn : List Nat → List Nat
  | [] => []
  | c :: r => L r c :: cn r
theorem cn_len : ∀ l : List Nat, (cn l).length = l.length
  | [] => rfl
  | c :: r => congrArg Nat.succ (cn_len r)
theorem cn_at : ∀ {l : List Nat} {i k : Nat}, (cn l)[i]? = some k → ∃ c, l[i]? = some c ∧ k = L (l.drop (i + 1)) c
  | [], i, k, h => by cases h
  | c :: r, 0, k, h => by
    cases h
    exact ⟨c, rfl, rfl⟩
  | c :: r, i + 1, k, h => by
    obtain ⟨d, a, b⟩ := cn_at (l := r) (i := i) h
    exact ⟨d, a, b⟩
/-- the number of pieces of any body -/
def PC (l : List Nat) (b : Nat) : Nat := if b = 0 then 1 else L l b
def sm : List Nat → Nat → Nat
  | [], _ => 0
  | c :: r, b => b / c * L r c + sm r (b % c)
theorem sm_cons (c : Nat) (r : List Nat) (b : Nat) : sm (c :: r) b = b / c * L r c + sm r (b % c) := by conv => lhs; unfold sm
theorem sm_nil (b : Nat) : sm [] b = 0 := rfl
theorem rem_nil (b : Nat) : rem [] b = b := rfl
theorem sm_zero : ∀ l : List Nat, sm l 0 = 0
  | [] => rfl
  | c :: r => by
    unfold sm
    rw [Nat.zero_div, Nat.zero_mod, Nat.zero_mul, sm_zero r]
theorem L_sm : ∀ (l : List Nat) (b : Nat), 0 < b → L l b = sm l b + (if 0 < rem l b then 1 else 0)
  | [], b, h => by
    unfold L sm rem
    rw [if_pos h]
  | c :: r, b, h => by
    rw [L_cons, rem_cons]
    unfold sm
    by_cases z : b % c = 0
    · rw [if_pos z, z, sm_zero, rem_zero, if_neg (by omega)]
    · rw [if_neg z, L_sm r (b % c) (by omega), Nat.add_assoc]
theorem PC_sm (l : List Nat) (b : Nat) : PC l b = sm l b + (if 0 < rem l b ∨ b = 0 then 1 else 0) := by
  unfold PC
  by_cases h : b = 0
  · rw [if_pos h, if_pos (.inr h), h, sm_zero]
  · rw [if_neg h, L_sm l b (by omega)]
    by_cases z : 0 < rem l b
    · rw [if_pos z, if_pos (.inl z)]
    · rw [if_neg z, if_neg (by omega)]
theorem Fall.drop : ∀ {l : List Nat}, Fall l → ∀ i, Fall (l.drop i)
  | [], _, i => by rw [List.drop_nil]; trivial
  | c :: r, f, 0 => f
  | c :: r, f, i + 1 => f.2.2.drop i
theorem le_B {l : List Nat} (f : Fall l) (h : l ≠ []) : ∀ n, n ≤ B l n
  | 0 => Nat.zero_le _
  | n + 1 => by
    have := le_B f h n
    have := up l f h n
    omega
theorem L_le {l : List Nat} (f : Fall l) {b : Nat} (hb : 0 < b) : L l b ≤ b := by
  cases l with
  | nil => exact hb
  | cons c r =>
    have p := L_pos (c :: r) f b hb
    have q := (below (c :: r) f b hb (L (c :: r) b - 1) fun e => by cases e).mpr (by omega)
    have := le_B f (by simp) (L (c :: r) b - 1)
    omega
theorem dig_rem : ∀ (l : List Nat) (p : Nat), ∃ ds, dig l p = ds ++ [rem l p]
  | [], p => ⟨[], rfl⟩
  | c :: r, p => by
    obtain ⟨ds, e⟩ := dig_rem r (p % c)
    exact ⟨p / c :: ds, by unfold dig; rw [e, rem_cons]; rfl⟩
theorem dig_len : ∀ (l : List Nat) (p : Nat), (dig l p).length = l.length + 1
  | [], p => rfl
  | c :: r, p => congrArg Nat.succ (dig_len r (p % c))
end N
namespace N
theorem fall_snoc : ∀ {l : List Nat} {x : Nat}, Fall l → 0 < x → (∀ d ∈ l, x < d) → Fall (l ++ [x])
  | [], x, _, h, _ => ⟨h, (fun d hd => by cases hd), trivial⟩
  | c :: r, x, f, h, hd => by
    refine ⟨f.1, fun d q => ?_, fall_snoc f.2.2 h fun d q => hd d (List.mem_cons_of_mem _ q)⟩
    rcases List.mem_append.mp q with q | q
    · exact f.2.1 d q
    · rw [List.mem_singleton.mp q]
      exact hd c List.mem_cons_self
end N

end
section
set_option autoImplicit false
set_option linter.all false
namespace N
/-! ## sums of chains, and bodies parted one cut after another -/
def cu (c b : Nat) : List Nat := if h : 0 < c ∧ c < b then c :: cu c (b - c) else [b]
termination_by b
decreasing_by omega
theorem cu_lt {c b : Nat} (h : 0 < c) (h2 : c < b) : cu c b = c :: cu c (b - c) := by
  rw [cu, dif_pos ⟨h, h2⟩]
theorem cu_le {c b : Nat} (h2 : b ≤ c) : cu c b = [b] := by
  rw [cu, dif_neg (by omega)]
def pt : List Nat → List Nat → List Nat
  | [], ss => ss
  | c :: r, ss => pt r (ss.flatMap (cu c))
theorem pt_app : ∀ (l a b : List Nat), pt l (a ++ b) = pt l a ++ pt l b
  | [], a, b => rfl
  | c :: r, a, b => by
    unfold pt
    rw [List.flatMap_append, pt_app r]
theorem pt_cat : ∀ (l m ss : List Nat), pt (l ++ m) ss = pt m (pt l ss)
  | [], m, ss => rfl
  | c :: r, m, ss => pt_cat r m _
theorem pt_lt {c b : Nat} (r : List Nat) (h : 0 < c) (h2 : c < b) : pt (c :: r) [b] = pt r [c] ++ pt (c :: r) [b - c] := by
  show pt r (([b] : List Nat).flatMap (cu c)) = pt r [c] ++ pt r (([b - c] : List Nat).flatMap (cu c))
  rw [← pt_app, List.flatMap_singleton, List.flatMap_singleton, cu_lt h h2]
  rfl
theorem pt_le {c b : Nat} (r : List Nat) (h2 : b ≤ c) : pt (c :: r) [b] = pt r [b] := by
  show pt r (([b] : List Nat).flatMap (cu c)) = pt r [b]
  rw [List.flatMap_singleton, cu_le h2]
theorem cu_mem {c : Nat} (h : 0 < c) : ∀ (b : Nat), ∀ s ∈ cu c b, s ≤ c ∧ s ≤ b ∧ (0 < b → 0 < s) := by
  intro b
  induction b using Nat.strongRecOn with
  | ind b ih =>
    intro s hs
    by_cases h2 : c < b
    · rw [cu_lt h h2] at hs
      rcases List.mem_cons.mp hs with z | z
      · omega
      · have := ih (b - c) (by omega) s z
        omega
    · rw [cu_le (by omega)] at hs
      rw [List.mem_singleton.mp hs]
      omega
theorem cu_sum {c : Nat} (h : 0 < c) : ∀ (b : Nat), (cu c b).sum = b := by
  intro b
  induction b using Nat.strongRecOn with
  | ind b ih =>
    by_cases h2 : c < b
    · rw [cu_lt h h2, List.sum_cons, ih (b - c) (by omega)]
      omega
    · rw [cu_le (by omega)]
      simp
theorem cu_len {c : Nat} (h : 0 < c) (b : Nat) : 0 < (cu c b).length := by
  by_cases h2 : c < b
  · rw [cu_lt h h2]
    simp
  · rw [cu_le (by omega)]
    simp
theorem flat_len {c : Nat} (h : 0 < c) : ∀ ss : List Nat, ss.length ≤ (ss.flatMap (cu c)).length
  | [] => Nat.zero_le _
  | s :: ss => by
    have := flat_len h ss
    have := cu_len h s
    rw [List.flatMap_cons, List.length_append, List.length_cons]
    omega
theorem pt_len : ∀ {l : List Nat}, (∀ c ∈ l, 0 < c) → ∀ ss, ss.length ≤ (pt l ss).length
  | [], _, ss => Nat.le_refl _
  | c :: r, f, ss => Nat.le_trans (flat_len (f c List.mem_cons_self) ss) (pt_len (fun d hd => f d (List.mem_cons_of_mem _ hd)) _)
theorem flat_sum {c : Nat} (h : 0 < c) : ∀ ss : List Nat, (ss.flatMap (cu c)).sum = ss.sum
  | [] => rfl
  | s :: ss => by
    rw [List.flatMap_cons, List.sum_append, cu_sum h, flat_sum h ss, List.sum_cons]
theorem pt_sum : ∀ {l : List Nat}, (∀ c ∈ l, 0 < c) → ∀ ss, (pt l ss).sum = ss.sum
  | [], _, ss => rfl
  | c :: r, f, ss => (pt_sum (fun d hd => f d (List.mem_cons_of_mem _ hd)) _).trans (flat_sum (f c List.mem_cons_self) ss)
theorem pt_bound {m : Nat} : ∀ {l : List Nat}, (∀ c ∈ l, 0 < c) → ∀ ss, (∀ s ∈ ss, s ≤ m) → ∀ s ∈ pt l ss, s ≤ m
  | [], _, ss, h => h
  | c :: r, f, ss, h => pt_bound (l := r) (fun d hd => f d (List.mem_cons_of_mem _ hd)) _ fun s hs => by
    obtain ⟨b, hb, hs⟩ := List.mem_flatMap.mp hs
    have := cu_mem (f c List.mem_cons_self) b s hs
    have := h b hb
    omega
theorem pt_pos : ∀ {l : List Nat}, (∀ c ∈ l, 0 < c) → ∀ ss, (∀ s ∈ ss, 0 < s) → ∀ s ∈ pt l ss, 0 < s
  | [], _, ss, h => h
  | c :: r, f, ss, h => pt_pos (l := r) (fun d hd => f d (List.mem_cons_of_mem _ hd)) _ fun s hs => by
    obtain ⟨b, hb, hs⟩ := List.mem_flatMap.mp hs
    exact (cu_mem (f c List.mem_cons_self) b s hs).2.2 (h b hb)
theorem pt_cuts : ∀ {l : List Nat}, (∀ c ∈ l, 0 < c) → ∀ ss, ∀ c ∈ l, ∀ s ∈ pt l ss, s ≤ c
  | [], _, ss, c, h => by cases h
  | c :: r, f, ss, d, hd => by
    rcases List.mem_cons.mp hd with z | z
    · subst z
      exact pt_bound (l := r) (fun d hd => f d (List.mem_cons_of_mem _ hd)) _ fun s hs => by
        obtain ⟨b, hb, hs⟩ := List.mem_flatMap.mp hs
        exact (cu_mem (f d List.mem_cons_self) b s hs).1
    · exact pt_cuts (l := r) (fun d hd => f d (List.mem_cons_of_mem _ hd)) _ d z
theorem flat_id {c : Nat} : ∀ {ss : List Nat}, (∀ s ∈ ss, s ≤ c) → ss.flatMap (cu c) = ss
  | [], _ => rfl
  | s :: ss, h => by
    rw [List.flatMap_cons, cu_le (h s List.mem_cons_self), flat_id fun t ht => h t (List.mem_cons_of_mem _ ht)]
    rfl
/-- cuts that are not less than all stretches do nothing -/
theorem pt_idle {m : Nat} : ∀ {l : List Nat}, (∀ c ∈ l, 0 < c) → ∀ ss, (∀ s ∈ ss, s ≤ m) → pt l ss = pt (l.filter fun d => decide (d < m)) ss
  | [], _, ss, h => rfl
  | c :: r, f, ss, h => by
    have f2 : ∀ d ∈ r, 0 < d := fun d hd => f d (List.mem_cons_of_mem _ hd)
    by_cases hc : c < m
    · rw [List.filter_cons_of_pos (by simpa using hc)]
      exact pt_idle f2 _ fun s hs => by
        obtain ⟨b, hb, hs⟩ := List.mem_flatMap.mp hs
        have := cu_mem (f c List.mem_cons_self) b s hs
        have := h b hb
        omega
    · rw [List.filter_cons_of_neg (by simpa using hc)]
      show pt r (ss.flatMap (cu c)) = _
      rw [flat_id fun s hs => by have := h s hs; omega]
      exact pt_idle f2 ss h
/-! ### the pieces of a chain, by its boundaries -/
theorem L_lt {c b : Nat} (r : List Nat) (h : 0 < c) (h2 : c < b) : L (c :: r) b = L r c + L (c :: r) (b - c) := by
  obtain ⟨d, rfl⟩ : ∃ d, b = d + c := ⟨b - c, by omega⟩
  rw [Nat.add_sub_cancel, L_cons, L_cons, Nat.add_div_right _ h, Nat.add_mod_right, Nat.succ_mul]
  omega
theorem B_ge {c k : Nat} (r : List Nat) (h : 0 < L r c) (h2 : L r c ≤ k) : B (c :: r) k = c + B (c :: r) (k - L r c) := by
  obtain ⟨d, rfl⟩ : ∃ d, k = d + L r c := ⟨k - L r c, by omega⟩
  rw [Nat.add_sub_cancel, B_cons, B_cons, Nat.add_div_right _ h, Nat.add_mod_right, Nat.succ_mul]
  omega
theorem B_lt {c k : Nat} (r : List Nat) (h2 : k < L r c) : B (c :: r) k = B r k := by
  rw [B_cons, Nat.div_eq_of_lt h2, Nat.mod_eq_of_lt h2]
  omega
theorem L_le1 {c b : Nat} {r : List Nat} (h0 : 0 < b) (h : b ≤ c) : L (c :: r) b = L r b := by
  rw [L_cons]
  by_cases e : b = c
  · subst e
    rw [Nat.div_self h0, Nat.mod_self, if_pos rfl]
    omega
  · rw [Nat.div_eq_of_lt (by omega), Nat.mod_eq_of_lt (by omega), if_neg (by omega)]
    omega
theorem pt_L : ∀ (l : List Nat), Fall l → ∀ b, 0 < b → (pt l [b]).length = L l b ∧ ∀ k, k < L l b → ((pt l [b]).take k).sum = B l k
  | [], _, b, hb => ⟨rfl, fun k hk => by
    have : k = 0 := by
      have : k < 1 := hk
      omega
    subst this
    rfl⟩
  | c :: r, f, b, hb => by
    induction b using Nat.strongRecOn with
    | ind b ih =>
      by_cases h : c < b
      · obtain ⟨a1, a2⟩ := pt_L r f.2.2 c f.1
        have c0 := f.1
        obtain ⟨b1, b2⟩ := ih (b - c) (by omega) (by omega)
        have lp := L_pos r f.2.2 c f.1
        rw [pt_lt r f.1 h, L_lt r f.1 h]
        refine ⟨by rw [List.length_append, a1, b1], fun k hk => ?_⟩
        rw [List.take_append, a1, List.sum_append]
        by_cases hk2 : k < L r c
        · rw [a2 k hk2, B_lt r hk2, show k - L r c = 0 by omega]
          simp
        · rw [List.take_of_length_le (by omega), pt_sum f.2.2.pos, b2 (k - L r c) (by omega), B_ge (k := k) r lp (by omega)]
          simp
      · obtain ⟨a1, a2⟩ := pt_L r f.2.2 b hb
        rw [pt_le r (by omega), L_le1 hb (by omega)]
        refine ⟨a1, fun k hk => ?_⟩
        rw [a2 k hk, B_lt r]
        by_cases e : b = c
        · rw [← e]
          exact hk
        · by_cases hr : r = []
          · rw [hr] at hk ⊢
            exact hk
          · have q := (below r f.2.2 b hb k fun e => absurd e hr).mpr hk
            exact L_mono_lt f.2.2 hr (by omega)
theorem pt_at {l : List Nat} (f : Fall l) {b i : Nat} (hb : 0 < b) (h : i < L l b) : ∃ x, (pt l [b])[i]? = some x ∧ x + B l i = if i + 1 < L l b then B l (i + 1) else b := by
  obtain ⟨a1, a2⟩ := pt_L l f b hb
  have hi : i < (pt l [b]).length := by omega
  refine ⟨(pt l [b])[i], List.getElem?_eq_getElem hi, ?_⟩
  have s1 : ((pt l [b]).take (i + 1)).sum = ((pt l [b]).take i).sum + (pt l [b])[i] := by
    rw [List.take_succ, List.getElem?_eq_getElem hi, List.sum_append]
    simp
  rw [a2 i h] at s1
  by_cases e : i + 1 < L l b
  · rw [if_pos e]
    rw [a2 (i + 1) e] at s1
    omega
  · rw [if_neg e]
    rw [List.take_of_length_le (by omega), pt_sum f.pos] at s1
    simp at s1
    omega
/-! ### sums -/
def lo (l : List Nat) : Nat := l.foldl min 1001
theorem lt_foldl {d : Nat} : ∀ (l : List Nat) (m : Nat), d < l.foldl min m ↔ d < m ∧ ∀ x ∈ l, d < x
  | [], m => by simp
  | x :: l, m => by
    rw [List.foldl_cons, lt_foldl l]
    constructor
    · rintro ⟨h1, h2⟩
      exact ⟨by omega, fun y hy => by
        rcases List.mem_cons.mp hy with z | z
        · omega
        · exact h2 y z⟩
    · rintro ⟨h1, h2⟩
      have := h2 x List.mem_cons_self
      exact ⟨by omega, fun y hy => h2 y (List.mem_cons_of_mem _ hy)⟩
theorem lt_lo {d : Nat} {l : List Nat} : d < lo l ↔ d < 1001 ∧ ∀ x ∈ l, d < x := lt_foldl l 1001
def add (a b : List Nat) : List Nat := a ++ b.filter fun d => decide (d < lo a)
theorem add_assoc' (a b c : List Nat) : add (add a b) c = add a (add b c) := by
  unfold add
  rw [List.filter_append, List.filter_filter, List.append_assoc]
  congr 2
  refine List.filter_congr fun d hd => ?_
  rw [Bool.eq_iff_iff]
  simp only [Bool.and_eq_true, decide_eq_true_eq]
  rw [lt_lo, lt_lo, lt_lo]
  constructor
  · rintro ⟨h1, h2⟩
    have ha : ∀ x ∈ a, d < x := fun x hx => h2 x (List.mem_append_left _ hx)
    refine ⟨⟨h1, ha⟩, h1, fun x hx => ?_⟩
    by_cases e : x < lo a
    · exact h2 x (List.mem_append_right _ (List.mem_filter.mpr ⟨hx, decide_eq_true e⟩))
    · have := lt_lo.mpr ⟨h1, ha⟩
      omega
  · rintro ⟨⟨h1, ha⟩, _, hb⟩
    refine ⟨h1, fun x hx => ?_⟩
    rcases List.mem_append.mp hx with z | z
    · exact ha x z
    · exact hb x (List.mem_filter.mp z).1
theorem add_nil (a : List Nat) : add a [] = a := List.append_nil a
theorem add_self (a : List Nat) : add a a = a := by
  unfold add
  rw [List.filter_eq_nil_iff.mpr fun x hx => ?_, List.append_nil]
  intro z
  have := (lt_lo.mp (of_decide_eq_true z)).2 x hx
  omega
theorem nil_add {a : List Nat} (h : ∀ c ∈ a, c ≤ 1000) : add [] a = a := by
  unfold add
  rw [List.nil_append]
  exact List.filter_eq_self.mpr fun x hx => decide_eq_true (by
    have := h x hx
    show x < 1001
    omega)
theorem Fall.filter {p : Nat → Bool} : ∀ {l : List Nat}, Fall l → Fall (l.filter p)
  | [], _ => trivial
  | c :: r, f => by
    by_cases h : p c = true
    · rw [List.filter_cons_of_pos h]
      exact ⟨f.1, fun d hd => f.2.1 d (List.mem_filter.mp hd).1, f.2.2.filter⟩
    · rw [List.filter_cons_of_neg h]
      exact f.2.2.filter
theorem Fall.append : ∀ {a b : List Nat}, Fall a → Fall b → (∀ d ∈ b, ∀ x ∈ a, d < x) → Fall (a ++ b)
  | [], b, _, fb, _ => fb
  | c :: r, b, fa, fb, h => ⟨fa.1, fun d hd => by
      rcases List.mem_append.mp hd with z | z
      · exact fa.2.1 d z
      · exact h d z c List.mem_cons_self, fa.2.2.append fb fun d hd x hx => h d hd x (List.mem_cons_of_mem _ hx)⟩
theorem add_fall {a b : List Nat} (fa : Fall a) (fb : Fall b) : Fall (add a b) :=
  fa.append fb.filter fun d hd x hx => (lt_lo.mp (of_decide_eq_true (List.mem_filter.mp hd).2)).2 x hx
theorem add_le {a b : List Nat} (ha : ∀ c ∈ a, c ≤ 1000) (hb : ∀ c ∈ b, c ≤ 1000) : ∀ c ∈ add a b, c ≤ 1000 := fun c hc => by
  rcases List.mem_append.mp hc with z | z
  · exact ha c z
  · exact hb c (List.mem_filter.mp z).1
theorem add_len (a b : List Nat) : (add a b).length ≤ a.length + b.length := by
  unfold add
  rw [List.length_append]
  have := List.length_filter_le (fun d => decide (d < lo a)) b
  omega
/-- the law's own test -/
theorem lo_last {a : List Nat} (fa : Fall a) {d : Nat} (hd : d ≤ 1000) : (d < lo a) ↔ (a = [] ∨ ∃ x, a.getLast? = some x ∧ d < x) := by
  rw [lt_lo]
  by_cases h : a = []
  · subst h
    simp
    omega
  · rw [List.getLast?_eq_some_getLast h]
    constructor
    · rintro ⟨_, h2⟩
      exact .inr ⟨_, rfl, h2 _ (List.getLast_mem h)⟩
    · rintro (z | ⟨x, e, z⟩)
      · exact absurd z h
      · cases e
        exact ⟨by omega, fun y hy => by have := last_le a fa h y hy; omega⟩
/-- what is parted by both -/
theorem pt_add {a b : List Nat} (fa : Fall a) (fb : Fall b) (hb : ∀ c ∈ b, c ≤ 1000) (n : Nat) : pt (add a b) [n] = pt b (pt a [n]) := by
  unfold add
  rw [pt_cat]
  by_cases h : a = []
  · subst h
    have := nil_add hb
    unfold add at this
    rw [List.nil_append] at this
    rw [this]
  · have e : ∀ s ∈ pt a [n], s ≤ a.getLast h := pt_cuts fa.pos [n] _ (List.getLast_mem h)
    rw [pt_idle fb.pos _ e]
    congr 1
    refine List.filter_congr fun d hd => ?_
    rw [decide_eq_decide, lo_last fa (hb d hd), List.getLast?_eq_some_getLast h]
    constructor
    · rintro (z | ⟨x, e, z⟩)
      · exact absurd z h
      · cases e
        exact z
    · exact fun z => .inr ⟨_, rfl, z⟩
theorem add_more {a b : List Nat} (fa : Fall a) (fb : Fall b) (hb : ∀ c ∈ b, c ≤ 1000) {n : Nat} (hn : 0 < n) : L a n ≤ L (add a b) n := by
  rw [← (pt_L a fa n hn).1, ← (pt_L _ (add_fall fa fb) n hn).1, pt_add fa fb hb]
  exact pt_len fb.pos _
end N

end
section
set_option Elab.async false
set_option linter.all false
set_option maxRecDepth 100000
set_option maxHeartbeats 4000000
/-! ## G: defs that are entered with no repr under way (guards known), so that repr of containers can be told -/
namespace G
open PySem PySem.Spec PyProof.Rows L2

/-- a def's promise, kept where no repr is under way -/
structure Ok (P : Program) (w : World) (K : PySem.W.Frag) (mg : Str → Option Value) (base : Heap) (CX : CXT) (k : Nat) (f : Addr) (fd : FuncData) (ps : List Str) (sp : Sp) : Prop where
  len : ∀ vs H Q E, sp vs H Q E → vs.length = ps.length
  go : ∀ (A : Around), A.guards = some [] → ∀ (outer : List Env) (s : Shared) (H : Hp) (args : Args) (us : List Value) (vs : List V) (Q : VK) (E : XK),
    Room k A → Env0 P w K mg base A outer s H → BindsTo s fd args (ps.zip us) → Vals vs us → sp vs H Q E → codeAny (model P w) A (.call (.ref f) args) (CR CX outer P w H s Q E) s
section
variable {P : Program} {w : World} {K : PySem.W.Frag} {mg : Str → Option Value} {base : Heap} {CX : CXT}
theorem Ok.mono {j k : Nat} {f : Addr} {fd : FuncData} {ps : List Str} {sp : Sp} (F : Ok P w K mg base CX j f fd ps sp) (h : j ≤ k) : Ok P w K mg base CX k f fd ps sp :=
  ⟨F.len, fun A hg outer s H args us vs Q E hr => F.go A hg outer s H args us vs Q E (hr.mono h)⟩
theorem Ok.of {k : Nat} {f : Addr} {fd : FuncData} {ps : List Str} {sp : Sp} (F : FnOk P w K mg base CX k f fd ps sp) : Ok P w K mg base CX k f fd ps sp :=
  ⟨F.len, fun A _ => F.run A⟩

theorem mk {k : Nat} {x qual : Str} {st : Stmt} {f : Addr} {fd : FuncData} {N ps : List Str} {sp : Sp} (F : Fun K x qual st f fd) (S : FnScope N ps (defScope st)) (len : ∀ vs H Q E, sp vs H Q E → vs.length = ps.length)
    (walk : ∀ (cdv : Value) (A : Around) (outer : List Env) (s : Shared) (H : Hp) (vs : List V) (Q : VK) (E : XK), A.guards = some [] → Room k (A.deeper (envOfC qual (defScope st) s.heap.objs.size f cdv)) → sp vs H Q E →
      ∃ t, PSs (cxOf CX P w K mg base N qual (defScope st) f cdv A outer s H E).nox (defBody st) t ∧ t { nx := fun _ H' => Q .non H', rt := Q } (start N vs) H) :
    Ok P w K mg base CX (k + 1) f fd ps sp := by
  refine ⟨len, ?_⟩
  obtain ⟨oc, od, kV, doc, pm, an, cdv, ct, osl, hfd, lk, cd⟩ := F.ex
  intro A hg outer s H args us vs Q E hr e0 hb rv hsp
  subst hfd
  have stay : ∀ b o, base.get? b = some o → s.heap.get? b = some o := fun b o e => (e0.bs b o e).1
  have KX : K.In s.heap := e0.mod.kin.keeps stay
  have par : ∀ y ∈ ps.zip us, (defScope st).names.lookup y.1 = some .local ∨ ((defScope st).names.lookup y.1 = some .cell ∧ ((cellsFrom (s.heap.objs.size + 1) (defScope st).names []).lookup y.1).isSome = true) := by
    rintro ⟨n, v⟩ hy
    cases S.par n (List.of_mem_zip hy).1 with
    | inl q => exact .inl q
    | inr q => exact .inr ⟨q, PySem.W.cellsFrom_some _ _ _ (.inl q)⟩
  refine codeAny_call_function hr.depth (KX _ _ lk) rfl S.co S.gen rfl (PySem.W.codeRec_of KX cd) (hb _ _ _ _ (wpAny_newFunctionEnv_cells S.kind par ?_))
  intro env he s1 x
  subst he
  refine ⟨(e0.mod.nolimit.keeps stay).keeps x.toInCall.keep, codeAny_func ?_⟩
  obtain ⟨t, ht, hq⟩ := walk cdv A outer s H vs Q E hg (hr.deeper _) hsp
  refine wpAny_mono (ht.nox.run [] s1 (start N vs) H _ (inv_start S hr.hd e0 (len _ _ _ _ hsp) rv x) hq) ?_ fun e s' hs => hs
  intro fl s' hs
  cases fl with
  | ret u => obtain ⟨v, σ', H', J, ru, q⟩ := hs; exact ⟨v, H', J.os, J.bare, J.base, J.hok, ru, q⟩
  | next => obtain ⟨σ', H', J, q⟩ := hs; exact ⟨.non, H', J.os, J.bare, J.base, J.hok, rfl, q⟩
  | brk => obtain ⟨_, _, _, q⟩ := hs; exact q.elim
  | cont => obtain ⟨_, _, _, q⟩ := hs; exact q.elim

/-- the law's entry: callerA has no guard -/
theorem enter {mb : Str → Option Value} {k : Nat} {fa a : Addr} {fd : FuncData} {x : Str} {sp : Sp} {s₁ : Shared} {vs : List Value} {H : Hp}
    (KX : K.In s₁.heap) (hns : s₁.heap.Ns mainGlobals mg) (hb : s₁.heap.Ns builtinsNs mb) (hbb : ∀ x : Str, x ≠ "__name__" → mb x = bootBuiltins x) (hlim : s₁.heap.NoLimit) (hgen : s₁.gens = #[])
    (ha : s₁.heap.get? a = some { cls := .type "list", data := .seq vs.toArray }) (hr : Room k callerA)
    (F : ∀ base : Heap, K.In base → base.Ns mainGlobals mg → Ok P w K mg base CX k fa fd [x] sp) (hbind : ∀ (s : Shared) (u : Value), BindsTo s fd ⟨[u], []⟩ [(x, u)])
    (hO : Only H) (hok : HOk P w H s₁.heap) (only_a : ∀ b o, H b = some o → b = a) (notK : (∃ o, H a = some o) → K.lookup a = none)
    (hsp : sp [.ref a] H (fun v _ => v = .bl true) fun _ _ _ => False) (hCX : ∀ H e s', CX [] H s₁ (fun _ _ _ => False) e s' → False) :
    codeAny (model P w) callerA (.call (.ref fa) ⟨[.ref a], []⟩) (fun r s' => r = .ok (.ret (.bool true)) ∧ OldK s₁.heap s'.heap ∧ s'.os = s₁.os ∧ AllBare s'.gens) s₁ := by
  have free : ∀ {b : Addr}, b ≠ a → H b = none := fun {b} hne => by
    cases q : H b with
    | none => rfl
    | some u => exact absurd (only_a b u q) hne
  have dic : ∀ {b : Addr} {m : Str → Option Value}, s₁.heap.Ns b m → (hidT s₁.heap H).Ns b m := by
    rintro b m ⟨o, es, ep, e, d, r⟩
    refine ⟨o, es, ep, hidT_get e (free ?_), d, r⟩
    rintro rfl
    rw [ha] at e
    cases e
    cases d
  have kin : K.In (hidT s₁.heap H) := by
    intro b o e
    refine hidT_get (KX b o e) ?_
    cases q : H b with
    | none => rfl
    | some u =>
      have hba := only_a b u q
      subst hba
      rw [notK ⟨u, q⟩] at e
      cases e
  obtain ⟨mc, l1, l2⟩ := hlim
  have e0 : Env0 P w K mg (hidT s₁.heap H) callerA [] s₁ H :=
    { frames := rfl, mod := ⟨kin, dic hns, ⟨mb, dic hb, hbb⟩, ⟨mc, dic l1, l2⟩⟩, bs := fun b o e => of_hidT e, bsz := Nat.le_of_eq (hidT_size _ _), funs := trivial, frf := fun b z => (List.not_mem_nil z).elim, hok := hok, bare := .of_eq hgen }
  refine codeAny_mono ((F _ kin (dic hns)).go callerA rfl [] s₁ H _ [.ref a] _ _ _ hr e0 (hbind s₁ (.ref a)) (.cons (show RelV (.ref a) (.ref a) from rfl) .nil) hsp) ?_
  intro r s' h
  match r, h with
  | .error e, h => exact (hCX H e s' h).elim
  | .ok .next, h => exact h.elim
  | .ok .brk, h => exact h.elim
  | .ok .cont, h => exact h.elim
  | .ok (.ret u), ⟨v, H', os, bare, un, hok', rv, q⟩ =>
    cases (q : v = .bl true)
    cases (rv : u = .bool true)
    refine ⟨rfl, OldK.of_keep fun b o e => ?_, os, bare⟩
    by_cases q : H b = none
    · exact un.keep b o e q List.not_mem_nil List.not_mem_nil
    · rcases hO b with z | ⟨ob, xs, z⟩
      · exact absurd z q
      · have k1 := (hok b _ z).1
        rw [e] at k1
        cases k1
        exact (hok' b _ (un.frzs b _ _ z)).1

theorem walk {l : PySem.W.OpenLaw} {n k : Nat} {q : Program} {loose : List Str} {XP : (Str → Option Value) → Heap → Prop} {YP : World → Heap → Prop} {d : DefRec} {K : Params → PySem.W.Frag} {sp : PySem.W.Frag → Sp} {x : Str}
    (hn : l.most = some n) (hn2 : n ≤ sizeLine) (hdf : d.params.defaults = []) (hr : Room k callerA) (hY : ∀ (w : World) (h : Heap), YP w h → (K w.params).In h)
    (F : ∀ (w : World) (mg : Str → Option Value) (fa : Addr) (h : Heap), (K w.params).In h → h.Ns mainGlobals mg → mg d.name = some (.ref fa) →
      ∃ fd : FuncData, (∀ (s : Shared) (u : Value), BindsTo s fd ⟨[u], []⟩ [(x, u)]) ∧ ∀ base : Heap, (K w.params).In base → base.Ns mainGlobals mg → Ok l.prog w (K w.params) mg base CX0 k fa fd [x] (sp (K w.params)))
    (hsp : ∀ (K : PySem.W.Frag) (H : Hp) (a : Addr) (ns : List Int), ns.length ≤ n → (∀ z ∈ ns, Builtin.Int.intBits z ≤ 1048576) → SqL K H a (ns.map V.int) → sp K [.ref a] H (fun v _ => v = .bl true) fun _ _ _ => False) :
    PySem.W.WalkO q loose XP YP l.row.toRowW d [] (fun f vs => PySem.call f vs) := by
  refine Att.attach_callB hn hdf ?_
  intro w s₀ s₁ mg mb fa o pm cd doc a vs ns G Y ho hd hcd hmg hobj hints hlen hbits hg
  have KX := hY w _ Y
  obtain ⟨fd, hb, hF⟩ := F w mg fa _ KX G.T.g hmg
  have rv := vals_ints hints
  have zl : ns.length ≤ sizeLine := Nat.le_trans hlen hn2
  have wish := fun (H : Hp) (S : SqL (K w.params) H a (ns.map V.int)) => hsp (K w.params) H a ns hlen hbits S
  by_cases hk : (K w.params).lookup a = none
  · refine enter (H := fun b => if b = a then some (.frz { cls := .type "list", data := .seq vs.toArray } (.lst (ns.map V.int))) else none) KX G.T.g G.T.b G.T.builtins G.T.nolimit hg hobj hr hF hb ?_ ?_ ?_ (fun _ => hk) (wish _ ?_) fun _ _ _ z => z
    · intro b
      by_cases e : b = a
      · exact .inr ⟨_, _, if_pos e⟩
      · exact .inl (if_neg e)
    · intro b o e
      by_cases z : b = a
      · subst z
        cases (if_pos rfl).symm.trans e
        exact ⟨hobj, by rw [List.length_map]; exact zl, vs, _, rv, hobj⟩
      · cases (if_neg z).symm.trans e
    · intro b o e
      by_cases z : b = a
      · exact z
      · cases (if_neg z).symm.trans e
    · exact .inl (.inr ⟨_, if_pos rfl⟩)
  · obtain ⟨o, ek⟩ := Option.ne_none_iff_exists'.mp hk
    have eo := (KX a o ek).symm.trans hobj
    cases eo
    refine enter (H := fun _ => none) KX G.T.g G.T.b G.T.builtins G.T.nolimit hg hobj hr hF hb (fun _ => .inl rfl) (fun b o e => nomatch e) (fun b o e => nomatch e) (fun ⟨o, e⟩ => nomatch e) (wish _ ?_) fun _ _ _ z => z
    refine .inr ⟨_, vs.toArray, _, ek, rfl, rfl, rfl, ?_, by simpa using rv⟩
    rw [List.size_toArray, hints.length]
    exact zl
end
end G

end
section
set_option Elab.async false
set_option linter.all false
set_option maxRecDepth 100000
set_option maxHeartbeats 4000000
/-! ## repr of containers; int ** int of great ints -/
namespace G
open PySem PySem.Spec PyProof.Rows L2
def keyD : Key → PyData
  | .inl i => .int i
  | .inr x => .str x
mutual
/-- data at a value: as it is read off the abstract heap; lists and no dict (true), or dicts and no list (false) -/
inductive Dr (K : PySem.W.Frag) (H : Hp) : Bool → V → PyData → Prop
  | non {m : Bool} : Dr K H m .non .none
  | bl {m : Bool} (b : Bool) : Dr K H m (.bl b) (.bool b)
  | int {m : Bool} (i : Int) : Dr K H m (.int i) (.int i)
  | str {m : Bool} (x : Str) : Dr K H m (.str x) (.str x)
  | lst {a : Addr} {xs : List V} {ds : List PyData} : SqL K H a xs → DrA K H true xs ds → Dr K H true (.ref a) (.list ds)
  | tup {m : Bool} {a : Addr} {xs : List V} {ds : List PyData} : SqT K H a xs → DrA K H m xs ds → Dr K H m (.ref a) (.tuple ds)
  | dic {a : Addr} {kvs : List (Key × V)} {ds : List PyData} : H a = some (.dK kvs) → DrA K H false (kvs.map (·.2)) ds → Dr K H false (.ref a) (.dict ((kvs.map fun p => keyD p.1).zip ds))
inductive DrA (K : PySem.W.Frag) (H : Hp) : Bool → List V → List PyData → Prop
  | nil {m : Bool} : DrA K H m [] []
  | cons {m : Bool} {v : V} {vs : List V} {d : PyData} {ds : List PyData} : Dr K H m v d → DrA K H m vs ds → DrA K H m (v :: vs) (d :: ds)
end
theorem DrA.len {K : PySem.W.Frag} {H : Hp} {m : Bool} : ∀ {vs : List V} {ds : List PyData}, DrA K H m vs ds → vs.length = ds.length
  | _, _, .nil => rfl
  | _, _, .cons _ t => congrArg Nat.succ (DrA.len t)
mutual
theorem Dr.noDict {K : PySem.W.Frag} {H : Hp} : ∀ (d : PyData) (v : V), Dr K H true v d → d.hasDict = false
  | .none, _, _ => by simp only [PyData.hasDict]
  | .bool _, _, _ => by simp only [PyData.hasDict]
  | .int _, _, _ => by simp only [PyData.hasDict]
  | .str _, _, _ => by simp only [PyData.hasDict]
  | .list ds, _, h => by
    cases h with
    | lst _ ha => simp only [PyData.hasDict]; exact DrA.noDict ds _ ha
  | .tuple ds, _, h => by
    cases h with
    | tup _ ha => simp only [PyData.hasDict]; exact DrA.noDict ds _ ha
  | .dict _, _, h => by cases h
theorem DrA.noDict {K : PySem.W.Frag} {H : Hp} : ∀ (ds : List PyData) (vs : List V), DrA K H true vs ds → PyData.hasDictAll ds = false
  | [], _, _ => by simp only [PyData.hasDictAll]
  | d :: ds, _, h => by
    cases h with
    | cons a b => simp only [PyData.hasDictAll, Dr.noDict d _ a, DrA.noDict ds _ b, Bool.or_self]
end
theorem keys_read {P : Program} {w : World} {h : Heap} : ∀ {es : List DictEntry} {kvs : List (Key × V)} {vs : List (Key × Value)}, Pairs (mixKind P w) es vs → KV kvs vs →
    ∃ as, ReadsAll h (es.map (·.key)) (kvs.map fun p => keyD p.1) as ∧ as = []
  | _, _, _, .nil, .nil => ⟨_, .nil, rfl⟩
  | _, _, _, .cons hk hv hp, .cons r t => by
    obtain ⟨as, q, e⟩ := keys_read (P := P) (w := w) (h := h) hp t
    subst e
    have hk' : keyIs _ _ = true := hk
    rw [← r.1] at hk'
    rename_i e' _ _ _ p' _
    rcases keyIs_shape hk' with ⟨i, t, ek, ev⟩ | ⟨x, t, ek, ev⟩
    · refine ⟨[], ?_, rfl⟩
      have z := ReadsAll.cons (h := h) (Reads.int i t) q
      rw [← ev] at z
      have ke : keyD p'.1 = .int i := by rw [ek]; rfl
      rw [List.map_cons, List.map_cons, ke]
      exact z
    · refine ⟨[], ?_, rfl⟩
      have z := ReadsAll.cons (h := h) (Reads.str x t) q
      rw [← ev] at z
      have ke : keyD p'.1 = .str x := by rw [ek]; rfl
      rw [List.map_cons, List.map_cons, ke]
      exact z
theorem vals_of {P : Program} {w : World} : ∀ {es : List DictEntry} {kvs : List (Key × V)} {vs : List (Key × Value)}, Pairs (mixKind P w) es vs → KV kvs vs → Vals (kvs.map (·.2)) (es.map (·.val))
  | _, _, _, .nil, .nil => .nil
  | _, _, _, .cons hk hv hp, .cons r t => .cons (by show RelV _ (DictEntry.val _); rw [hv]; exact r.2) (vals_of hp t)
section
variable {X : Cx} {pins : List (Addr × Obj)} {σ : L2.St} {H : Hp} {s : Shared}
mutual
theorem Dr.reads (I : Inv X pins σ H s) {m : Bool} : ∀ (d : PyData) (v : V) (u : Value), Dr X.K H m v d → RelV v u → ∃ as, Reads s.heap u d as ∧ (m = false → sysModules ∉ as)
  | .none, _, _, h, r => by
    cases h
    cases r
    exact ⟨_, Reads.none, fun _ => List.not_mem_nil⟩
  | .bool b, _, _, h, r => by
    cases h
    cases r
    exact ⟨_, Reads.bool b, fun _ => List.not_mem_nil⟩
  | .int i, _, _, h, r => by
    cases h
    obtain ⟨t, rfl⟩ := r
    exact ⟨_, Reads.int i t, fun _ => List.not_mem_nil⟩
  | .str x, _, _, h, r => by
    cases h
    obtain ⟨t, rfl⟩ := r
    exact ⟨_, Reads.str x t, fun _ => List.not_mem_nil⟩
  | .list ds, _, _, h, r => by
    cases h with
    | @lst a xs _ hs ha =>
      cases r
      obtain ⟨its, rv, ⟨o, n, ho, hc, _, hd⟩, _⟩ := I.list hs
      obtain ⟨as, hr, hn⟩ := DrA.reads I ds _ its ha rv
      exact ⟨_, Reads.list ho hc hd hr, fun z => by cases z⟩
  | .tuple ds, _, _, h, r => by
    cases h with
    | tup hs ha =>
      cases r
      obtain ⟨its, rv, ⟨o, ho, hc, n, hd⟩, _⟩ := I.tuple hs
      obtain ⟨as, hr, hn⟩ := DrA.reads I ds _ its ha rv
      exact ⟨_, Reads.tuple ho hc hd hr, hn⟩
  | .dict kds, _, _, h, r => by
    cases h with
    | @dic a kvs ds hs ha =>
      cases r
      obtain ⟨_, hsys, vs, rk, o, es, ep, ho, hx, hd, _, hp, _⟩ := (show ObjOk X.prog X.w H s.heap a (.dK kvs) from I.hok a _ hs)
      obtain ⟨_, hk, e⟩ := keys_read (h := s.heap) hp rk
      subst e
      have hl : (kvs.map fun p => keyD p.1).length = ds.length := by rw [List.length_map, ← ha.len, List.length_map]
      have e1 : ((kvs.map fun p => keyD p.1).zip ds).map (·.1) = kvs.map fun p => keyD p.1 := List.map_fst_zip (Nat.le_of_eq hl)
      have e2 : ((kvs.map fun p => keyD p.1).zip ds).map (·.2) = ds := List.map_snd_zip (Nat.le_of_eq hl.symm)
      have ha' : DrA X.K H false (kvs.map (·.2)) (((kvs.map fun p => keyD p.1).zip ds).map (·.2)) := by rw [e2]; exact ha
      obtain ⟨bs, hr, hn⟩ := DrA.reads2 I ((kvs.map fun p => keyD p.1).zip ds) _ _ ha' (vals_of hp rk)
      refine ⟨_, Reads.dict ho hx.1 hd (by rw [e1]; exact hk) hr, fun _ z => ?_⟩
      rcases List.mem_append.mp z with z | z
      · rcases List.mem_cons.mp z with e | e
        · rw [← e] at hsys
          simp at hsys
        · exact absurd e List.not_mem_nil
      · exact hn rfl z
theorem DrA.reads (I : Inv X pins σ H s) {m : Bool} : ∀ (ds : List PyData) (vs : List V) (us : List Value), DrA X.K H m vs ds → Vals vs us → ∃ as, ReadsAll s.heap us ds as ∧ (m = false → sysModules ∉ as)
  | [], _, _, h, r => by
    cases h
    cases r
    exact ⟨_, ReadsAll.nil, fun _ => List.not_mem_nil⟩
  | d :: ds, _, _, h, r => by
    cases h with
    | cons h1 h2 =>
      cases r with
      | cons r1 r2 =>
        obtain ⟨as, q1, n1⟩ := Dr.reads I d _ _ h1 r1
        obtain ⟨bs, q2, n2⟩ := DrA.reads I ds _ _ h2 r2
        exact ⟨_, ReadsAll.cons q1 q2, fun e z => (List.mem_append.mp z).elim (n1 e) (n2 e)⟩
theorem DrA.reads2 (I : Inv X pins σ H s) {m : Bool} : ∀ (kds : List (PyData × PyData)) (vs : List V) (us : List Value), DrA X.K H m vs (kds.map (·.2)) → Vals vs us → ∃ as, ReadsAll s.heap us (kds.map (·.2)) as ∧ (m = false → sysModules ∉ as)
  | [], _, _, h, r => by
    cases h
    cases r
    exact ⟨_, ReadsAll.nil, fun _ => List.not_mem_nil⟩
  | (k, d) :: ds, _, _, h, r => by
    cases h with
    | cons h1 h2 =>
      cases r with
      | cons r1 r2 =>
        obtain ⟨as, q1, n1⟩ := Dr.reads I d _ _ h1 r1
        obtain ⟨bs, q2, n2⟩ := DrA.reads2 I ds _ _ h2 r2
        exact ⟨_, ReadsAll.cons q1 q2, fun e z => (List.mem_append.mp z).elim (n1 e) (n2 e)⟩
end
end
/-- repr of a list that is not empty: what is read below it is none of the interpreter's own dict -/
theorem repr_top {prog : Program} {w : World} {A : Around} {E : Value → Shared → Prop} {s : Shared} {a : Addr} {o : Obj} {v : Value} {vs : List Value} {n : Nat} {ds : List PyData} {as : List Addr} {Q : Value → Shared → Prop} (ho : s.heap.get? a = some o) (hc : o.cls = .type "list") (hd : o.data = .seq (v :: vs).toArray n)
    (hr : ReadsAll s.heap (v :: vs) ds as) (hn : sysModules ∉ as) (hs : PyData.showableAll ds = true) (hg : A.guards = some []) (hu : A.units + ((PyData.list ds).depth + 1) < cLine) (hz : (PyData.list ds).shown.length ≤ sizeLine)
    (hQ : ∀ h' u tk, (∀ b o, s.heap.get? b = some o → h'.get? b = some o) → Q (.str (PyData.list ds).shown u) { s with heap := h', toks := tk }) : wpAny (model prog w) A (call (.builtin "repr") [.ref a]) Q E s := by
  have depth : (PyData.list ds).depth = PyData.depthAll ds + 1 := by simp only [PyData.depth]
  have text : (PyData.list ds).shown = listText (PyData.shownAll ds) := by simp only [PyData.shown]
  rw [text] at hz
  rw [depth] at hu
  obtain ⟨bs, most, items⟩ := ReprAllK.of_readsAll (prog := prog) (w := w) hr hs (fun _ => hn) (fun t ht => Nat.le_trans (listText_mem_le ht) hz)
  have apart : a ∉ bs := not_mem_of_deeper (.list ho hc hd (by simpa using hr)) (by rw [depth]; omega) most
  refine call_repr_slot (by omega) ⟨o, ho, hc⟩ F.slot_list_repr.toG ?_
  refine call_list_reprK ho hc hd apart (by simpa using items.length_eq) (fun i y e => items.item i y (by simpa using e)) hg (fun b _ => Clear.nil b) (by show A.units + 1 + _ < cLine; omega) (fun _ _ e => e) (fun h' u tk k => ⟨_, _, rfl, ?_⟩) hz
  rw [← text]
  exact hQ h' u tk k
def rRepr (K : PySem.W.Frag) : List V → Hp → VK → Prop := fun xs H Q => ∃ (a : Addr) (m : Bool) (y : V) (ys : List V) (ds : List PyData), xs = [.ref a] ∧ SqL K H a (y :: ys) ∧ DrA K H m (y :: ys) ds ∧ (PyData.list ds).showable = true ∧ (PyData.list ds).depth ≤ 20 ∧ (PyData.list ds).shown.length ≤ sizeLine ∧ Q (.str (PyData.list ds).shown) H
theorem call_repr {X : Cx} (hg : X.A.guards = some []) (hu : X.A.units + 64 < cLine) : CallR X (.builtin "repr") (rRepr X.K) := by
  intro pins s σ H xs us Q I r h
  obtain ⟨a, m, y, ys, ds, rfl, hL, hd, hs, hl, hz, q⟩ := h
  cases r with
  | cons rx rr =>
    cases rr
    cases rx
    have fin : ∀ (h' : Heap) (u : Tok) (tk : Nat), (∀ b o, s.heap.get? b = some o → h'.get? b = some o) → EP X pins σ Q (.str (PyData.list ds).shown u) { s with heap := h', toks := tk } := fun h' u tk k => ⟨.str (PyData.list ds).shown, H, I.kept (t' := tk) k, ⟨u, rfl⟩, q⟩
    obtain ⟨its, rv, ⟨o, n, ho, hc, _, hd'⟩, _⟩ := I.list hL
    obtain ⟨as, hr, hn⟩ := DrA.reads I ds _ its hd rv
    cases m with
    | true =>
      refine repr_of_reads' (.list ho hc hd' hr) hs (fun z => ?_) hg (by omega) (fun _ _ e => e) fin hz
      rw [show (PyData.list ds).hasDict = PyData.hasDictAll ds by simp only [PyData.hasDict], DrA.noDict ds _ hd] at z
      cases z
    | false =>
      cases rv with
      | cons r1 r2 => exact repr_top ho hc hd' hr (hn rfl) (by simpa only [PyData.showable] using hs) hg (by omega) hz fin
def rReprF : List V → Hp → VK → Prop := fun xs H Q => (xs = [.non] ∧ Q (.str "None") H) ∨ (∃ b, xs = [.bl b] ∧ Q (.str (if b then "True" else "False")) H) ∨ ∃ i, xs = [.int i] ∧ i.natAbs.log2 < 1920 ∧ Q (.str (toString i)) H
theorem call_reprF {X : Cx} : CallR X (.builtin "repr") rReprF := by
  intro pins s σ H xs us Q I r h
  rcases h with ⟨rfl, q⟩ | ⟨b, rfl, q⟩ | ⟨i, rfl, hz, q⟩
  · cases r with
    | cons rx rr => cases rr; cases rx; exact PySem.P.repr_of_none ⟨.str _, H, I.tok _, ⟨_, rfl⟩, q⟩
  · cases r with
    | cons rx rr => cases rr; cases rx; exact PySem.P.repr_of_bool ⟨.str _, H, I.tok _, ⟨_, rfl⟩, q⟩
  · cases r with
    | cons rx rr => cases rr; obtain ⟨t, rfl⟩ := rx; exact PySem.P.repr_of_int hz ⟨.str _, H, I.tok _, ⟨_, rfl⟩, q⟩
/-- a ** n, n a small written number, a of any size -/
theorem op_powN {X : Cx} : OpR X (binaryOp .Pow) (rI (fun i j => 0 ≤ j ∧ (Builtin.Int.intBits i : Int) * j ≤ 2 ^ 27) fun i j => .int (i ^ j.toNat)) := opI fun _ _ _ _ _ _ _ hc q => pow_int hc.1 hc.2 q
end G

end
section
set_option Elab.async false
set_option linter.all false
set_option maxRecDepth 100000
set_option maxHeartbeats 4000000
/-! ## max of a list of ints, with and without default= -/
namespace G
open PySem PySem.Spec PyProof.Rows L2 PySem.W
theorem ints_reads {h : Heap} : ∀ {ns : List Int} {us : List Value}, Vals (ns.map V.int) us → ReadsAll h us (ns.map PyData.int) []
  | [], _, r => by cases r; exact .nil
  | n :: ns, _, r => by
    cases r with
    | cons a b =>
      obtain ⟨t, rfl⟩ := a
      exact .cons (as := []) (bs := []) (.int n t) (ints_reads b)
theorem ints_alike : ∀ ns : List Int, AlikeAll (ns.map PyData.int) := by
  intro ns
  refine ⟨fun x hx y hy => ?_, fun x hx => ?_⟩
  · obtain ⟨a, _, rfl⟩ := List.mem_map.mp hx
    obtain ⟨b, _, rfl⟩ := List.mem_map.mp hy
    rfl
  · obtain ⟨a, _, rfl⟩ := List.mem_map.mp hx
    intro z
    cases z
theorem ints_depth : ∀ ns : List Int, PyData.depthAll (ns.map PyData.int) = 0
  | [] => by simp only [List.map_nil, PyData.depthAll]
  | n :: ns => by simp only [List.map_cons, PyData.depthAll, PyData.depth, ints_depth ns, Nat.max_self]
theorem int_reads {h : Heap} {v : Value} {n : Int} {bs : List Addr} (r : Reads h v (.int n) bs) : RelV (.int n) v := by
  cases r
  exact ⟨_, rfl⟩
def rMaxID (K : PySem.W.Frag) : List V → List V → Hp → VK → Prop := fun xs zs H Q => ∃ (a : Addr) (ns : List Int) (d : Int), xs = [.ref a] ∧ zs = [.int d] ∧ SqL K H a (ns.map V.int) ∧ Q (.int (match ns with | [] => d | n :: r => r.foldl max n)) H
section
variable {X : Cx}
theorem call_maxID (hc : X.calm = true) (hu : X.A.units + 64 < cLine) : CallRK X (.builtin "max") ["default"] (rMaxID X.K) := by
  intro pins s σ H xs zs us ws Q I r rz h
  obtain ⟨a, ns, d, rfl, rfl, hL, q⟩ := h
  cases r with
  | cons rx rr =>
    cases rr
    cases rx
    cases rz with
    | cons ra rb =>
      cases rb
      obtain ⟨td, rfl⟩ := ra
      obtain ⟨its, rv, pl, _⟩ := I.list hL
      have hr := ints_reads (h := s.heap) rv
      refine max_list_default (xs := ns.map .int) (d := .int d td) (I.ok.hd hc) pl.isList (by simpa using hr) (ints_alike ns) (by rw [ints_depth]; omega) (fun e h' tk k => ?_) fun y ys i v h' tk bs e hv hR k => ?_
      · cases ns with
        | nil => exact ⟨.int d, H, I.kept (t' := tk) k, ⟨td, rfl⟩, q⟩
        | cons n r => cases e
      · cases ns with
        | nil => cases e
        | cons n r =>
          injection e with e1 e2
          subst e1 e2
          rw [maxD_ints] at hR
          exact ⟨.int _, H, I.kept (t' := tk) k, int_reads hR, q⟩
end
end G

end
section
set_option autoImplicit false
/-! ## ways and what becomes of letters: a mirror, and that a lesser body fares no worse -/
namespace M
inductive LW where
  | cut | tell | drop
  deriving DecidableEq
inductive TW where
  | turn | keep | lose
  deriving DecidableEq
mutual
inductive Way where
  | mk (head : Nat) (steps : List Step)
inductive Step where
  | road (size : Nat) (tellS : Bool) (loose : LW)
  | join (most : Nat)
  | tunnel (w : Way) (most : Nat) (t : TW)
end
def Way.head : Way → Nat
  | .mk h _ => h
def Way.steps : Way → List Step
  | .mk _ s => s
inductive Fate where
  | comes (l : List Nat)
  | told (size : Int) (place : List Nat)
  | silent (place : List Nat)
  deriving DecidableEq
/-- what a step makes of stretches; an end as it is seen from the step -/
def parts (c x : Nat) : List Nat := (List.range ((x + c - 1) / c)).map fun k => min c (x - k * c)
def cutAll (c : Nat) (l : List Nat) : List Nat := l.flatMap (parts c)
def road (h size : Nat) (tellS : Bool) (lw : LW) (sealed : Bool) (l : List Nat) : Fate :=
  if ∀ x ∈ l, x ≤ size - h then .comes l
  else if sealed then (if tellS then .told size [] else .silent [])
  else match lw with
    | .cut => .comes (cutAll (size - h) l)
    | .tell => .told size []
    | .drop => .silent []
def join (most : Nat) (l : List Nat) : Fate := if l.length > most then .silent [] else .comes [l.sum]
def turned (ih : Nat) (t : TW) : Fate → Fate
  | .told s p => if t = .turn then .told (s - ih) p else .silent p
  | .silent p => .silent p
  | .comes _ => .silent []
def seen (i : Nat) : Fate → Fate
  | .told s p => .told s (i :: p)
  | .silent p => .silent (i :: p)
  | .comes l => .comes l
/-- the tunnel, by what the inner way makes of each stretch -/
def tunnel (inner : Nat → Fate) (ih most : Nat) (t : TW) (l : List Nat) : List Nat → Fate
  | [] => .comes l
  | x :: r => match inner x with
    | .comes m => if m.length > most then .silent [] else tunnel inner ih most t l r
    | f => turned ih t f
mutual
def Way.walk (sealed : Bool) : Way → Nat → Fate
  | .mk h steps, b => Way.from sealed h steps 0 [b]
def Way.from (sealed : Bool) (h : Nat) : List Step → Nat → List Nat → Fate
  | [], _, l => .comes l
  | s :: r, i, l => match Step.does sealed h s l with
    | .comes m => Way.from sealed h r (i + 1) m
    | f => seen i f
def Step.does (sealed : Bool) (h : Nat) : Step → List Nat → Fate
  | .road size ts lw, l => road h size ts lw sealed l
  | .join most, l => join most l
  | .tunnel w most t, l => tunnel (fun x => Way.walk sealed w (h + x)) w.head most t l l
end
/-! ### truncation -/
def tr : List Nat → Nat → List Nat
  | _, 0 => []
  | [], _ + 1 => []
  | x :: l, b + 1 => if b + 1 ≤ x then [b + 1] else x :: tr l (b + 1 - x)
theorem tr_zero (l : List Nat) : tr l 0 = [] := by cases l <;> rfl
theorem tr_cons {x b : Nat} {l : List Nat} (hb : 0 < b) : tr (x :: l) b = if b ≤ x then [b] else x :: tr l (b - x) := by
  cases b with
  | zero => omega
  | succ b => rfl
theorem tr_nil (b : Nat) : tr [] b = [] := by cases b <;> rfl
theorem tr_mem : ∀ (l : List Nat) (b x : Nat), x ∈ tr l b → ∃ y ∈ l, x ≤ y
  | [], b, x, h => by rw [tr_nil] at h; cases h
  | y :: l, b, x, h => by
    by_cases hb : 0 < b
    · rw [tr_cons hb] at h
      split at h
      · rename_i hy
        have e : x = b := by simpa using h
        exact ⟨y, List.mem_cons_self, by omega⟩
      · rcases List.mem_cons.mp h with e | e
        · exact ⟨y, List.mem_cons_self, by omega⟩
        · obtain ⟨z, hz, hx⟩ := tr_mem l _ x e
          exact ⟨z, List.mem_cons_of_mem _ hz, hx⟩
    · have e : b = 0 := by omega
      subst e
      rw [tr_zero] at h
      cases h
theorem tr_len : ∀ (l : List Nat) (b : Nat), (tr l b).length ≤ l.length
  | [], b => by rw [tr_nil]; exact Nat.le_refl _
  | y :: l, b => by
    by_cases hb : 0 < b
    · rw [tr_cons hb]
      split
      · simp
      · have := tr_len l (b - y)
        simp; omega
    · have e : b = 0 := by omega
      subst e
      rw [tr_zero]; simp
theorem tr_sum : ∀ (l : List Nat) (b : Nat), b ≤ l.sum → (tr l b).sum = b
  | [], b, h => by rw [tr_nil]; simp at h ⊢; omega
  | y :: l, b, h => by
    by_cases hb : 0 < b
    · rw [tr_cons hb]
      split
      · simp
      · simp at h ⊢
        have := tr_sum l (b - y) (by omega)
        omega
    · have e : b = 0 := by omega
      subst e
      rw [tr_zero]; rfl
theorem tr_all {l : List Nat} (h : ∀ x ∈ l, 0 < x) : tr l l.sum = l := by
  induction l with
  | nil => rfl
  | cons x l ih =>
    have hx := h x List.mem_cons_self
    rw [tr_cons (by simp; omega)]
    cases l with
    | nil => simp
    | cons y r =>
      have hy := h y (by simp)
      rw [if_neg (by simp; omega)]
      have e : (x :: y :: r).sum - x = (y :: r).sum := by simp
      rw [e, ih fun z hz => h z (List.mem_cons_of_mem _ hz)]
theorem tr_append : ∀ (l m : List Nat) (b : Nat), tr (l ++ m) b = if b ≤ l.sum then tr l b else l ++ tr m (b - l.sum)
  | [], m, b => by
    cases b with
    | zero => simp [tr_zero]
    | succ b => simp
  | x :: l, m, b => by
    by_cases hb : 0 < b
    · rw [List.cons_append, tr_cons hb, tr_cons hb, tr_append l m (b - x), List.sum_cons]
      by_cases h1 : b ≤ x
      · rw [if_pos h1, if_pos (by omega), if_pos h1]
      · rw [if_neg h1, if_neg h1]
        by_cases h2 : b ≤ x + l.sum
        · rw [if_pos (by omega), if_pos h2]
        · rw [if_neg (by omega), if_neg h2]
          have e : b - x - l.sum = b - (x + l.sum) := by omega
          rw [e]; rfl
    · have e : b = 0 := by omega
      subst e
      simp [tr_zero]
/-! ### cutting -/
theorem parts_small {c x : Nat} (h0 : 0 < x) (h : x ≤ c) : parts c x = [x] := by
  unfold parts
  have e : (x + c - 1) / c = 1 := by
    have e1 : x + c - 1 = (x - 1) + c * 1 := by omega
    rw [e1, Nat.add_mul_div_left _ _ (by omega : 0 < c), Nat.div_eq_of_lt (by omega)]
  rw [e]
  show [min c (x - 0 * c)] = [x]
  rw [Nat.zero_mul, Nat.sub_zero, Nat.min_eq_right h]
theorem parts_more {c x : Nat} (hc : 0 < c) (h : c < x) : parts c x = c :: parts c (x - c) := by
  unfold parts
  have e : (x + c - 1) / c = (x - c + c - 1) / c + 1 := by
    have e1 : x + c - 1 = (x - c + c - 1) + c * 1 := by omega
    rw [e1, Nat.add_mul_div_left _ _ hc]
  rw [e, List.range_succ_eq_map, List.map_cons, List.map_map]
  congr 1
  · rw [Nat.zero_mul, Nat.sub_zero, Nat.min_eq_left (by omega)]
  · apply List.map_congr_left
    intro k _
    show min c (x - (k + 1) * c) = min c (x - c - k * c)
    rw [Nat.succ_mul]
    congr 1
    omega
theorem parts_ind {c : Nat} {P : Nat → Prop} (hc : 0 < c) (small : ∀ x, 0 < x → x ≤ c → P x) (more : ∀ x, c < x → P (x - c) → P x) (x : Nat) (hx : 0 < x) : P x := by
  induction x using Nat.strongRecOn with
  | _ x ih =>
    by_cases h : x ≤ c
    · exact small x hx h
    · exact more x (by omega) (ih (x - c) (by omega) (by omega))
theorem parts_sum {c x : Nat} (hc : 0 < c) (hx : 0 < x) : (parts c x).sum = x := by
  refine parts_ind (P := fun x => (parts c x).sum = x) hc (fun x h1 h2 => ?_) (fun x h1 ih => ?_) x hx
  · rw [parts_small h1 h2]; simp
  · rw [parts_more hc h1, List.sum_cons, ih]; omega
theorem parts_pos {c x : Nat} (hc : 0 < c) (hx : 0 < x) : ∀ y ∈ parts c x, 0 < y ∧ y ≤ c ∧ y ≤ x := by
  refine parts_ind (P := fun x => ∀ y ∈ parts c x, 0 < y ∧ y ≤ c ∧ y ≤ x) hc (fun x h1 h2 => ?_) (fun x h1 ih => ?_) x hx
  · rw [parts_small h1 h2]
    intro y hy
    have e : y = x := by simpa using hy
    omega
  · rw [parts_more hc h1]
    intro y hy
    rcases List.mem_cons.mp hy with e | e
    · omega
    · have := ih y e
      omega
/-- the first piece -/
theorem parts_head {c x : Nat} (hc : 0 < c) (hx : 0 < x) : ∃ r, parts c x = min c x :: r := by
  by_cases h : x ≤ c
  · exact ⟨[], by rw [parts_small hx h, Nat.min_eq_right h]⟩
  · exact ⟨_, by rw [parts_more hc (by omega), Nat.min_eq_left (by omega)]⟩
theorem parts_tr {c : Nat} (hc : 0 < c) (x : Nat) (hx : 0 < x) : ∀ b, 0 < b → b ≤ x → tr (parts c x) b = parts c b := by
  refine parts_ind (P := fun x => ∀ b, 0 < b → b ≤ x → tr (parts c x) b = parts c b) hc (fun x h1 h2 b hb hbx => ?_) (fun x h1 ih b hb hbx => ?_) x hx
  · rw [parts_small h1 h2, tr_cons hb, if_pos hbx, parts_small hb (by omega)]
  · rw [parts_more hc h1, tr_cons hb]
    by_cases h : b ≤ c
    · rw [if_pos h, parts_small hb h]
    · rw [if_neg h, parts_more (x := b) hc (by omega), ih (b - c) (by omega) (by omega)]
theorem cut_sum {c : Nat} (hc : 0 < c) : ∀ {l : List Nat}, (∀ x ∈ l, 0 < x) → (cutAll c l).sum = l.sum
  | [], _ => rfl
  | x :: l, h => by
    show (parts c x ++ cutAll c l).sum = _
    rw [List.sum_append, parts_sum hc (h x List.mem_cons_self), cut_sum hc fun y hy => h y (List.mem_cons_of_mem _ hy), List.sum_cons]
theorem cut_tr {c : Nat} (hc : 0 < c) : ∀ {l : List Nat} {b : Nat}, (∀ x ∈ l, 0 < x) → b ≤ l.sum → cutAll c (tr l b) = tr (cutAll c l) b
  | [], b, _, _ => by rw [tr_nil]; show [] = tr [] b; rw [tr_nil]
  | x :: l, b, h, hb => by
    have hx := h x List.mem_cons_self
    show _ = tr (parts c x ++ cutAll c l) b
    by_cases h0 : 0 < b
    · rw [tr_append, parts_sum hc hx, tr_cons h0]
      by_cases h1 : b ≤ x
      · rw [if_pos h1, if_pos h1, parts_tr hc x hx b h0 h1]
        show parts c b ++ [] = _
        rw [List.append_nil]
      · rw [if_neg h1, if_neg h1]
        show parts c x ++ cutAll c (tr l (b - x)) = _
        rw [cut_tr hc (fun y hy => h y (List.mem_cons_of_mem _ hy)) (by simp at hb; omega)]
    · have e : b = 0 := by omega
      subst e
      rw [tr_zero, tr_zero]; rfl
theorem cut_same {c : Nat} : ∀ {l : List Nat}, (∀ x ∈ l, 0 < x ∧ x ≤ c) → cutAll c l = l
  | [], _ => rfl
  | x :: l, h => by
    show parts c x ++ cutAll c l = _
    have hx := h x List.mem_cons_self
    rw [parts_small hx.1 hx.2, cut_same fun y hy => h y (List.mem_cons_of_mem _ hy)]
    rfl
/-! ### the stretches of a letter, and those of a lesser one -/
/-- stretches of a body b -/
structure Good (b : Nat) (l : List Nat) : Prop where
  sum : l.sum = b
  ne : l ≠ []
  pos : 0 < b → ∀ x ∈ l, 0 < x
  zero : b = 0 → l = [0]
  first : ∀ x ∈ l, x ≤ l.headD 0
/-- stretches of b beside those of a body that is not less -/
def Rel (b : Nat) (l l' : List Nat) : Prop := if b = 0 then l = [0] else l = tr l' b
theorem good_one (b : Nat) : Good b [b] where
  sum := by simp
  ne := by simp
  pos := fun h x hx => by
    have e : x = b := by simpa using hx
    omega
  zero := fun h => by rw [h]
  first := fun x hx => by
    have e : x = b := by simpa using hx
    rw [e]
    exact Nat.le_refl b
theorem rel_one {b b' : Nat} (h : b ≤ b') : Rel b [b] [b'] := by
  unfold Rel
  split
  · rename_i e; rw [e]
  · rw [tr_cons (by omega), if_pos h]
/-- lesser stretches: each at most one of the greater, the first at most the first; no more of them -/
theorem rel_mem {b b' : Nat} {l l' : List Nat} (h : Rel b l l') (g : Good b' l') : ∀ x ∈ l, ∃ y ∈ l', x ≤ y := by
  unfold Rel at h
  split at h
  · subst h
    intro x hx
    have e : x = 0 := by simpa using hx
    cases l' with
    | nil => exact absurd rfl g.ne
    | cons y r => exact ⟨y, List.mem_cons_self, by omega⟩
  · subst h
    exact tr_mem l' b
theorem rel_len {b b' : Nat} {l l' : List Nat} (h : Rel b l l') (g : Good b' l') : l.length ≤ l'.length := by
  unfold Rel at h
  split at h
  · subst h
    cases l' with
    | nil => exact absurd rfl g.ne
    | cons y r => simp
  · subst h
    exact tr_len l' b
theorem good_cut {b c : Nat} {l : List Nat} (hc : 0 < c) (hb : 0 < b) (g : Good b l) : Good b (cutAll c l) := by
  have p := g.pos hb
  obtain ⟨y, r, rfl⟩ : ∃ y r, l = y :: r := by
    cases l with
    | nil => exact absurd rfl g.ne
    | cons y r => exact ⟨y, r, rfl⟩
  obtain ⟨r', hr⟩ := parts_head hc (p y List.mem_cons_self)
  have e : cutAll c (y :: r) = min c y :: (r' ++ cutAll c r) := by
    show parts c y ++ cutAll c r = _
    rw [hr]; rfl
  refine ⟨by rw [cut_sum hc p, g.sum], by rw [e]; simp, fun _ x hx => ?_, fun h => by omega, fun x hx => ?_⟩
  · obtain ⟨z, hz, hx⟩ := List.mem_flatMap.mp hx
    exact (parts_pos hc (p z hz) x hx).1
  · rw [e]
    show x ≤ min c y
    obtain ⟨z, hz, hx⟩ := List.mem_flatMap.mp hx
    have q := parts_pos hc (p z hz) x hx
    have f : z ≤ y := g.first z hz
    omega
mutual
/-- what a way's steps are: sizes above heads, at least one piece put together -/
def Way.ok : Way → Prop
  | .mk h steps => 0 < h ∧ Step.okAll h steps
def Step.okAll (h : Nat) : List Step → Prop
  | [] => True
  | s :: r => Step.ok h s ∧ Step.okAll h r
def Step.ok (h : Nat) : Step → Prop
  | .road size _ _ => h < size
  | .join most => 0 < most
  | .tunnel w most _ => Way.ok w ∧ 0 < most
end
theorem road_comes {h size : Nat} {ts : Bool} {lw : LW} {sealed : Bool} {l m : List Nat} (e : road h size ts lw sealed l = .comes m) : (m = l ∧ ∀ x ∈ l, x ≤ size - h) ∨ (m = cutAll (size - h) l ∧ sealed = false ∧ lw = .cut ∧ ¬ ∀ x ∈ l, x ≤ size - h) := by
  unfold road at e
  split at e
  · rename_i q
    injection e with e
    exact .inl ⟨e.symm, q⟩
  · rename_i q
    split at e
    · split at e <;> cases e
    · rename_i qs
      split at e
      · injection e with e
        exact .inr ⟨e.symm, by simpa using qs, rfl, q⟩
      · cases e
      · cases e
theorem tunnel_comes {inner : Nat → Fate} {ih most : Nat} {t : TW} {l m : List Nat} : ∀ {r : List Nat}, tunnel inner ih most t l r = .comes m → m = l ∧ ∀ x ∈ r, ∃ k, inner x = .comes k ∧ k.length ≤ most
  | [], e => by
    unfold tunnel at e
    injection e with e
    exact ⟨e.symm, fun x hx => by cases hx⟩
  | x :: r, e => by
    unfold tunnel at e
    split at e
    · rename_i k hk
      split at e
      · cases e
      · rename_i hl
        obtain ⟨h1, h2⟩ := tunnel_comes e
        refine ⟨h1, fun y hy => ?_⟩
        rcases List.mem_cons.mp hy with z | z
        · exact ⟨k, z ▸ hk, by omega⟩
        · exact h2 y z
    · rename_i f hf
      cases hi : inner x with
      | comes k => exact absurd hi (hf k)
      | told s p =>
        rw [hi] at e
        simp only [turned] at e
        split at e <;> cases e
      | silent p =>
        rw [hi] at e
        cases e
theorem tunnel_pass {inner : Nat → Fate} {ih most : Nat} {t : TW} {l : List Nat} : ∀ {r : List Nat}, (∀ x ∈ r, ∃ k, inner x = .comes k ∧ k.length ≤ most) → tunnel inner ih most t l r = .comes l
  | [], _ => rfl
  | x :: r, h => by
    obtain ⟨k, e, hk⟩ := h x List.mem_cons_self
    unfold tunnel
    rw [e]
    show (if k.length > most then _ else _) = _
    rw [if_neg (by omega)]
    exact tunnel_pass fun y hy => h y (List.mem_cons_of_mem _ hy)
theorem rel_cut {b b' c : Nat} {l l' : List Nat} (hc : 0 < c) (hle : b ≤ b') (h : Rel b l l') (g : Good b' l') (g0 : Good b l) : Rel b (if b = 0 then l else cutAll c l) (cutAll c l') := by
  unfold Rel at h ⊢
  split
  · rename_i e
    rw [if_pos e] at h
    exact h
  · rename_i e
    rw [if_neg e] at h
    subst h
    exact cut_tr hc (g.pos (by omega)) (by rw [g.sum]; exact hle)
/-- one road, both letters -/
theorem road_mono {h size : Nat} {ts : Bool} {lw : LW} {sealed : Bool} {b b' : Nat} {l l' m' : List Nat} (hs : h < size) (hle : b ≤ b') (g : Good b l) (g' : Good b' l') (r : Rel b l l') (e : road h size ts lw sealed l' = .comes m') :
    ∃ m, road h size ts lw sealed l = .comes m ∧ Good b m ∧ Good b' m' ∧ Rel b m m' := by
  have hc : 0 < size - h := by omega
  rcases road_comes e with ⟨rfl, ha⟩ | ⟨rfl, rfl, rfl, hn⟩
  · have hl : ∀ x ∈ l, x ≤ size - h := fun x hx => by
      obtain ⟨y, hy, hxy⟩ := rel_mem r g' x hx
      exact Nat.le_trans hxy (ha y hy)
    exact ⟨l, by unfold road; rw [if_pos hl], g, g', r⟩
  · have hb' : 0 < b' := by
      rcases Nat.eq_zero_or_pos b' with z | z
      · rw [g'.zero z] at hn
        exact absurd (fun x hx => by have e : x = 0 := by simpa using hx
                                     omega) hn
      · exact z
    have gm' := good_cut hc hb' g'
    have rm := rel_cut hc hle r g' g
    by_cases hl : ∀ x ∈ l, x ≤ size - h
    · refine ⟨l, by unfold road; rw [if_pos hl], g, gm', ?_⟩
      by_cases hb : b = 0
      · rw [if_pos hb] at rm; exact rm
      · rw [if_neg hb, cut_same fun x hx => ⟨g.pos (by omega) x hx, hl x hx⟩] at rm
        exact rm
    · have hb : ¬ b = 0 := fun z => hl fun x hx => by
        rw [g.zero z] at hx
        have e : x = 0 := by simpa using hx
        omega
      rw [if_neg hb] at rm
      exact ⟨_, by unfold road; rw [if_neg hl, if_neg (by simp)], good_cut hc (by omega) g, gm', rm⟩
mutual
/-- a letter that comes does so for each lesser body -/
theorem Way.mono (sealed : Bool) : ∀ (w : Way), w.ok → ∀ (b b' : Nat) (m' : List Nat), b ≤ b' → w.walk sealed b' = .comes m' → ∃ m, w.walk sealed b = .comes m ∧ Good b m ∧ Good b' m' ∧ Rel b m m'
  | .mk h steps, hw, b, b', m', hle, e => Way.from_mono sealed h steps hw.1 hw.2 0 b b' [b] [b'] m' hle (good_one b) (good_one b') (rel_one hle) e
theorem Way.from_mono (sealed : Bool) (h : Nat) : ∀ (steps : List Step), 0 < h → Step.okAll h steps → ∀ (i b b' : Nat) (l l' m' : List Nat), b ≤ b' → Good b l → Good b' l' → Rel b l l' → Way.from sealed h steps i l' = .comes m' →
    ∃ m, Way.from sealed h steps i l = .comes m ∧ Good b m ∧ Good b' m' ∧ Rel b m m'
  | [], _, _, i, b, b', l, l', m', hle, g, g', r, e => by
    unfold Way.from at e
    injection e with e
    subst e
    exact ⟨l, by unfold Way.from; rfl, g, g', r⟩
  | s :: rest, h0, hok, i, b, b', l, l', m', hle, g, g', r, e => by
    unfold Way.from at e
    split at e
    · rename_i k' hk
      obtain ⟨k, e1, gk, gk', rk⟩ := Step.mono sealed h s h0 hok.1 b b' l l' k' hle g g' r hk
      obtain ⟨m, e2, q⟩ := Way.from_mono sealed h rest h0 hok.2 (i + 1) b b' k k' m' hle gk gk' rk e
      exact ⟨m, by unfold Way.from; rw [e1]; exact e2, q⟩
    · rename_i f hf
      cases hd : Step.does sealed h s l' with
      | comes k => exact absurd hd (hf k)
      | told a p => rw [hd] at e; cases e
      | silent p => rw [hd] at e; cases e
theorem Step.mono (sealed : Bool) (h : Nat) : ∀ (s : Step), 0 < h → Step.ok h s → ∀ (b b' : Nat) (l l' m' : List Nat), b ≤ b' → Good b l → Good b' l' → Rel b l l' → Step.does sealed h s l' = .comes m' →
    ∃ m, Step.does sealed h s l = .comes m ∧ Good b m ∧ Good b' m' ∧ Rel b m m'
  | .road size ts lw, _, hok, b, b', l, l', m', hle, g, g', r, e => by
    unfold Step.does at e ⊢
    exact road_mono hok hle g g' r e
  | .join most, _, hok, b, b', l, l', m', hle, g, g', r, e => by
    unfold Step.does join at e
    split at e
    · cases e
    · rename_i q
      injection e with e
      subst e
      refine ⟨[b], ?_, good_one b, by rw [g'.sum]; exact good_one b', by rw [g'.sum]; exact rel_one hle⟩
      unfold Step.does join
      rw [if_neg (by have := rel_len r g'; omega), g.sum]
  | .tunnel w most t, _, hok, b, b', l, l', m', hle, g, g', r, e => by
    unfold Step.does at e ⊢
    obtain ⟨rfl, ha⟩ := tunnel_comes e
    refine ⟨l, tunnel_pass fun x hx => ?_, g, g', r⟩
    obtain ⟨y, hy, hxy⟩ := rel_mem r g' x hx
    obtain ⟨k', hk', hl'⟩ := ha y hy
    obtain ⟨k, hk, gk, gk', rk⟩ := Way.mono sealed w hok.1 (h + x) (h + y) k' (by omega) hk'
    exact ⟨k, hk, by have := rel_len rk gk'; omega⟩
end
/-- a sealed letter is one piece -/
theorem Way.from_sealed (h : Nat) : ∀ (steps : List Step) (i b : Nat) (m : List Nat), Way.from true h steps i [b] = .comes m → m = [b]
  | [], i, b, m, e => by
    unfold Way.from at e
    injection e with e
    exact e.symm
  | s :: rest, i, b, m, e => by
    unfold Way.from at e
    split at e
    · rename_i k hk
      have hb : k = [b] := by
        cases s with
        | road size ts lw =>
          unfold Step.does at hk
          rcases road_comes hk with ⟨q, _⟩ | ⟨_, q, _⟩
          · exact q
          · cases q
        | join most =>
          unfold Step.does join at hk
          split at hk
          · cases hk
          · injection hk with hk
            simpa using hk.symm
        | tunnel w most t =>
          unfold Step.does at hk
          exact (tunnel_comes hk).1
      subst hb
      exact Way.from_sealed h rest (i + 1) b m e
    · rename_i f hf
      cases hd : Step.does true h s [b] with
      | comes k => exact absurd hd (hf k)
      | told a p => rw [hd] at e; cases e
      | silent p => rw [hd] at e; cases e
theorem Way.walk_sealed (w : Way) (b : Nat) (m : List Nat) (e : w.walk true b = .comes m) : m = [b] := by
  obtain ⟨h, steps⟩ := w
  exact Way.from_sealed h steps 0 b m e
theorem from_cons (sealed : Bool) (h : Nat) (x : Step) (s : List Step) (i : Nat) (l : List Nat) : Way.from sealed h (x :: s) i l = match Step.does sealed h x l with
    | .comes m => Way.from sealed h s (i + 1) m
    | f => seen i f := by
  conv => lhs; unfold Way.from
/-- one way behind another -/
theorem Way.from_append (sealed : Bool) (h : Nat) (r : List Step) : ∀ (s : List Step) (i : Nat) (l : List Nat), Way.from sealed h (s ++ r) i l = match Way.from sealed h s i l with
    | .comes m => Way.from sealed h r (i + s.length) m
    | f => f
  | [], i, l => by
    show Way.from sealed h r i l = _
    rw [show Way.from sealed h [] i l = .comes l by unfold Way.from; rfl]
    rfl
  | x :: s, i, l => by
    rw [List.cons_append, from_cons, from_cons]
    cases hd : Step.does sealed h x l with
    | comes k =>
      show Way.from sealed h (s ++ r) (i + 1) k = _
      rw [Way.from_append sealed h r s (i + 1) k]
      have e : i + 1 + s.length = i + (x :: s).length := by simp; omega
      rw [e]
    | told a p => rfl
    | silent p => rfl
/-- the places of the steps behind i: as if the way began there -/
def shift (i : Nat) : Fate → Fate
  | .told s (p :: q) => .told s ((p + i) :: q)
  | .silent (p :: q) => .silent ((p + i) :: q)
  | f => f
theorem shift_seen (i j : Nat) (f : Fate) : shift i (seen j f) = seen (j + i) f := by cases f <;> rfl
theorem Way.from_shift (sealed : Bool) (h i : Nat) : ∀ (s : List Step) (j : Nat) (l : List Nat), Way.from sealed h s (j + i) l = shift i (Way.from sealed h s j l)
  | [], j, l => by
    rw [show Way.from sealed h [] j l = .comes l by unfold Way.from; rfl, show Way.from sealed h [] (j + i) l = .comes l by unfold Way.from; rfl]
    rfl
  | x :: s, j, l => by
    rw [from_cons, from_cons]
    cases hd : Step.does sealed h x l with
    | comes k =>
      show Way.from sealed h s (j + i + 1) k = shift i (Way.from sealed h s (j + 1) k)
      rw [show j + i + 1 = j + 1 + i by omega]
      exact Way.from_shift sealed h i s (j + 1) k
    | told a p => exact (shift_seen i j _).symm
    | silent p => exact (shift_seen i j _).symm
end M

end
section
set_option Elab.async false
set_option linter.all false
set_option maxRecDepth 100000
set_option maxHeartbeats 4000000
/-! ## the program's ways: good ones -/
namespace WP
open PySem L2 G
def top (i : Nat) : Stmt := PySem.Challenge.pw_roadsizes_k41_whole_ways_alike.main.body.getD i (.Pass ⟨0, 0, 0, 0⟩)
abbrev sInteger : Stmt := top 2
abbrev sWithin : Stmt := top 3
abbrev sBody : Stmt := top 4
abbrev sMost : Stmt := top 70
abbrev sList : Stmt := top 68
abbrev sStep : Stmt := top 72
abbrev sRoad : Stmt := top 69
abbrev sTells : Stmt := top 71
abbrev sHead : Stmt := top 67
abbrev sInit : Stmt := inClass (top 66) 0
abbrev sLen : Stmt := inClass (top 66) 1
abbrev sAdd : Stmt := inClass (top 66) 5
structure Bn (mg : Str → Option Value) : Prop where
  isi : mg "isinstance" = none
  bool : mg "bool" = none
  int : mg "int" = none
  tuple : mg "tuple" = none
  list : mg "list" = none
  len : mg "len" = none
  enum : mg "enumerate" = none
  max : mg "max" = none
  sum : mg "sum" = none
section
variable {P : Program} {w : World} {K : PySem.W.Frag} {mg : Str → Option Value} {base : Heap}
def spInteger : Sp := fun vs H Q _ => ∃ v : Int, vs = [.int v] ∧ Q (.bl true) H
theorem scIn : FnScope ["value"] ["value"] (defScope sInteger) := ⟨rfl, rfl, rfl, by decide +kernel, rfl, by decide +kernel, by decide +kernel⟩
theorem ok_integer {f : Addr} {fd : FuncData} (F : Fun K "is_integer" "is_integer" sInteger f fd) (B : Bn mg) : FnOk P w K mg base CX0 1 f fd ["value"] spInteger := by
  refine F.ok scIn (fun vs H Q E h => ?_) (fun cdv A outer s H vs Q E hr h => ?_)
  · obtain ⟨v, rfl, _⟩ := h
    rfl
  · obtain ⟨v, rfl, k⟩ := h
    refine ⟨_, pss_one (ps_ret (pe_and (pe_callB call_isi (by rfl) B.isi (by decide +kernel) (pa_cons (pv 0) (pa_cons (pe_bltn (v := .ty "int") (by rfl) B.int (by decide +kernel) rfl) pa_nil)))
      (pe_one (pe_not (pe_callB call_isi (by rfl) B.isi (by decide +kernel) (pa_cons (pv 0) (pa_cons (pe_bltn (v := .ty "bool") (by rfl) B.bool (by decide +kernel) rfl) pa_nil))))))), ?_⟩
    exact ⟨_, rfl, _, _, _, _, _, rfl, .ty _, .base (.int _), kit_ty (r := true) (by decide +kernel), _, rfl, iteT ⟨_, rfl, _, _, _, _, _, rfl, .ty _, .base (.int _), kit_ty (r := false) (by decide +kernel), _, rfl, k⟩⟩
def spWithin : Sp := fun vs H Q _ => ∃ v a b : Int, vs = [.int v, .int a, .int b] ∧ Q (.bl (decide (a ≤ v ∧ v ≤ b))) H
theorem sc3 : FnScope ["value", "least", "greatest"] ["value", "least", "greatest"] (defScope sWithin) := ⟨rfl, rfl, rfl, by decide +kernel, rfl, by decide +kernel, by decide +kernel⟩
theorem ok_within {f fI : Addr} {fd fdI : FuncData} (F : Fun K "is_within" "is_within" sWithin f fd) (B : Bn mg) (FI : Fun K "is_integer" "is_integer" sInteger fI fdI) (gI : mg "is_integer" = some (.ref fI)) (bI : Binds K fdI ["value"] []) : FnOk P w K mg base CX0 2 f fd ["value", "least", "greatest"] spWithin := by
  have GI : FnOk P w K mg base CX0 1 fI fdI ["value"] spInteger := ok_integer FI B
  refine F.ok sc3 (fun vs H Q E h => ?_) (fun cdv A outer s H vs Q E hr h => ?_)
  · obtain ⟨v, a, b, rfl, _⟩ := h
    rfl
  · obtain ⟨v, a, b, rfl, k⟩ := h
    refine ⟨_, pss_one (ps_ret (pe_and (pe_call GI hr rfl gI FI.kp bI .nil pass0 (pa_cons (pv 0) pa_nil)) (pe_one (pe_chain op_le op_le (pv 1) (pv 0) (pv 2))))), ?_⟩
    refine ⟨_, rfl, v, rfl, _, rfl, iteT ?_⟩
    refine ⟨_, rfl, _, rfl, _, _, rfl, rfl, _, rfl, ?_⟩
    refine ite2 (fun h1 => ⟨_, rfl, _, _, rfl, rfl, ?_⟩) (fun h1 => ?_)
    · have e1 : a ≤ v := of_decide_eq_true h1
      have e : decide (a ≤ v ∧ v ≤ b) = decide (v ≤ b) := by
        by_cases z : v ≤ b
        · rw [decide_eq_true z, decide_eq_true ⟨e1, z⟩]
        · rw [decide_eq_false z, decide_eq_false fun q => z q.2]
      rw [e] at k
      exact k
    · have e : decide (a ≤ v ∧ v ≤ b) = false := decide_eq_false fun q => h1 (decide_eq_true q.1)
      rw [e] at k
      exact k
/-- is_body, _is_most of ints -/
def spIn1 (a b : Int) : Sp := fun vs H Q _ => ∃ v : Int, vs = [.int v] ∧ Q (.bl (decide (a ≤ v ∧ v ≤ b))) H
structure Wi (P : Program) (w : World) (K : PySem.W.Frag) (mg : Str → Option Value) (base : Heap) (f : Addr) (fd : FuncData) : Prop where
  ok : FnOk P w K mg base CX0 2 f fd ["value", "least", "greatest"] spWithin
  g : mg "is_within" = some (.ref f)
  k : PySem.W.keepIn K (.ref f) = true
  b : Binds K fd ["value", "least", "greatest"] []
theorem scB : FnScope ["value"] ["value"] (defScope sBody) := ⟨rfl, rfl, rfl, by decide +kernel, rfl, by decide +kernel, by decide +kernel⟩
theorem scM : FnScope ["value"] ["value"] (defScope sMost) := ⟨rfl, rfl, rfl, by decide +kernel, rfl, by decide +kernel, by decide +kernel⟩
theorem ok_body {f fW : Addr} {fd fdW : FuncData} {t : Tok} (F : Fun K "is_body" "is_body" sBody f fd) (W : Wi P w K mg base fW fdW) (g : mg "GREATEST_BODY" = some (.int 1000000000000000000 t)) : FnOk P w K mg base CX0 3 f fd ["value"] (spIn1 0 1000000000000000000) := by
  refine F.ok scB (fun vs H Q E h => ?_) (fun cdv A outer s H vs Q E hr h => ?_)
  · obtain ⟨v, rfl, _⟩ := h
    rfl
  · obtain ⟨v, rfl, k⟩ := h
    exact ⟨_, pss_one (ps_ret (pe_call W.ok hr rfl W.g W.k W.b .nil pass0 (pa_cons (pv 0) (pa_cons pe_int (pa_cons (pe_glob (v := .int 1000000000000000000) rfl g ⟨_, rfl⟩) pa_nil))))), _, rfl, v, 0, 1000000000000000000, rfl, k⟩
theorem ok_most {f fW : Addr} {fd fdW : FuncData} {t : Tok} (F : Fun K "is_most" "is_most" sMost f fd) (W : Wi P w K mg base fW fdW) (g : mg "GREATEST_MOST" = some (.int 1000000000000 t)) : FnOk P w K mg base CX0 3 f fd ["value"] (spIn1 1 1000000000000) := by
  refine F.ok scM (fun vs H Q E h => ?_) (fun cdv A outer s H vs Q E hr h => ?_)
  · obtain ⟨v, rfl, _⟩ := h
    rfl
  · obtain ⟨v, rfl, k⟩ := h
    exact ⟨_, pss_one (ps_ret (pe_call W.ok hr rfl W.g W.k W.b .nil pass0 (pa_cons (pv 0) (pa_cons pe_int (pa_cons (pe_glob (v := .int 1000000000000) rfl g ⟨_, rfl⟩) pa_nil))))), _, rfl, v, 1, 1000000000000, rfl, k⟩
theorem scHd : FnScope ["value"] ["value"] (defScope sHead) := ⟨rfl, rfl, rfl, by decide +kernel, rfl, by decide +kernel, by decide +kernel⟩
theorem ok_head {f fW : Addr} {fd fdW : FuncData} {t : Tok} (F : Fun K "is_head" "is_head" sHead f fd) (W : Wi P w K mg base fW fdW) (g : mg "GREATEST_HEAD" = some (.int 40 t)) : FnOk P w K mg base CX0 3 f fd ["value"] (spIn1 1 40) := by
  refine F.ok scHd (fun vs H Q E h => ?_) (fun cdv A outer s H vs Q E hr h => ?_)
  · obtain ⟨v, rfl, _⟩ := h
    rfl
  · obtain ⟨v, rfl, k⟩ := h
    exact ⟨_, pss_one (ps_ret (pe_call W.ok hr rfl W.g W.k W.b .nil pass0 (pa_cons (pv 0) (pa_cons pe_int (pa_cons (pe_glob (v := .int 40) rfl g ⟨_, rfl⟩) pa_nil))))), _, rfl, v, 1, 40, rfl, k⟩
end
end WP

end
section
set_option Elab.async false
set_option linter.all false
set_option maxRecDepth 100000
set_option maxHeartbeats 4000000
/-! ## ways on the heap -/
namespace M
mutual
def Way.depth : Way → Nat
  | .mk _ s => 1 + Step.deepest s
def Step.deepest : List Step → Nat
  | [] => 0
  | .tunnel w _ _ :: r => max w.depth (Step.deepest r)
  | .road _ _ _ :: r => Step.deepest r
  | .join _ :: r => Step.deepest r
end
mutual
def Way.size : Way → Nat
  | .mk _ s => s.length + Step.inner s
def Step.inner : List Step → Nat
  | [] => 0
  | .tunnel w _ _ :: r => w.size + Step.inner r
  | .road _ _ _ :: r => Step.inner r
  | .join _ :: r => Step.inner r
end
mutual
/-- a way that the program takes -/
def Way.fine : Way → Prop
  | .mk h s => (1 ≤ h ∧ h ≤ 40) ∧ (1 ≤ s.length ∧ s.length ≤ 12) ∧ Step.fineAll h s ∧ 1 + Step.deepest s ≤ 3 ∧ s.length + Step.inner s ≤ 40
def Step.fineAll (h : Nat) : List Step → Prop
  | [] => True
  | s :: r => Step.fine h s ∧ Step.fineAll h r
def Step.fine (h : Nat) : Step → Prop
  | .road size _ _ => h < size ∧ size ≤ 1000
  | .join most => 1 ≤ most ∧ most ≤ 1000000000000
  | .tunnel w most _ => Way.fine w ∧ 1 ≤ most ∧ most ≤ 1000000000000
end
end M
namespace WP
open PySem L2 G
def sdS (b : Bool) : Str := if b then "tell" else "drop"
def lwS : M.LW → Str
  | .cut => "cut"
  | .tell => "tell"
  | .drop => "drop"
def twS : M.TW → Str
  | .turn => "turn"
  | .keep => "keep"
  | .lose => "lose"
def flds (h : Int) (t : Addr) (D Z : Int) : List (Str × V) := putF "size" (.int Z) (putF "depth" (.int D) (putF "steps" (.ref t) (putF "head" (.int h) [])))
theorem nk : ¬ (("head" : Str) = "steps") ∧ ¬ (("head" : Str) = "depth") ∧ ¬ (("head" : Str) = "size") ∧ ¬ (("steps" : Str) = "depth") ∧ ¬ (("steps" : Str) = "size") ∧ ¬ (("depth" : Str) = "size") := by decide +kernel
theorem flds_head (h : Int) (t : Addr) (D Z : Int) : (flds h t D Z).lookup ("head" : Str) = some (.int h) := by
  unfold flds
  rw [lookup_putF, if_neg nk.2.2.1, lookup_putF, if_neg nk.2.1, lookup_putF, if_neg nk.1, lookup_putF, if_pos rfl]
theorem flds_steps (h : Int) (t : Addr) (D Z : Int) : (flds h t D Z).lookup ("steps" : Str) = some (.ref t) := by
  unfold flds
  rw [lookup_putF, if_neg nk.2.2.2.2.1, lookup_putF, if_neg nk.2.2.2.1, lookup_putF, if_pos rfl]
theorem flds_depth (h : Int) (t : Addr) (D Z : Int) : (flds h t D Z).lookup ("depth" : Str) = some (.int D) := by
  unfold flds
  rw [lookup_putF, if_neg nk.2.2.2.2.2, lookup_putF, if_pos rfl]
theorem flds_size (h : Int) (t : Addr) (D Z : Int) : (flds h t D Z).lookup ("size" : Str) = some (.int Z) := by
  unfold flds
  rw [lookup_putF, if_pos rfl]
mutual
/-- a way stands at a -/
def WayAt (C : Addr) (H : Hp) : M.Way → Addr → Prop
  | .mk h s, a => ∃ dx t xs, H a = some (.ins C dx (flds h t ((1 + M.Step.deepest s : Nat) : Int) ((s.length + M.Step.inner s : Nat) : Int))) ∧ H t = some (.tup xs) ∧ StepsAt C H s xs
def StepsAt (C : Addr) (H : Hp) : List M.Step → List V → Prop
  | [], xs => xs = []
  | s :: r, xs => ∃ x ys, xs = x :: ys ∧ StepAt C H s x ∧ StepsAt C H r ys
def StepAt (C : Addr) (H : Hp) : M.Step → V → Prop
  | .road size ts lw, x => ∃ t, x = .ref t ∧ H t = some (.tup [.str "road", .int (size : Int), .str (sdS ts), .str (lwS lw)])
  | .join most, x => ∃ t, x = .ref t ∧ H t = some (.tup [.str "join", .int (most : Int)])
  | .tunnel w most tw, x => ∃ t a, x = .ref t ∧ H t = some (.tup [.str "tunnel", .ref a, .int (most : Int), .str (twS tw)]) ∧ WayAt C H w a
end
mutual
theorem WayAt.mono {C : Addr} {H H' : Hp} (s : Same H H') : ∀ {w : M.Way} {a : Addr}, WayAt C H w a → WayAt C H' w a
  | .mk h st, a, x => by
    unfold WayAt at x ⊢
    obtain ⟨dx, t, xs, h1, h2, h3⟩ := x
    exact ⟨dx, t, xs, s _ _ h1, s _ _ h2, StepsAt.mono s h3⟩
theorem StepsAt.mono {C : Addr} {H H' : Hp} (s : Same H H') : ∀ {st : List M.Step} {xs : List V}, StepsAt C H st xs → StepsAt C H' st xs
  | [], xs, x => by
    unfold StepsAt at x ⊢
    exact x
  | y :: r, xs, x => by
    unfold StepsAt at x ⊢
    obtain ⟨u, ys, e, h1, h2⟩ := x
    exact ⟨u, ys, e, StepAt.mono s h1, StepsAt.mono s h2⟩
theorem StepAt.mono {C : Addr} {H H' : Hp} (s : Same H H') : ∀ {st : M.Step} {x : V}, StepAt C H st x → StepAt C H' st x
  | .road size ts lw, v, x => by
    unfold StepAt at x ⊢
    obtain ⟨t, e, h⟩ := x
    exact ⟨t, e, s _ _ h⟩
  | .join most, v, x => by
    unfold StepAt at x ⊢
    obtain ⟨t, e, h⟩ := x
    exact ⟨t, e, s _ _ h⟩
  | .tunnel w most tw, v, x => by
    unfold StepAt at x ⊢
    obtain ⟨t, a, e, h, h2⟩ := x
    exact ⟨t, a, e, s _ _ h, WayAt.mono s h2⟩
end
theorem StepsAt.get {C : Addr} {H : Hp} : ∀ {st : List M.Step} {xs : List V} {i : Nat} {x : V}, StepsAt C H st xs → xs[i]? = some x → ∃ s, st[i]? = some s ∧ StepAt C H s x
  | [], xs, i, x, h, e => by
    unfold StepsAt at h
    subst h
    cases e
  | y :: r, xs, 0, x, h, e => by
    unfold StepsAt at h
    obtain ⟨u, ys, rfl, h1, _⟩ := h
    cases e
    exact ⟨y, rfl, h1⟩
  | y :: r, xs, i + 1, x, h, e => by
    unfold StepsAt at h
    obtain ⟨u, ys, rfl, _, h2⟩ := h
    obtain ⟨s, a, b⟩ := StepsAt.get (i := i) h2 e
    exact ⟨s, a, b⟩
theorem StepsAt.len {C : Addr} {H : Hp} : ∀ {st : List M.Step} {xs : List V}, StepsAt C H st xs → xs.length = st.length
  | [], xs, h => by
    unfold StepsAt at h
    subst h
    rfl
  | y :: r, xs, h => by
    unfold StepsAt at h
    obtain ⟨u, ys, rfl, _, h2⟩ := h
    exact congrArg Nat.succ h2.len
theorem fine_get {h : Nat} : ∀ {st : List M.Step} {i : Nat} {s : M.Step}, M.Step.fineAll h st → st[i]? = some s → M.Step.fine h s
  | [], i, s, _, e => by cases e
  | y :: r, 0, s, f, e => by
    unfold M.Step.fineAll at f
    cases e
    exact f.1
  | y :: r, i + 1, s, f, e => by
    unfold M.Step.fineAll at f
    exact fine_get (i := i) f.2 e
end WP

end
section
set_option Elab.async false
set_option linter.all false
set_option maxRecDepth 100000
set_option maxHeartbeats 4000000
namespace WP
open PySem L2 G
theorem Same.of_upd {H : Hp} {p : Addr} {o : HO} (h : H p = none) : Same H (upd H p o) := fun a u e => by
  rw [upd_ne (ne_of_none e h)]
  exact e
/-- the class Way, the module's constants -/
structure Wt (K : PySem.W.Frag) (mg : Str → Option Value) (C : Addr) : Prop where
  g : mg "Way" = some (.ref C)
  cl : Cls K C
  nH : NoAttr K C "head"
  nS : NoAttr K C "steps"
  nD : NoAttr K C "depth"
  nZ : NoAttr K C "size"
  iA : PySem.W.findIn K (.ref C) "__class__" = some (some (.builtin "object.__class__"))
  iN : PySem.W.specialIn K (.builtin "object.__class__") "__get__" = some (some (.builtin "getset_descriptor.__get__"))
  iT : PySem.W.takesIn K (.builtin "object.__class__") = some true
  iM : PySem.W.mroIn K C (.type "object") = some true
  gHead : ∃ t, mg "GREATEST_HEAD" = some (.int 40 t)
  gRoad : ∃ t, mg "GREATEST_ROAD" = some (.int 1000 t)
  gMost : ∃ t, mg "GREATEST_MOST" = some (.int 1000000000000 t)
  gSteps : ∃ t, mg "MOST_STEPS" = some (.int 12 t)
  gDepth : ∃ t, mg "GREATEST_DEPTH" = some (.int 3 t)
  gSize : ∃ t, mg "GREATEST_SIZE" = some (.int 40 t)
  wS : ∃ a, mg "SEALED_WORDS" = some (.ref a) ∧ ∀ H, SqT K H a [.str "tell", .str "drop"]
  wL : ∃ a, mg "LOOSE_WORDS" = some (.ref a) ∧ ∀ H, SqT K H a [.str "cut", .str "tell", .str "drop"]
  wT : ∃ a, mg "TELLS_WORDS" = some (.ref a) ∧ ∀ H, SqT K H a [.str "turn", .str "keep", .str "lose"]
/-- a def of the text that is called by its name -/
structure Df (P : Program) (w : World) (K : PySem.W.Frag) (mg : Str → Option Value) (base : Heap) (k : Nat) (x : Str) (ps : List Str) (sp : Sp) : Prop where
  ex : ∃ (f : Addr) (fd : FuncData), FnOk P w K mg base CX0 k f fd ps sp ∧ mg x = some (.ref f) ∧ PySem.W.keepIn K (.ref f) = true ∧ Binds K fd ps []
section
variable {P : Program} {w : World} {K : PySem.W.Frag} {mg : Str → Option Value} {base : Heap} {C : Addr}
def spRoad : Sp := fun vs H Q _ => ∃ (size : Nat) (least : Int) (ts : Bool) (lw : M.LW), vs = [.int (size : Int), .str (sdS ts), .str (lwS lw), .int least] ∧ least ≤ (size : Int) ∧ size ≤ 1000 ∧ Q (.bl true) H
theorem in_sd (b : Bool) : inV (.str (sdS b)) [.str "tell", .str "drop"] = true := by cases b <;> decide +kernel
theorem in_lw (l : M.LW) : inV (.str (lwS l)) [.str "cut", .str "tell", .str "drop"] = true := by cases l <;> decide +kernel
theorem in_tw (l : M.TW) : inV (.str (twS l)) [.str "turn", .str "keep", .str "lose"] = true := by cases l <;> decide +kernel
theorem scR : FnScope ["size", "sealed", "loose", "least"] ["size", "sealed", "loose", "least"] (defScope sRoad) := ⟨rfl, rfl, rfl, by decide +kernel, rfl, by decide +kernel, by decide +kernel⟩
theorem ok_road {f : Addr} {fd : FuncData} (F : Fun K "is_road" "is_road" sRoad f fd) (T : Wt K mg C) (W : Df P w K mg base 2 "is_within" ["value", "least", "greatest"] spWithin) : FnOk P w K mg base CX0 3 f fd ["size", "sealed", "loose", "least"] spRoad := by
  obtain ⟨fW, fdW, GW, gW, kW, bW⟩ := W.ex
  obtain ⟨t1, g1⟩ := T.gRoad
  obtain ⟨aS, g2, q2⟩ := T.wS
  obtain ⟨aL, g3, q3⟩ := T.wL
  refine F.ok scR (fun vs H Q E h => ?_) (fun cdv A outer s H vs Q E hr h => ?_)
  · obtain ⟨size, least, ts, lw, rfl, _⟩ := h
    rfl
  · obtain ⟨size, least, ts, lw, rfl, hs, hs2, k⟩ := h
    refine ⟨_, pss_one (ps_ret (pe_and (pe_call GW hr rfl gW kW bW .nil pass0 (pa_cons (pv 0) (pa_cons (pv 3) (pa_cons (pe_glob (v := .int 1000) rfl g1 ⟨_, rfl⟩) pa_nil)))) (pe_and (pe_cmpR op_in_seq (pv 1) (pe_glob (v := .ref aS) rfl g2 rfl) (by rfl)) (pe_one (pe_cmpR op_in_seq (pv 2) (pe_glob (v := .ref aL) rfl g3 rfl) (by rfl)))))), ?_⟩
    have e : decide (least ≤ (size : Int) ∧ (size : Int) ≤ 1000) = true := decide_eq_true (by omega)
    refine ⟨_, rfl, _, rfl, (size : Int), least, 1000, rfl, ?_⟩
    rw [e]
    refine ⟨_, rfl, ?_⟩
    refine iteT ⟨_, rfl, aS, _, rfl, .inr (q2 _), rfl, rfl, ?_⟩
    rw [in_sd]
    refine ⟨_, rfl, iteT ⟨_, rfl, aL, _, rfl, .inr (q3 _), rfl, rfl, ?_⟩⟩
    rw [in_lw]
    exact k
def spTells : Sp := fun vs H Q _ => ∃ tw : M.TW, vs = [.str (twS tw)] ∧ Q (.bl true) H
theorem scT : FnScope ["value"] ["value"] (defScope sTells) := ⟨rfl, rfl, rfl, by decide +kernel, rfl, by decide +kernel, by decide +kernel⟩
theorem ok_tells {f : Addr} {fd : FuncData} (F : Fun K "is_tells" "is_tells" sTells f fd) (T : Wt K mg C) : FnOk P w K mg base CX0 1 f fd ["value"] spTells := by
  obtain ⟨aT, g2, q2⟩ := T.wT
  refine F.ok scT (fun vs H Q E h => ?_) (fun cdv A outer s H vs Q E hr h => ?_)
  · obtain ⟨tw, rfl, _⟩ := h
    rfl
  · obtain ⟨tw, rfl, k⟩ := h
    refine ⟨_, pss_one (ps_ret (pe_cmpR op_in_seq (pv 0) (pe_glob (v := .ref aT) rfl g2 rfl) (by rfl))), ?_⟩
    refine ⟨_, rfl, aT, _, rfl, .inr (q2 _), rfl, rfl, ?_⟩
    rw [in_tw]
    exact k
/-- is_step_list, of a list or a tuple -/
def spList (K : PySem.W.Frag) : Sp := fun vs H Q _ => ∃ (l : Addr) (xs : List V), vs = [.ref l] ∧ (H l = some (.lst xs) ∨ H l = some (.tup xs)) ∧ 1 ≤ xs.length ∧ xs.length ≤ 12 ∧ ∀ H', Same H H' → Q (.bl true) H'
theorem scLi : FnScope ["value"] ["value"] (defScope sList) := ⟨rfl, rfl, rfl, by decide +kernel, rfl, by decide +kernel, by decide +kernel⟩
theorem ok_list {f : Addr} {fd : FuncData} (F : Fun K "is_step_list" "is_step_list" sList f fd) (B : Bn mg) (T : Wt K mg C) : FnOk P w K mg base CX0 1 f fd ["value"] (spList K) := by
  obtain ⟨t1, g1⟩ := T.gSteps
  refine F.ok scLi (fun vs H Q E h => ?_) (fun cdv A outer s H vs Q E hr h => ?_)
  · obtain ⟨l, xs, rfl, _⟩ := h
    rfl
  · obtain ⟨l, xs, rfl, hl, l1, l2, k⟩ := h
    refine ⟨_, pss_one (ps_ret (pe_and (pe_callB call_isiT (by rfl) B.isi (by decide +kernel) (pa_cons (pv 0) (pa_cons (pe_tup (pa_cons (pe_bltn (v := .ty "list") (by rfl) B.list (by decide +kernel) rfl) (pa_cons (pe_bltn (v := .ty "tuple") (by rfl) B.tuple (by decide +kernel) rfl) pa_nil))) pa_nil)))
      (pe_one (pe_chain op_le op_le pe_int (pe_callB call_len_seq (by rfl) B.len PySem.boot_len (pa_cons (pv 0) pa_nil)) (pe_glob (v := .int 12) rfl g1 ⟨_, rfl⟩))))), ?_⟩
    refine ⟨_, rfl, by show 2 ≤ sizeLine; decide, fun p np => ?_⟩
    have sp : Same H (upd H p (.tup [.ty "list", .ty "tuple"])) := Same.of_upd np
    have fin : ∀ (n : Int), n = (xs.length : Int) → ∀ Q' : VK, (∀ H', Same H H' → Q' (.bl true) H') → (∃ i j, V.int 1 = .int i ∧ V.int n = .int j ∧ ∃ k, V.bl (decide (i ≤ j)) = .bl k ∧ if k = true then ∃ i2 j2, V.int n = .int i2 ∧ V.int 12 = .int j2 ∧ Q' (.bl (decide (i2 ≤ j2))) (upd H p (.tup [.ty "list", .ty "tuple"])) else Q' (.bl false) (upd H p (.tup [.ty "list", .ty "tuple"]))) := by
      intro n hn Q' k'
      refine ⟨_, _, rfl, rfl, _, rfl, ?_⟩
      rw [decide_eq_true (by omega)]
      refine iteT ⟨_, _, rfl, rfl, ?_⟩
      rw [decide_eq_true (by omega)]
      exact k' _ sp
    have kl : PySem.W.kitAny K (.type "list") [.type "list", .type "tuple"] = some true := by
      unfold PySem.W.kitAny
      rw [kit_ty (r := true) (by decide +kernel)]
    have kt : PySem.W.kitAny K (.type "tuple") [.type "list", .type "tuple"] = some true := by
      unfold PySem.W.kitAny
      rw [kit_ty (r := false) (by decide +kernel)]
      unfold PySem.W.kitAny
      rw [kit_ty (r := true) (by decide +kernel)]
    rcases hl with hl | hl
    · exact ⟨_, p, _, _, _, _, rfl, upd_same, .cons (.ty _) (.cons (.ty _) .nil), .base (.lst (sp _ _ hl)), kl, _, rfl, iteT ⟨_, rfl, l, xs, rfl, .inl (SqL.of (sp _ _ hl)), fin _ rfl _ k⟩⟩
    · exact ⟨_, p, _, _, _, _, rfl, upd_same, .cons (.ty _) (.cons (.ty _) .nil), .base (.tup (sp _ _ hl)), kt, _, rfl, iteT ⟨_, rfl, l, xs, rfl, .inr (SqT.of (sp _ _ hl)), fin _ rfl _ k⟩⟩
/-- _is_step of a good step -/
def spStep (C : Addr) : Sp := fun vs H Q _ => ∃ (x : V) (h : Nat) (st : M.Step), vs = [x, .int (h : Int)] ∧ StepAt C H st x ∧ M.Step.fine h st ∧ Q (.bl true) H
theorem scSt : FnScope ["value", "head", "kind"] ["value", "head"] (defScope sStep) := ⟨rfl, rfl, rfl, by decide +kernel, rfl, by decide +kernel, by decide +kernel⟩
theorem kinds : ("road" : Str) ≠ "join" ∧ ("road" : Str) ≠ "tunnel" ∧ ("join" : Str) ≠ "tunnel" ∧ ("join" : Str) ≠ "road" ∧ ("tunnel" : Str) ≠ "road" ∧ ("tunnel" : Str) ≠ "join" := by decide +kernel
theorem ok_step {f : Addr} {fd : FuncData} (F : Fun K "_is_step" "_is_step" sStep f fd) (B : Bn mg) (T : Wt K mg C) (WR : Df P w K mg base 3 "is_road" ["size", "sealed", "loose", "least"] spRoad) (WM : Df P w K mg base 3 "is_most" ["value"] (spIn1 1 1000000000000)) (WT : Df P w K mg base 1 "is_tells" ["value"] spTells) :
    FnOk P w K mg base CX0 5 f fd ["value", "head"] (spStep C) := by
  obtain ⟨fR, fdR, GR, gR, kR, bR⟩ := WR.ex
  obtain ⟨fM, fdM, GM, gM, kM, bM⟩ := WM.ex
  obtain ⟨fT, fdT, GT, gT, kT, bT⟩ := WT.ex
  refine F.ok scSt (fun vs H Q E h => ?_) (fun cdv A outer s H vs Q E hr h => ?_)
  · obtain ⟨x, h, st, rfl, _⟩ := h
    rfl
  · obtain ⟨x, h, st, rfl, hx, hf, k⟩ := h
    refine ⟨_, pss_cons (ps_if (PW.pt (pw_or (pt_not (pt_val (pe_callB call_isi (by rfl) B.isi (by decide +kernel) (pa_cons (pv 0) (pa_cons (pe_bltn (v := .ty "tuple") (by rfl) B.tuple (by decide +kernel) rfl) pa_nil))))) (pw_or1 (pt_cmpR (op_eq) (pe_callB call_len_seq (by rfl) B.len PySem.boot_len (pa_cons (pv 0) pa_nil)) (pe_int) (nomark _))))) (pss_one (ps_ret pe_bl)) (pss_nil))
      (pss_cons (ps_set (i := 2) scSt.nd rfl (Or.inl rfl) (pe_ix ix_tup (pv 0) pe_int (fun _ _ => rfl)))
      (pss_cons (ps_if (pt_cmpR (op_eq) (pv 2) (pe_str) (nomark _)) (pss_one (ps_ret (pe_and (pe_cmpR (op_eq) (pe_callB call_len_seq (by rfl) B.len PySem.boot_len (pa_cons (pv 0) pa_nil)) (pe_int) (nomark _)) (pe_one (pe_call GR (hr.mono (by decide)) rfl gR kR bR .nil pass0 (pa_cons (pe_ix ix_tup (pv 0) pe_int (fun _ _ => rfl)) (pa_cons (pe_ix ix_tup (pv 0) pe_int (fun _ _ => rfl)) (pa_cons (pe_ix ix_tup (pv 0) pe_int (fun _ _ => rfl)) (pa_cons (pe_op op_add (pv 1) (pe_int)) pa_nil))))))))) (pss_nil))
      (pss_cons (ps_if (pt_cmpR (op_eq) (pv 2) (pe_str) (nomark _)) (pss_one (ps_ret (pe_and (pe_cmpR (op_eq) (pe_callB call_len_seq (by rfl) B.len PySem.boot_len (pa_cons (pv 0) pa_nil)) (pe_int) (nomark _)) (pe_one (pe_call GM (hr.mono (by decide)) rfl gM kM bM .nil pass0 (pa_cons (pe_ix ix_tup (pv 0) pe_int (fun _ _ => rfl)) pa_nil)))))) (pss_nil))
      (pss_cons (ps_if (pt_cmpR (op_eq) (pv 2) (pe_str) (nomark _)) (pss_one (ps_ret (pe_and (pe_cmpR (op_eq) (pe_callB call_len_seq (by rfl) B.len PySem.boot_len (pa_cons (pv 0) pa_nil)) (pe_int) (nomark _)) (pe_and (pe_callB call_isi (by rfl) B.isi (by decide +kernel) (pa_cons (pe_ix ix_tup (pv 0) pe_int (fun _ _ => rfl)) (pa_cons (pe_glob (v := .ref C) rfl T.g rfl) pa_nil))) (pe_and (pe_call GM (hr.mono (by decide)) rfl gM kM bM .nil pass0 (pa_cons (pe_ix ix_tup (pv 0) pe_int (fun _ _ => rfl)) pa_nil)) (pe_one (pe_call GT (hr.mono (by decide)) rfl gT kT bT .nil pass0 (pa_cons (pe_ix ix_tup (pv 0) pe_int (fun _ _ => rfl)) pa_nil)))))))) (pss_nil))
      (pss_one (ps_ret pe_bl)))))), ?_⟩
    have pre : ∀ (t : Addr) (y : V) (ys : List V), x = .ref t → H t = some (.tup (y :: ys)) → ∀ (D : Ends) (rest : TS), rest D [some x, some (.int (h : Int)), some y] H →
        tSeq (tIfS (tOr (tNot (tB (tCB (rIsi K) (tCons (tVar 0) (tCons (tC (.ty "tuple")) tNil))))) (tTest (tOp rEq (tCB (fun xs H Q => ∃ p ys, xs = [.ref p] ∧ (SqL K H p ys ∨ SqT K H p ys) ∧ Q (.int ys.length) H) (tCons (tVar 0) tNil)) (tC (.int 0))))) (tRet (tC (.bl false))) tNext)
          (tSeq (tAsg (tOp (rIxT K) (tVar 0) (tC (.int 0))) (gName 2)) rest) D [some x, some (.int (h : Int)), none] H := by
      intro t y ys ex ht D rest q
      subst ex
      refine ⟨_, rfl, _, _, _, _, _, rfl, .ty _, .base (.tup ht), kit_ty (r := true) (by decide +kernel), _, rfl, iteF ⟨_, rfl, t, _, rfl, .inr (SqT.of ht), rfl, _, rfl, ?_⟩⟩
      have e : decide (V.int ((y :: ys).length : Int) = V.int 0) = false := decide_eq_false (by
        intro z
        injection z with z
        simp at z
        omega)
      rw [e]
      exact iteF ⟨_, rfl, t, _, _, y, rfl, rfl, SqT.of ht, (by exact atI_nat (xs := y :: ys) (j := 0) rfl), q⟩
    have yes : ∀ {a : Str}, decide (V.str a = V.str a) = true := decide_eq_true rfl
    have no : ∀ {a b : Str}, a ≠ b → decide (V.str a = V.str b) = false := fun h => decide_eq_false fun z => h (V.str.inj z)
    cases st with
    | road size ts lw =>
      unfold StepAt at hx
      unfold M.Step.fine at hf
      obtain ⟨t, rfl, ht⟩ := hx
      refine pre t _ _ rfl ht _ _ ⟨_, rfl, rfl, _, rfl, ?_⟩
      rw [yes]
      exact iteT ⟨_, rfl, t, _, rfl, .inr (SqT.of ht), rfl, _, rfl, iteT ⟨_, rfl, t, _, _, _, rfl, rfl, SqT.of ht, (by exact atI_nat (xs := [V.str "road", .int (size : Int), .str (sdS ts), .str (lwS lw)]) (j := 1) rfl), _, rfl, t, _, _, _, rfl, rfl, SqT.of ht, (by exact atI_nat (xs := [V.str "road", .int (size : Int), .str (sdS ts), .str (lwS lw)]) (j := 2) rfl), _, rfl, t, _, _, _, rfl, rfl, SqT.of ht, (by exact atI_nat (xs := [V.str "road", .int (size : Int), .str (sdS ts), .str (lwS lw)]) (j := 3) rfl), _, rfl, _, _, rfl, rfl, size, (h : Int) + 1, ts, lw, rfl, by omega, hf.2, k⟩⟩
    | join most =>
      unfold StepAt at hx
      unfold M.Step.fine at hf
      obtain ⟨t, rfl, ht⟩ := hx
      refine pre t _ _ rfl ht _ _ ⟨_, rfl, rfl, _, rfl, ?_⟩
      rw [no kinds.2.2.2.1]
      refine iteF ⟨_, rfl, rfl, _, rfl, ?_⟩
      rw [yes]
      refine iteT ⟨_, rfl, t, _, rfl, .inr (SqT.of ht), rfl, _, rfl, iteT ⟨_, rfl, t, _, _, _, rfl, rfl, SqT.of ht, (by exact atI_nat (xs := [V.str "join", V.int (most : Int)]) (j := 1) rfl), most, rfl, ?_⟩⟩
      rw [decide_eq_true (by omega)]
      exact k
    | tunnel w most tw =>
      unfold StepAt at hx
      unfold M.Step.fine at hf
      obtain ⟨t, a, rfl, ht, hw⟩ := hx
      refine pre t _ _ rfl ht _ _ ⟨_, rfl, rfl, _, rfl, ?_⟩
      rw [no kinds.2.2.2.2.1]
      refine iteF ⟨_, rfl, rfl, _, rfl, ?_⟩
      rw [no kinds.2.2.2.2.2]
      refine iteF ⟨_, rfl, rfl, _, rfl, ?_⟩
      rw [yes]
      obtain ⟨wh, ws⟩ := w
      unfold WayAt at hw
      obtain ⟨dx, u, xs, h1, _, _⟩ := hw
      have kit : PySem.W.kitOne K (.ref C) (.ref C) = some true := by
        unfold PySem.W.kitOne
        rw [if_pos (by simp)]
      refine iteT ⟨_, rfl, t, _, rfl, .inr (SqT.of ht), rfl, _, rfl, iteT ⟨_, rfl, t, _, _, _, rfl, rfl, SqT.of ht, (by exact atI_nat (xs := [V.str "tunnel", .ref a, .int (most : Int), .str (twS tw)]) (j := 1) rfl), _, _, _, _, true, rfl, .own C, .base (.ins h1 T.cl T.iA T.iN T.iT T.iM), kit, _, rfl, iteT ⟨_, rfl, t, _, _, _, rfl, rfl, SqT.of ht, (by exact atI_nat (xs := [V.str "tunnel", .ref a, .int (most : Int), .str (twS tw)]) (j := 2) rfl), most, rfl, ?_⟩⟩⟩
      rw [decide_eq_true (by omega)]
      exact ⟨_, rfl, iteT ⟨_, rfl, t, _, _, _, rfl, rfl, SqT.of ht, (by exact atI_nat (xs := [V.str "tunnel", .ref a, .int (most : Int), .str (twS tw)]) (j := 3) rfl), tw, rfl, k⟩⟩
end
end WP

end
section
set_option autoImplicit false
set_option Elab.async false
set_option linter.all false
set_option maxRecDepth 100000
set_option maxHeartbeats 4000000
namespace WP
open PySem L2 G PyProof.Rows
/-! ### a tuple that is counted through -/
theorem en_new {v : Value} {o : Obj} {Hd : Heap → Prop} (B : Begins v o Hd) : Meets (Builtin.«enumerate.__new__» ⟨[.type "enumerate", v], []⟩) (fun _ R u => Hd u.heap ∧ R (.ok (.ret (.ref (u.heap.push o).objs.size))) { u with heap := (u.heap.push o).push { cls := .type "enumerate", data := .fields #[.none, .bool false, .ref u.heap.objs.size, rawInt 0, .none, .none] } }) :=
  .of_wp fun prog w A R u h => by
    obtain ⟨x, g, d, k, os⟩ := u
    obtain ⟨h1, h⟩ := h
    have sb := sub_enumerate
    have q1 : ∀ {A2 : Around} {E : Value → Shared → Prop} {Q : Value → Shared → Prop}, Q (.ref x.objs.size) ⟨x.push o, g, d, k, os⟩ → wpAny (model prog w) A2 (pyIter v) Q E ⟨x, g, d, k, os⟩ := fun q => B.iter prog w _ _ ⟨x, g, d, k, os⟩ _ h1 q
    wp_walk using q1
    refine wpAny_stack_any fun _ => wpAny_pure ?_
    split
    · rename_i c _ _ _ _ _
      cases (c == Value.type "enumerate") <;> (wp_walk using q1; exact ⟨_, rfl, h⟩)
    · (wp_walk using q1; exact ⟨_, rfl, h⟩)
theorem en_call {prog : Program} {w : World} {A : Around} {E : Value → Shared → Prop} {s : Shared} {v : Value} {o : Obj} {Hd : Heap → Prop} {Q : Value → Shared → Prop} (B : Begins v o Hd) (h1 : Hd s.heap)
    (h : ∀ u, IsEnum u (s.heap.objs.size + 1) s.heap.objs.size 0 .none → u.get? s.heap.objs.size = some o → (∀ b p, s.heap.get? b = some p → u.get? b = some p) → Q (.ref (s.heap.objs.size + 1)) { s with heap := u }) : wpAny (model prog w) A (call (.type "enumerate") [v]) Q E s := by
  refine callType_new F.called_enumerate (by decide) (F.typeCall_enumerate_1 _) (F.newCall_enumerate_1 _) (fun x => F.args_object_init_2 x _) F.entry_enumerate_new (en_new B) ⟨h1, ?_⟩
  have z : (s.heap.push o).objs.size = s.heap.objs.size + 1 := Heap.size_push ..
  show _ ∧ _
  rw [z]
  have he := Heap.get?_push_size (s.heap.push o) (o := { cls := .type "enumerate", data := .fields #[.none, .bool false, .ref s.heap.objs.size, rawInt 0, .none, .none] }) rfl
  rw [z] at he
  exact ⟨⟨_, he, rfl⟩, h _ he (Heap.get?_push_of_some _ (Heap.get?_push_size _ B.free)) fun b p e => Heap.get?_push_of_some _ (Heap.get?_push_of_some _ e)⟩
/-- the tuple at a, each item in a new pair behind its place -/
def Iet (K : PySem.W.Frag) (a : Addr) : It where
  go := fun i H => ∃ (xs : List V) (x : V), SqT K H a xs ∧ xs[i]? = some x
  yld := fun i H v H' => ∃ T x, v = .ref T ∧ H T = none ∧ H' = upd H T (.tup [.int (i : Nat), x]) ∧ ∀ xs, SqT K H a xs → xs[i]? = some x
  stop := fun i H => ∃ xs : List V, SqT K H a xs ∧ xs.length ≤ i
theorem turn_et {P : Program} {w : World} {K : PySem.W.Frag} {elts : List Expr} {kk : Nat} {tpos : Pos} (a e it : Addr) (hae : a ≠ e) (hai : a ≠ it) :
    Turn P w K (.Tuple elts kk tpos) (Iet K a) [e, it] e (fun i h => (∃ x, IsEnum h e it ((i : Nat) : Int) x) ∧ h.IsTupleIter it a i ∧ e ≠ it) where
  mem := List.mem_cons_self
  obj := fun i h st b hb => by
    obtain ⟨⟨x, he⟩, ⟨o, ho, hc, hd⟩, _⟩ := st
    rcases List.mem_cons.mp hb with z | z
    · subst z
      exact ⟨_, he, fun v q => nomatch q⟩
    · have z2 : b = it := by simpa using z
      subst z2
      exact ⟨o, ho, fun v q => by rw [hd] at q; cases q⟩
  keep := fun i h h' st k => by
    obtain ⟨⟨x, he⟩, hi, hn⟩ := st
    exact ⟨⟨x, k e (by simp) _ he⟩, hi.at fun o q => k it (by simp) o q, hn⟩
  item := by
    intro X hP hw hK hc i
    intro pins s σ H E I hf st hg
    subst hP hw hK
    obtain ⟨⟨_, he⟩, hit, hne⟩ := st
    obtain ⟨xs, x, hq, hx⟩ := hg
    obtain ⟨its, rv, p, lz⟩ := I.tuple hq
    obtain ⟨u, hu, ru⟩ := rv.get hx
    have hi : i < its.toArray.size := by
      have := List.getElem?_eq_some_iff.mp hu
      obtain ⟨z, _⟩ := this
      simpa using z
    have le : e < s.heap.objs.size := Heap.lt_size he
    have li : it < s.heap.objs.size := by
      obtain ⟨_, q, _⟩ := hit
      exact Heap.lt_size q
    have hef : e ∉ [it, a] := by
      intro z
      rcases List.mem_cons.mp z with z | z
      · exact hne z
      · have z2 : e = a := by simpa using z
        exact hae z2.symm
    refine wpAny_pyNext_enum_itemD (Draws.tuple (A := X.A.in1) (by exact I.ok.hd hc) it a hai its.toArray) he ⟨hit, show s.heap.IsTuple a its.toArray from p⟩ hi hne hef fun y h' tk hy ho hs hT hsz hk => ?_
    have ey : y = u := by
      have q : its.toArray[i]? = some u := by simpa using hu
      rw [q] at hy
      exact (Option.some.inj hy).symm
    subst ey
    refine ⟨_, rfl, wpAny_letOwnedTupleGo_enum (s := { s with heap := h', toks := tk + 1 }) ho fun h2 he2 sb => ?_⟩
    have hT2 : h2.get? s.heap.objs.size = some { cls := .type "tuple", data := .seq #[.int i tk, y] } := (sb.2 _ (Nat.ne_of_gt le)).trans hT
    have new : ObjOk X.prog X.w (upd H s.heap.objs.size (.tup [.int (i : Nat), x])) h2 s.heap.objs.size (.tup [.int (i : Nat), x]) :=
      ⟨by show 2 ≤ sizeLine; decide, [.int i tk, y], .cons ⟨_, rfl⟩ (.cons ru .nil), ⟨_, hT2, rfl, _, rfl⟩⟩
    have keep : ∀ b ob, b ∉ [e, it] → s.heap.get? b = some ob → h2.get? b = some ob := fun b ob hb q => (sb.2 b (fun z => hb (by simp [z]))).trans (hk b ob (fun z => hb (by simp [z])) (fun z => hb (by simp [z])) q)
    have I1 : Inv X pins σ (upd H s.heap.objs.size (.tup [.int (i : Nat), x])) { s with heap := h2, toks := tk + 1 } := I.turnedNew (ch := [e, it]) keep hf (Nat.le_refl _) new
    refine ⟨.ref s.heap.objs.size, _, I1, rfl, ⟨_, x, rfl, I.hok.fresh (Nat.le_refl _), rfl, fun ys hy => by rw [I.tuple_inj hy hq]; exact hx⟩, ⟨⟨y, ?_⟩, hs.1.at fun o q => (sb.2 it (Ne.symm hne)).trans q, hne⟩, fun b hb => ?_⟩
    · rw [show ((i + 1 : Nat) : Int) = (i : Int) + 1 by omega]
      exact he2
    · have lb : b < s.heap.objs.size := by
        rcases List.mem_cons.mp hb with z | z
        · rw [z]; exact le
        · rw [show b = it by simpa using z]; exact li
      rw [upd_ne (Nat.ne_of_lt lb)]
      exact (hf b hb).1
  done := by
    intro X hP hw hK hc i
    intro pins s σ H E I hf st hg
    subst hP hw hK
    obtain ⟨⟨_, he⟩, hit, hne⟩ := st
    obtain ⟨xs, hq, hx⟩ := hg
    obtain ⟨its, rv, p, lz⟩ := I.tuple hq
    have ⟨f0, f1, f2, f3, f4, f5⟩ := hf it (List.mem_cons_of_mem _ List.mem_cons_self)
    have hl := rv.length
    have hTe : s.TypeIs (.ref e) "enumerate" := ⟨_, he, rfl⟩
    unfold pyNext
    refine wpAny_bind (wpAny_attempt (wpAny_callSpecial?_slot (name := Str.ofString "__next__") hTe F.slot_enumerate_next (wpAny_call_entry F.slot_enumerate_next hTe F.entry_enumerate_next ?_ (F.args_enumerate_next_1 _))))
    refine (show wpAny _ _ (field (.ref e) 2 >>= _) _ _ _ from ?_)
    refine wpAny_bind (wpAny_field he rfl (x := .ref it) rfl (wpAny_bind (wpAny_nextOf_tuple_end (I.ok.hd hc) hit (show s.heap.IsTuple a its.toArray from p) (by simp; omega) fun h' x hx1 hx2 => ?_)))
    obtain ⟨o, ho, hc2⟩ := hx2
    exact wpAny_bind (wpAny_isInstance (T := "StopIteration") (b := true) ⟨o, ho, hc2⟩ isSubtype_stop (wpAny_pure ⟨rfl, I.turned (t' := s.toks) (fun b o hb q => hx1 b o hb q) f0 f1 f3 f4 f5⟩))
  self := fun _ _ s Q E st h => by
    obtain ⟨⟨x, he⟩, _⟩ := st
    exact wpAny_pyIter_enum he h
def iEnT (K : PySem.W.Frag) (ta : TA) : TI := fun σ H R => ta σ H fun vs H1 => ∃ a xs, vs = [.ref a] ∧ SqT K H1 a xs ∧ R (Iet K a) H1
theorem pi_et {X : Cx} {e : Expr} {ta : TA} {p pos tpos : Pos} {elts : List Expr} {kk : Nat} (hg : Gl X "enumerate") (hm : X.mg "enumerate" = none) (ha : PA X [e] ta) (hs : starEach [e] X.env = [(false, eval e X.env)] := by rfl) : PI X (.Tuple elts kk tpos) (.Call (.Name "enumerate" p) [e] [] pos) (iEnT X.K ta) := by
  constructor
  intro pins s σ H R I h
  refine Call_ (ld_blt I hg hm boot_enumerate (PyProof.Rows.callWith_type1 (thn (ha.run pos pins s σ H _ I h) fun us s1 ⟨vs, H1, I1, r1, a, xs, ex, hq, q⟩ => ?_) hs rfl))
  subst ex
  cases r1 with
  | cons r rr =>
    cases rr
    cases r
    obtain ⟨its, rv, p', hz⟩ := I1.tuple hq
    have p2 : s1.heap.IsTuple a its.toArray := p'
    have la : a < s1.heap.objs.size := by
      obtain ⟨_, q, _⟩ := p2
      exact Heap.lt_size q
    refine en_call (begins_tuple a its.toArray) p2 fun u he hit hk => wpAny_pyIter_enum he ?_
    have I2 : Inv X pins σ H1 { s1 with heap := u } := I1.kept (t' := s1.toks) hk
    refine ⟨_, [s1.heap.objs.size + 1, s1.heap.objs.size], _, _, H1, rfl, I2, turn_et a (s1.heap.objs.size + 1) s1.heap.objs.size (Nat.ne_of_lt (Nat.lt_succ_of_lt la)) (Nat.ne_of_lt la), ⟨⟨.none, he⟩, ⟨_, hit, rfl, rfl⟩, Nat.succ_ne_self _⟩, fun b hb => ?_, q⟩
    have sb : s1.heap.objs.size ≤ b := by
      rcases List.mem_cons.mp hb with z | z
      · rw [z]; exact Nat.le_add_right _ _
      · rw [show b = s1.heap.objs.size by simpa using z]
        exact Nat.le_refl _
    exact I1.fpOk sb (I1.hok.fresh sb)
theorem walk_et {K : PySem.W.Frag} {a : Addr} {xs : List V} : Walk (Iet K a) xs.length (fun H => SqT K H a xs) (YPair (fun i => some (.int (i : Nat))) (fun i => xs[i]?)) where
  goes := fun i _ hi q => ⟨xs, xs[i], q, by simp [hi]⟩
  stops := fun _ q => ⟨xs, q, Nat.le_refl _⟩
  yields := fun i H v H' _ q y => by
    obtain ⟨T, x, h1, h2, h3, h4⟩ := y
    exact ⟨T, _, x, h1, h2, h3, rfl, h4 xs q⟩
end WP

end
section
set_option autoImplicit false
set_option Elab.async false
set_option linter.all false
set_option maxRecDepth 100000
set_option maxHeartbeats 4000000
/-! ## Way.__init__ for good rows: the pieces -/
namespace M
def tuns : List Step → List Way
  | [] => []
  | .tunnel w _ _ :: r => w :: tuns r
  | .road _ _ _ :: r => tuns r
  | .join _ :: r => tuns r
theorem tuns_app : ∀ (l m : List Step), tuns (l ++ m) = tuns l ++ tuns m
  | [], m => rfl
  | .tunnel w a b :: r, m => by
    show w :: tuns (r ++ m) = w :: tuns r ++ tuns m
    rw [tuns_app r m]; rfl
  | .road a b c :: r, m => tuns_app r m
  | .join a :: r, m => tuns_app r m
theorem tuns_len : ∀ l : List Step, (tuns l).length ≤ l.length
  | [] => Nat.le_refl _
  | .tunnel w a b :: r => by
    show (tuns r).length + 1 ≤ r.length + 1
    exact Nat.succ_le_succ (tuns_len r)
  | .road a b c :: r => Nat.le_succ_of_le (tuns_len r)
  | .join a :: r => Nat.le_succ_of_le (tuns_len r)
theorem inner_eq : ∀ st : List Step, Step.inner st = ((tuns st).map Way.size).sum
  | [] => by simp [Step.inner, tuns]
  | .tunnel w a b :: r => by
    unfold Step.inner tuns
    rw [inner_eq r, List.map_cons, List.sum_cons]
  | .road a b c :: r => by
    unfold Step.inner tuns
    exact inner_eq r
  | .join a :: r => by
    unfold Step.inner tuns
    exact inner_eq r
theorem deepest_eq : ∀ st : List Step, Step.deepest st = (tuns st).foldr (fun w d => max w.depth d) 0
  | [] => by simp [Step.deepest, tuns]
  | .tunnel w a b :: r => by
    unfold Step.deepest tuns
    rw [deepest_eq r, List.foldr_cons]
  | .road a b c :: r => by
    unfold Step.deepest tuns
    exact deepest_eq r
  | .join a :: r => by
    unfold Step.deepest tuns
    exact deepest_eq r
theorem fold_max : ∀ (l : List Int) (a b : Int), (l.foldl max (max a b)) = max a (l.foldl max b)
  | [], a, b => rfl
  | c :: r, a, b => by
    show r.foldl max (max (max a b) c) = max a (r.foldl max (max b c))
    rw [Int.max_assoc, fold_max r a (max b c)]
theorem deep_max (ws : List Way) : (match ws.map fun w => ((w.depth : Nat) : Int) with | [] => (0 : Int) | n :: r => r.foldl max n) = ((ws.foldr (fun w d => max w.depth d) 0 : Nat) : Int) := by
  induction ws with
  | nil => rfl
  | cons w r ih =>
    show ((r.map fun w => ((w.depth : Nat) : Int)).foldl max ((w.depth : Nat) : Int)) = _
    cases r with
    | nil => show ((w.depth : Nat) : Int) = ((max w.depth 0 : Nat) : Int); rw [Nat.max_zero]
    | cons v q =>
      show ((q.map fun w => ((w.depth : Nat) : Int)).foldl max (max ((w.depth : Nat) : Int) ((v.depth : Nat) : Int))) = _
      rw [fold_max]
      have e : ((q.map fun w => ((w.depth : Nat) : Int)).foldl max ((v.depth : Nat) : Int)) = (((v :: q).foldr (fun w d => max w.depth d) 0 : Nat) : Int) := ih
      rw [e]
      show _ = ((max w.depth ((v :: q).foldr (fun w d => max w.depth d) 0) : Nat) : Int)
      omega
theorem sum_cast (ws : List Way) : (ws.map fun w => ((w.size : Nat) : Int)).sum = (((ws.map Way.size).sum : Nat) : Int) := by
  induction ws with
  | nil => rfl
  | cons w r ih => rw [List.map_cons, List.sum_cons, ih, List.map_cons, List.sum_cons]; omega
end M
namespace WP
open PySem L2 G
section
variable {X : Cx} {tg it : Expr}
theorem pi_or {w1 w2 : TI} (h1 : PI X tg it w1) (h2 : PI X tg it w2) : PI X tg it (fun σ H R => w1 σ H R ∨ w2 σ H R) := ⟨fun pins s σ H R I h => h.elim (h1.run pins s σ H R I) (h2.run pins s σ H R I)⟩
def tDead : TS := fun _ _ _ => False
theorem ps_dead {b : List Stmt} : PSs X b tDead := ⟨fun _ _ _ _ _ _ h => h.elim⟩
end
def SAt (H : Hp) (l : Addr) (xs : List V) : Prop := H l = some (.lst xs) ∨ H l = some (.tup xs)
theorem SAt.mono {H H' : Hp} {l : Addr} {xs : List V} (s : Same H H') (h : SAt H l xs) : SAt H' l xs := h.elim (fun e => .inl (s _ _ e)) fun e => .inr (s _ _ e)
section
variable {K : PySem.W.Frag} {H : Hp} {σ : St} {l : Addr} {xs : List V}
theorem or_seq {te : TE} {R : It → Hp → Prop} (ht : ∀ Q : VK, Q (.ref l) H → te σ H Q) (hl : SAt H l xs) (k : ∀ (J : It) (Gd : Hp → Prop), (∀ H', Same H H' → Gd H') → Walk J xs.length Gd (YAt xs) → R J H) : iList K te σ H R ∨ iTup K te σ H R :=
  hl.elim (fun e => .inl (ht _ ⟨l, rfl, ⟨xs, SqL.of e⟩, k _ _ (fun H' s => SqL.of (s _ _ e)) walk_list⟩)) fun e => .inr (ht _ ⟨l, rfl, ⟨xs, SqT.of e⟩, k _ _ (fun H' s => SqT.of (s _ _ e)) walk_tup⟩)
theorem or_enum {ta : TA} {R : It → Hp → Prop} (ht : ∀ Q : List V → Hp → Prop, Q [.ref l] H → ta σ H Q) (hl : SAt H l xs) (k : ∀ (J : It) (Gd : Hp → Prop), (∀ H', Same H H' → Gd H') → Walk J xs.length Gd (YPair (fun i => some (.int (i : Nat))) (fun i => xs[i]?)) → R J H) : iEnum K ta σ H R ∨ iEnT K ta σ H R :=
  hl.elim (fun e => .inl (ht _ ⟨l, xs, rfl, SqL.of e, k _ _ (fun H' s => SqL.of (s _ _ e)) walk_enum⟩)) fun e => .inr (ht _ ⟨l, xs, rfl, SqT.of e, k _ _ (fun H' s => SqT.of (s _ _ e)) walk_et⟩)
end
/-- ways at addresses -/
inductive WaysAt (C : Addr) (H : Hp) : List M.Way → List V → Prop
  | nil : WaysAt C H [] []
  | cons {w : M.Way} {a : Addr} {ws : List M.Way} {vs : List V} (h : WayAt C H w a) (t : WaysAt C H ws vs) : WaysAt C H (w :: ws) (.ref a :: vs)
theorem WaysAt.mono {C : Addr} {H H' : Hp} (s : Same H H') {ws : List M.Way} {vs : List V} (h : WaysAt C H ws vs) : WaysAt C H' ws vs := by
  induction h with
  | nil => exact .nil
  | cons h _ ih => exact .cons (h.mono s) ih
theorem WaysAt.snoc {C : Addr} {H : Hp} {ws : List M.Way} {vs : List V} {w : M.Way} {a : Addr} (h : WaysAt C H ws vs) (hw : WayAt C H w a) : WaysAt C H (ws ++ [w]) (vs ++ [.ref a]) := by
  induction h with
  | nil => exact .cons hw .nil
  | cons h _ ih => exact .cons h ih
theorem WaysAt.len {C : Addr} {H : Hp} {ws : List M.Way} {vs : List V} (h : WaysAt C H ws vs) : vs.length = ws.length := by
  induction h with
  | nil => rfl
  | cons _ _ ih => simp [ih]
theorem WaysAt.get {C : Addr} {H : Hp} {ws : List M.Way} {vs : List V} (h : WaysAt C H ws vs) : ∀ {i : Nat} {v : V}, vs[i]? = some v → ∃ w a, ws[i]? = some w ∧ v = .ref a ∧ WayAt C H w a := by
  induction h with
  | nil => intro i v e; cases e
  | cons h t ih =>
    intro i v e
    cases i with
    | zero => cases e; exact ⟨_, _, rfl, rfl, h⟩
    | succ i => obtain ⟨w, a, e1, e2, e3⟩ := ih (i := i) e; exact ⟨w, a, e1, e2, e3⟩
end WP

end
section
set_option autoImplicit false
set_option Elab.async false
set_option linter.all false
set_option maxRecDepth 100000
set_option maxHeartbeats 4000000
/-! ## Way.__init__ for good rows -/
namespace WP
open PySem L2 G
section
variable {P : Program} {w : World} {K : PySem.W.Frag} {mg : Str → Option Value} {base : Heap} {C : Addr}
abbrev NI : List Str := ["self", "head", "steps", "position", "step", "inner_ways", "depth", "size", "inner"]
theorem scI : FnScope NI ["self", "head", "steps"] (defScope sInit) := ⟨rfl, rfl, rfl, by decide +kernel, rfl, by decide +kernel, by decide +kernel⟩
/-- the ways of the tunnels -/
def tTuns (K : PySem.W.Frag) : TE := tLc (fun σ H R => iList K (tVar 2) σ H R ∨ iTup K (tVar 2) σ H R) (gName 4) (tTest (tOp rEq (tOp (rIxT K) (tVar 4) (tC (.int 0))) (tC (.str "tunnel")))) (tOp (rIxT K) (tVar 4) (tC (.int 1))) [4]
theorem add_upd {H G : Hp} {D : Addr} {o : HO} (nD : H D = none) (s : Same H G) : Same H (upd G D o) := fun b u e => by
  rw [upd_ne (ne_of_none e nD)]
  exact s _ _ e
theorem take_snoc {α : Type} {l : List α} {i : Nat} {x : α} (h : l[i]? = some x) : l.take (i + 1) = l.take i ++ [x] := by
  rw [List.take_succ, h]
  rfl
theorem tuns_run {σ : St} {H : Hp} {a0 a1 p q a5 a6 a7 a8 : Option V} {l : Addr} {xs : List V} {st : List M.Step} {Q : VK} (hσ : σ = [a0, a1, some (.ref l), p, q, a5, a6, a7, a8]) (hl : SAt H l xs) (hs : StepsAt C H st xs) (hn : xs.length ≤ 1000)
    (k : ∀ D vs H', Same H H' → H' D = some (.lst vs) → WaysAt C H (M.tuns st) vs → Q (.ref D) H') : tTuns K σ H Q := by
  subst hσ
  have yes : ∀ {a : Str}, decide (V.str a = V.str a) = true := decide_eq_true rfl
  have no : ∀ {a b : Str}, a ≠ b → decide (V.str a = V.str b) = false := fun h => decide_eq_false fun z => h (V.str.inj z)
  refine or_seq (fun Q h => ⟨_, rfl, h⟩) hl fun J Gd hG wk D nD => ?_
  refine lc_it wk (fun i G => Same H G ∧ ∃ acc, acc.length ≤ i ∧ G D = some (.lst acc) ∧ WaysAt C H (M.tuns (st.take i)) acc) ⟨Same.of_upd nD, [], Nat.le_refl _, upd_same, .nil⟩ (fun i G _ p => hG G p.1) ?_ ?_
  · rintro i v G G' hi ⟨s, acc, hA, hD, hw⟩ ⟨rfl, hx⟩
    obtain ⟨sp, hsp, hst⟩ := hs.get hx
    have et := take_snoc hsp
    have la : acc.length < sizeLine := Nat.lt_of_lt_of_le (Nat.lt_of_le_of_lt hA hi) (Nat.le_trans hn (by decide))
    have z1 : ∀ {y0 : V} {ys : List V}, atI (y0 :: ys) (0 : Int) = some y0 := fun {y0 ys} => by exact atI_nat (xs := y0 :: ys) (j := 0) rfl
    refine ⟨rfl, ?_⟩
    have hst2 := hst
    cases sp with
    | road size ts lw =>
      unfold StepAt at hst
      obtain ⟨t, rfl, ht⟩ := hst
      refine ⟨_, rfl, t, _, _, _, rfl, rfl, SqT.of (s _ _ ht), z1, rfl, _, rfl, ?_⟩
      rw [no kinds.2.1]
      refine iteF ⟨s, acc, Nat.le_succ_of_le hA, hD, ?_⟩
      rw [et, M.tuns_app]
      exact (List.append_nil _).symm ▸ hw
    | join most =>
      unfold StepAt at hst
      obtain ⟨t, rfl, ht⟩ := hst
      refine ⟨_, rfl, t, _, _, _, rfl, rfl, SqT.of (s _ _ ht), z1, rfl, _, rfl, ?_⟩
      rw [no kinds.2.2.1]
      refine iteF ⟨s, acc, Nat.le_succ_of_le hA, hD, ?_⟩
      rw [et, M.tuns_app]
      exact (List.append_nil _).symm ▸ hw
    | tunnel wy most tw =>
      unfold StepAt at hst
      obtain ⟨t, a, rfl, ht, hway⟩ := hst
      refine ⟨_, rfl, t, _, _, _, rfl, rfl, SqT.of (s _ _ ht), z1, rfl, _, rfl, ?_⟩
      rw [yes]
      refine iteT ⟨_, rfl, t, _, _, _, rfl, rfl, SqT.of (s _ _ ht), (by exact atI_nat (xs := [V.str "tunnel", V.ref a, V.int (most : Int), V.str (twS tw)]) (j := 1) rfl), acc, hD, la, add_upd nD s, _, by simp; exact hA, upd_same, ?_⟩
      rw [et, M.tuns_app]
      exact hw.snoc hway
  · rintro G ⟨s, acc, hA, hD, hw⟩
    have e : st.take xs.length = st := by rw [hs.len]; exact List.take_length
    rw [e] at hw
    exact k D acc G s hD hw
/-- a field of each of the ways, ints -/
def tFlds (K : PySem.W.Frag) (f : Str) : TE := tLc (iList K (tVar 5)) (gName 8) tYes (tFld K (tVar 8) f) [8]
theorem flds_run {f : Str} {g : M.Way → Int} {σ : St} {H : Hp} {a0 a1 a2 p q a6 a7 a8 : Option V} {D0 : Addr} {vs : List V} {ws : List M.Way} {Q : VK} (T : Wt K mg C) (nf : NoAttr K C f) (hg : ∀ H wy a, WayAt C H wy a → ∃ dx fs, H a = some (.ins C dx fs) ∧ fs.lookup f = some (.int (g wy)))
    (hσ : σ = [a0, a1, a2, p, q, some (.ref D0), a6, a7, a8]) (hl : H D0 = some (.lst vs)) (hw : WaysAt C H ws vs) (hn : vs.length ≤ 1000) (k : ∀ D H', Same H H' → H' D = some (.lst ((ws.map g).map V.int)) → Q (.ref D) H') : tFlds K f σ H Q := by
  subst hσ
  refine ⟨_, rfl, D0, rfl, ⟨vs, SqL.of hl⟩, fun D nD => ?_⟩
  refine lc_it walk_list (fun i G => Same H G ∧ G D = some (.lst ((((ws.take i).map g)).map V.int))) ⟨Same.of_upd nD, upd_same⟩ (fun i G _ p => SqL.of (p.1 _ _ hl)) ?_ ?_
  · rintro i v G G' hi ⟨s, hD⟩ ⟨rfl, hx⟩
    obtain ⟨wy, a, hwi, rfl, hat⟩ := hw.get hx
    obtain ⟨dx, fs, h1, h2⟩ := hg H wy a hat
    refine ⟨rfl, _, rfl, a, C, dx, fs, _, rfl, s _ _ h1, T.cl, nf, h2, _, hD, ?_, add_upd nD s, ?_⟩
    · rw [List.length_map, List.length_map, List.length_take]
      exact Nat.lt_of_le_of_lt (Nat.le_trans (Nat.min_le_left _ _) (Nat.le_of_lt (Nat.lt_of_lt_of_le hi hn))) (by decide)
    · rw [take_snoc hwi, List.map_append, List.map_append, upd_same]
      rfl
  · rintro G ⟨s, hD⟩
    have e : ws.take vs.length = ws := by rw [hw.len]; exact List.take_length
    rw [e] at hD
    exact k D G s hD
theorem depth_fld (H : Hp) (wy : M.Way) (a : Addr) (h : WayAt C H wy a) : ∃ dx fs, H a = some (.ins C dx fs) ∧ fs.lookup ("depth" : Str) = some (.int ((wy.depth : Nat) : Int)) := by
  obtain ⟨wh, ws⟩ := wy
  unfold WayAt at h
  obtain ⟨dx, t, xs, h1, _, _⟩ := h
  refine ⟨dx, _, h1, ?_⟩
  rw [flds_depth]
  unfold M.Way.depth
  rfl
theorem size_fld (H : Hp) (wy : M.Way) (a : Addr) (h : WayAt C H wy a) : ∃ dx fs, H a = some (.ins C dx fs) ∧ fs.lookup ("size" : Str) = some (.int ((wy.size : Nat) : Int)) := by
  obtain ⟨wh, ws⟩ := wy
  unfold WayAt at h
  obtain ⟨dx, t, xs, h1, _, _⟩ := h
  refine ⟨dx, _, h1, ?_⟩
  rw [flds_size]
  unfold M.Way.size
  rfl
end
end WP

end
section
set_option autoImplicit false
set_option Elab.async false
set_option linter.all false
set_option maxRecDepth 100000
set_option maxHeartbeats 4000000
/-! ## Way.__init__ for good rows: the def -/
namespace WP
open PySem L2 G
theorem set_then {te : TE} {i : Nat} {t2 : TS} {D : Ends} {σ : St} {H : Hp} (h : te σ H fun v H1 => t2 D (σ.set i (some v)) H1) : tSeq (tAsg te (gName i)) t2 D σ H := h
theorem add_of {tb : TE} {i : Int} {σ : St} {H : Hp} {Q : VK} (h : tb σ H fun y H2 => ∃ a b, V.int i = .int a ∧ y = .int b ∧ Q (.int (a + b)) H2) : tOp (rI0 fun i j => .int (i + j)) (tC (.int i)) tb σ H Q := h
theorem maxID_at {K : PySem.W.Frag} {H : Hp} {Q : VK} {a : Addr} {ns : List Int} {n : Int} (e : (match ns with | [] => (0 : Int) | n :: r => r.foldl max n) = n) (hq : SqL K H a (ns.map V.int)) (q : Q (.int n) H) : G.rMaxID K [.ref a] [.int 0] H Q := by
  subst e
  refine ⟨a, ns, 0, rfl, rfl, hq, ?_⟩
  cases ns <;> exact q
theorem maxD_of {K : PySem.W.Frag} {tl : TE} {σ : St} {H : Hp} {Q : VK} (h : tl σ H fun x H1 => G.rMaxID K [x] [.int 0] H1 Q) : tCKw (G.rMaxID K) (tCons tl tNil) (tCons (tC (.int 0)) tNil) σ H Q := h
theorem sum_of {K : PySem.W.Frag} {tl : TE} {σ : St} {H : Hp} {Q : VK} (h : tl σ H fun x H1 => rSum K [x] H1 Q) : tCB (rSum K) (tCons tl tNil) σ H Q := h
theorem len_add {K : PySem.W.Frag} {tl : TE} {σ : St} {H : Hp} {Q : VK} {l : Addr} {xs : List V} (hσ : σ[2]? = some (some (.ref l))) (hl : SAt H l xs) (h : tl σ H fun x H1 => rSum K [x] H1 fun y H2 => ∃ a b, V.int (xs.length : Int) = .int a ∧ y = .int b ∧ Q (.int (a + b)) H2) :
    tOp (rI0 fun i j => .int (i + j)) (tCB (fun zs H Q => ∃ p ys, zs = [.ref p] ∧ (SqL K H p ys ∨ SqT K H p ys) ∧ Q (.int ys.length) H) (tCons (tVar 2) tNil)) (tCB (rSum K) (tCons tl tNil)) σ H Q :=
  ⟨_, hσ, l, xs, rfl, hl.elim (fun e => .inl (SqL.of e)) (fun e => .inr (SqT.of e)), h⟩
theorem tup_or {K : PySem.W.Frag} {H : Hp} {l : Addr} {xs : List V} {Q : VK} (hl : SAt H l xs) (k : ∀ t G, Same H G → G t = some (.tup xs) → Q (.ref t) G) : (SqL K H l xs ∧ ∀ q, H q = none → Q (.ref q) (upd H q (.tup xs))) ∨ (SqT K H l xs ∧ Q (.ref l) H) :=
  hl.elim (fun e => .inl ⟨SqL.of e, fun q hq => k _ _ (Same.of_upd hq) upd_same⟩) fun e => .inr ⟨SqT.of e, k _ _ (Same.refl _) e⟩
theorem len_put {f : Str} {v : V} {fs : List (Str × V)} {n : Nat} (h : fs.length < n) : (putF f v fs).length < n + 1 := by
  exact Nat.lt_of_le_of_lt (length_putF f v fs) (Nat.succ_lt_succ h)
section
variable {P : Program} {w : World} {K : PySem.W.Frag} {mg : Str → Option Value} {base : Heap} {C : Addr}
/-- at a new instance x: steps of a list or a tuple, as they stood before it was made -/
def spInit (C : Addr) : Sp := fun vs H Q _ => ∃ (x l dx : Addr) (h : Nat) (xs : List V) (st : List M.Step) (H0 : Hp), vs = [.ref x, .int (h : Int), .ref l] ∧ H x = some (.ins C dx []) ∧ H0 x = none ∧ Same H0 H ∧ SAt H0 l xs ∧ StepsAt C H0 st xs ∧ M.Way.fine (.mk h st) ∧
  ∀ H', Same H0 H' → WayAt C H' (.mk h st) x → Q .non H'
theorem ok_init {f : Addr} {fd : FuncData} (F : Fun K "__init__" "Way.__init__" sInit f fd) (B : Bn mg) (T : Wt K mg C) (W : Df P w K mg base 3 "is_head" ["value"] (spIn1 1 40)) (WL : Df P w K mg base 1 "is_step_list" ["value"] (spList K)) (WS : Df P w K mg base 5 "_is_step" ["value", "head"] (spStep C)) :
    FnOk P w K mg base CX0 6 f fd ["self", "head", "steps"] (spInit C) := by
  obtain ⟨fW, fdW, GW, gW, kW, bW⟩ := W.ex
  obtain ⟨fL, fdL, GL, gL, kL, bL⟩ := WL.ex
  obtain ⟨fS, fdS, GS, gS, kS, bS⟩ := WS.ex
  obtain ⟨t2, g2⟩ := T.gDepth
  obtain ⟨t3, g3⟩ := T.gSize
  refine F.ok scI (fun vs H Q E h => ?_) (fun cdv A outer s H vs Q E hr h => ?_)
  · obtain ⟨x, l, dx, h, xs, st, H0, rfl, _⟩ := h
    rfl
  · obtain ⟨x, l, dx, h, xs, st, H0, rfl, hx, hx0, s0, hl, hs, hf, k⟩ := h
    have r1 := hr.mono (by decide : 1 ≤ 5)
    have r0 := hr.mono (by decide : 3 ≤ 5)
    refine ⟨_, pss_cons (ps_if (pt_not (pt_val (pe_call GW r0 rfl gW kW bW .nil pass0 (pa_cons (pv 1) pa_nil)))) ps_dead pss_nil)
      (pss_cons (ps_if (pt_not (pt_val (pe_call GL r1 rfl gL kL bL .nil pass0 (pa_cons (pv 2) pa_nil)))) ps_dead pss_nil)
      (pss_cons (ps_for PassesOwn.never rfl (pi_or (pi_enum (by rfl) B.enum (pa_cons (pv 2) pa_nil)) (pi_et (by rfl) B.enum (pa_cons (pv 2) pa_nil))) (pg_tup (by rfl) (pgs_cons (pg_name (i := 3) scI.nd rfl (Or.inl rfl)) (pgs_cons (pg_name (i := 4) scI.nd rfl (Or.inl rfl)) pgs_nil)))
        (pss_one (ps_if (pt_not (pt_val (pe_call GS hr rfl gS kS bS .nil pass0 (pa_cons (pv 4) (pa_cons (pv 1) pa_nil))))) ps_dead pss_nil)))
      (pss_cons (ps_setLc (i := 5) (own := [("step", 4)]) (g := gName 4) (tt := tTest (tOp rEq (tOp (rIxT K) (tVar 4) (tC (.int 0))) (tC (.str "tunnel")))) (te := tOp (rIxT K) (tVar 4) (tC (.int 1))) rfl scI.nd rfl rfl (sw_true rfl rfl rfl (by decide +kernel)) (pi_or (pi_list (pv 2)) (pi_tup (pv 2))) (blkOk_by (N := NI) (sc := defScope sInit) (by decide +kernel))
          (fun _ _ _ _ _ => pg_name (i := 4) scI.nd rfl (Or.inl rfl)) (fun _ _ _ _ _ => pts_one (by exact pt_cmpR op_eq (pe_ix ix_tup (pv 4) pe_int (fun _ _ => rfl)) pe_str (nomark _))) (fun _ _ _ _ _ => by exact pe_ix ix_tup (pv 4) pe_int (fun _ _ => rfl)))
      (pss_cons (ps_set (i := 6) scI.nd rfl (Or.inl rfl) (pe_op op_add pe_int (pe_callBK (G.call_maxID rfl hr.units) (by rfl) B.max (by decide +kernel) (pa_cons (pe_lc (own := [("inner", 8)]) (g := gName 8) (tt := tYes) (te := tFld K (tVar 8) "depth") rfl scI.nd (pi_list (pv 5)) (blkOk_by (N := NI) (sc := defScope sInit) (by decide +kernel))
          (fun _ _ _ _ _ => pg_name (i := 8) scI.nd rfl (Or.inl rfl)) (fun _ _ _ _ _ => pts_nil) (fun _ _ _ _ _ => by exact pe_fld (pv 8) rfl)) pa_nil) (pk_cons pe_int pk_nil))))
      (pss_cons (ps_if (pt_cmpR op_gt (pv 6) (pe_glob (v := .int 3) rfl g2 ⟨_, rfl⟩) (nomark _)) ps_dead pss_nil)
      (pss_cons (ps_set (i := 7) scI.nd rfl (Or.inl rfl) (pe_op op_add (pe_callB call_len_seq (by rfl) B.len PySem.boot_len (pa_cons (pv 2) pa_nil)) (pe_callB (cr_sum rfl) (by rfl) B.sum (by decide +kernel) (pa_cons (pe_lc (own := [("inner", 8)]) (g := gName 8) (tt := tYes) (te := tFld K (tVar 8) "size") rfl scI.nd (pi_list (pv 5)) (blkOk_by (N := NI) (sc := defScope sInit) (by decide +kernel))
          (fun _ _ _ _ _ => pg_name (i := 8) scI.nd rfl (Or.inl rfl)) (fun _ _ _ _ _ => pts_nil) (fun _ _ _ _ _ => by exact pe_fld (pv 8) rfl)) pa_nil))))
      (pss_cons (ps_if (pt_cmpR op_gt (pv 7) (pe_glob (v := .int 40) rfl g3 ⟨_, rfl⟩) (nomark _)) ps_dead pss_nil)
      (pss_cons (ps_fld (pv 0) (pv 1) rfl)
      (pss_cons (ps_fld (pv 0) (pe_callTy call_tuple_of (by rfl) B.tuple (by decide +kernel) (pa_cons (pv 2) pa_nil)) rfl)
      (pss_cons (ps_fld (pv 0) (pv 6) rfl)
      (pss_one (ps_fld (pv 0) (pv 7) rfl)))))))))))), ?_⟩
    unfold M.Way.fine at hf
    obtain ⟨hh, hn, hall, hd, hz⟩ := hf
    have ln := hs.len
    refine ⟨_, rfl, (h : Int), rfl, ?_⟩
    rw [decide_eq_true (by omega)]
    refine ⟨_, rfl, iteF ⟨_, rfl, l, xs, rfl, hl.mono s0, by omega, by omega, fun H1 s1 => ⟨_, rfl, iteF ?_⟩⟩⟩
    have S1 := s0.trans s1
    have hx1 : H1 x = some (.ins C dx []) := s1 _ _ hx
    clear s1 hx s0
    refine or_enum (fun Q h => ⟨_, rfl, h⟩) (hl.mono S1) fun J Gd hG wk => ?_
    refine for_it wk (fun i σ G => Same H1 G ∧ ∃ p q, σ = [some (.ref x), some (.int (h : Int)), some (.ref l), p, q, none, none, none, none]) ⟨Same.refl _, _, _, rfl⟩ (fun i σ G _ z => hG G z.1) ?_ ?_
    · rintro i v σ G G' hi ⟨s, p, q, rfl⟩ ⟨t, a, b, rfl, nt, rfl, e1, hb⟩
      cases e1
      obtain ⟨sp, hsp, hst⟩ := hs.get hb
      have s2 : Same H1 (upd G t (.tup [V.int (i : Nat), b])) := s.trans (Same.of_upd nt)
      refine ⟨t, _, rfl, SqT.of upd_same, rfl, _, _, rfl, _, _, rfl, rfl, ?_⟩
      exact ⟨_, rfl, _, rfl, b, h, sp, rfl, hst.mono (S1.trans s2), fine_get hall hsp, _, rfl, iteF ⟨s2, _, _, rfl⟩⟩
    · rintro σ G ⟨s, p, q, rfl⟩
      have S2 := S1.trans s
      have hx2 := s _ _ hx1
      dsimp only
      refine set_then (te := tTuns K) (i := 5) ?_
      refine tuns_run (st := st) (xs := xs) rfl (hl.mono S2) (hs.mono S2) (by omega) fun D0 vs H2 s3 hD0 hW => ?_
      have lw : vs.length ≤ 1000 := by
        have e1 := hW.len
        have e2 := M.tuns_len st
        omega
      refine set_then (i := 6) ?_
      refine add_of (i := 1) (maxD_of (tl := tFlds K "depth") ?_)
      refine flds_run (f := "depth") (g := fun w => ((w.depth : Nat) : Int)) T T.nD (fun H wy a => depth_fld H wy a) rfl hD0 (hW.mono s3) lw fun D1 H3 s4 hD1 => ?_
      refine maxID_at (M.deep_max _) (SqL.of hD1) ⟨_, _, rfl, rfl, ?_⟩
      rw [← M.deepest_eq]
      refine ⟨_, rfl, _, _, rfl, rfl, _, rfl, ?_⟩
      rw [decide_eq_false (by omega)]
      refine iteF ?_
      unfold tNext
      dsimp only
      have s5 := s3.trans s4
      refine set_then (i := 7) (len_add (l := l) (xs := xs) (tl := tFlds K "size") rfl (hl.mono (S2.trans s5)) ?_)
      refine flds_run (f := "size") (g := fun w => ((w.size : Nat) : Int)) T T.nZ (fun H wy a => size_fld H wy a) rfl (s4 _ _ hD0) (hW.mono s5) lw fun D2 H4 s6 hD2 => ?_
      refine ⟨D2, _, rfl, SqL.of hD2, _, _, rfl, rfl, ?_⟩
      rw [M.sum_cast, ← M.inner_eq]
      refine ⟨_, rfl, _, _, rfl, rfl, _, rfl, ?_⟩
      rw [decide_eq_false (by omega)]
      refine iteF ?_
      dsimp only
      have S4 : Same H0 H4 := S2.trans (s5.trans s6)
      have hx4 : H4 x = some (.ins C dx []) := s6 _ _ (s5 _ _ hx2)
      refine ⟨_, rfl, _, rfl, x, C, dx, [], rfl, hx4, T.cl, T.nH, by decide, ?_⟩
      have S5 : Same H0 (upd H4 x (.ins C dx (putF "head" (.int (h : Int)) []))) := add_upd hx0 S4
      have e1 : (1 : Int) + ((M.Step.deepest st : Nat) : Int) = ((1 + M.Step.deepest st : Nat) : Int) := by omega
      have e2 : ((xs.length : Nat) : Int) + ((M.Step.inner st : Nat) : Int) = ((st.length + M.Step.inner st : Nat) : Int) := by omega
      have fin : ∀ (t : Addr) (G2 : Hp), Same (upd H4 x (.ins C dx (putF "head" (.int (h : Int)) []))) G2 → G2 t = some (.tup xs) → tSeq (sFld K (tVar 0) (tC (.ref t)) "steps") (tSeq (sFld K (tVar 0) (tVar 6) "depth") (sFld K (tVar 0) (tVar 7) "size")) { nx := fun _ H' => Q V.non H', rt := Q } [some (.ref x), some (.int (h : Int)), some (.ref l), p, q, some (.ref D0), some (.int (1 + ((M.Step.deepest st : Nat) : Int))), some (.int ((xs.length : Int) + ((M.Step.inner st : Nat) : Int))), none] G2 := fun t G2 sG ht => by
        have hx5 : G2 x = some (.ins C dx (putF "head" (.int (h : Int)) [])) := sG _ _ upd_same
        have tx : t ≠ x := fun z => by
          rw [z, hx5] at ht
          cases ht
        have S6 := S5.trans sG
        rw [e1, e2]
        refine ⟨_, rfl, x, C, dx, _, rfl, hx5, T.cl, T.nS, len_put (by decide), ?_⟩
        refine ⟨_, rfl, _, rfl, x, C, dx, _, rfl, upd_same, T.cl, T.nD, len_put (len_put (by decide)), ?_⟩
        refine ⟨_, rfl, _, rfl, x, C, dx, _, rfl, upd_same, T.cl, T.nZ, len_put (len_put (len_put (by decide))), ?_⟩
        have S7 := add_upd (o := .ins C dx (flds (h : Int) t ((1 + M.Step.deepest st : Nat) : Int) ((st.length + M.Step.inner st : Nat) : Int))) hx0 (add_upd (o := .ins C dx (putF "depth" (.int ((1 + M.Step.deepest st : Nat) : Int)) (putF "steps" (.ref t) (putF "head" (.int (h : Int)) [])))) hx0 (add_upd (o := .ins C dx (putF "steps" (.ref t) (putF "head" (.int (h : Int)) []))) hx0 S6))
        refine k _ S7 ?_
        unfold WayAt
        exact ⟨dx, t, xs, upd_same, by rw [upd_ne tx, upd_ne tx, upd_ne tx]; exact ht, hs.mono S7⟩
      rcases hl.mono S5 with e | e
      · exact ⟨_, rfl, l, xs, rfl, .inl ⟨SqL.of e, fun t nt => fin t _ (Same.of_upd nt) upd_same⟩⟩
      · exact ⟨_, rfl, l, xs, rfl, .inr ⟨SqT.of e, fin l _ (Same.refl _) e⟩⟩
end
end WP

end
section
set_option autoImplicit false
set_option Elab.async false
set_option linter.all false
set_option maxRecDepth 100000
set_option maxHeartbeats 4000000
/-! ## gates of ways: a mirror -/
namespace M
structure Gate where
  place : List Nat
  thr : Int
  ans : Option Int
/-- whether pieces with a greater stretch come from cuts -/
def leaves (cs : List Nat) (x : Int) : Bool := decide (cs = []) || decide (x < ((cs.getLastD 0 : Nat) : Int))
/-- the cuts behind a step -/
def nxC (se : Bool) (h : Nat) (cs : List Nat) : Step → List Nat
  | .join _ => []
  | .road size _ lw => if se = false ∧ lw = .cut then N.add cs [size - h] else cs
  | .tunnel _ _ _ => cs
/-- the cuts before each step, and at the end -/
def chB (se : Bool) (h : Nat) : List Step → List Nat → List (List Nat)
  | [], cs => [cs]
  | s :: r, cs => cs :: chB se h r (nxC se h cs s)
def chE (se : Bool) (h : Nat) : List Step → List Nat → List Nat
  | [], cs => cs
  | s :: r, cs => chE se h r (nxC se h cs s)
def roadG (se : Bool) (h size : Nat) (ts : Bool) (lw : LW) (cs : List Nat) : List Gate :=
  if (se = false ∧ lw = .cut) ∨ leaves cs ((size : Int) - (h : Int)) = false then []
  else [⟨[], (size : Int) - (h : Int), if (se = true ∧ ts = true) ∨ (se = false ∧ lw = .tell) then some (size : Int) else none⟩]
def mostG (most : Nat) (cs : List Nat) : List Gate := if cs = [] then [] else [⟨[], ((N.B cs most : Nat) : Int), none⟩]
def turnG (a : Option Int) (ih : Nat) (t : TW) : Option Int := match a with
  | some z => if t = .turn then some (z - (ih : Int)) else none
  | none => none
def tunG1 (h ih : Nat) (t : TW) (cs : List Nat) (g : Gate) : List Gate :=
  if leaves cs (g.thr - (h : Int)) = true then [⟨g.place, max (g.thr - (h : Int)) (-1), turnG g.ans ih t⟩] else []
def tunG (h ih : Nat) (t : TW) (cs : List Nat) (l : List Gate) : List Gate := l.flatMap (tunG1 h ih t cs)
def at_ (i : Nat) (g : Gate) : Gate := ⟨i :: g.place, g.thr, g.ans⟩
mutual
def Way.gates (se : Bool) : Way → List Gate
  | .mk h s => Step.gatesAll se h s 0 []
def Step.gatesAll (se : Bool) (h : Nat) : List Step → Nat → List Nat → List Gate
  | [], _, _ => []
  | s :: r, i, cs => (Step.gates se h s cs).map (at_ i) ++ Step.gatesAll se h r (i + 1) (nxC se h cs s)
def Step.gates (se : Bool) (h : Nat) : Step → List Nat → List Gate
  | .road size ts lw, cs => roadG se h size ts lw cs
  | .join most, cs => mostG most cs
  | .tunnel w most t, cs => tunG h w.head t cs (Way.gates se w ++ mostG most (chE se w.head w.steps []))
end
theorem gatesAll_cons (se : Bool) (h : Nat) (s : Step) (r : List Step) (i : Nat) (cs : List Nat) : Step.gatesAll se h (s :: r) i cs = (Step.gates se h s cs).map (at_ i) ++ Step.gatesAll se h r (i + 1) (nxC se h cs s) := by
  conv => lhs; unfold Step.gatesAll
theorem chB_len (se : Bool) (h : Nat) : ∀ (s : List Step) (cs : List Nat), (chB se h s cs).length = s.length + 1
  | [], _ => rfl
  | x :: s, cs => by
    show (chB se h s (nxC se h cs x)).length + 1 = _
    rw [chB_len se h s]
    rfl
/-- the cuts before the step with a number -/
def chA (se : Bool) (h : Nat) (s : List Step) (i : Nat) : List Nat := chE se h (s.take i) []
theorem chE_snoc (se : Bool) (h : Nat) : ∀ (s : List Step) (x : Step) (cs : List Nat), chE se h (s ++ [x]) cs = nxC se h (chE se h s cs) x
  | [], _, _ => rfl
  | y :: s, x, cs => chE_snoc se h s x (nxC se h cs y)
theorem chB_at (se : Bool) (h : Nat) : ∀ (s : List Step) (cs : List Nat) (i : Nat), i ≤ s.length → (chB se h s cs)[i]? = some (chE se h (s.take i) cs)
  | [], cs, i, hi => by
    have : i = 0 := by simpa using hi
    subst this
    rfl
  | x :: s, cs, 0, _ => rfl
  | x :: s, cs, i + 1, hi => by
    show (chB se h s (nxC se h cs x))[i]? = some (chE se h (s.take i) (nxC se h cs x))
    exact chB_at se h s _ i (by simpa using hi)
/-- cuts as chains take them -/
structure Ck (cs : List Nat) : Prop where
  fall : N.Fall cs
  le : ∀ c ∈ cs, c ≤ 1000
theorem ck_nil : Ck [] := ⟨trivial, fun c h => by cases h⟩
theorem ck_nx {se : Bool} {h : Nat} {cs : List Nat} {s : Step} (c : Ck cs) (f : Step.fine h s) : Ck (nxC se h cs s) := by
  cases s with
  | join most => exact ck_nil
  | tunnel w most t => exact c
  | road size ts lw =>
    unfold nxC
    dsimp only
    split
    · unfold Step.fine at f
      have f1 : N.Fall [size - h] := ⟨by omega, (fun d hd => by cases hd), trivial⟩
      have l1 : ∀ c ∈ [size - h], c ≤ 1000 := fun c hc => by
        rw [List.mem_singleton.mp hc]
        omega
      exact ⟨N.add_fall c.fall f1, N.add_le c.le l1⟩
    · exact c
theorem ck_all {se : Bool} {h : Nat} : ∀ {s : List Step} {cs : List Nat}, Ck cs → Step.fineAll h s → Ck (chE se h s cs)
  | [], cs, c, _ => c
  | x :: s, cs, c, f => by
    unfold Step.fineAll at f
    show Ck (chE se h s (nxC se h cs x))
    exact ck_all (ck_nx c f.1) f.2
theorem fine_take {h : Nat} : ∀ {s : List Step} (i : Nat), Step.fineAll h s → Step.fineAll h (s.take i)
  | [], i, f => by rw [List.take_nil]; exact f
  | x :: s, 0, f => by
    rw [List.take_zero]
    unfold Step.fineAll
    trivial
  | x :: s, i + 1, f => by
    rw [List.take_succ_cons]
    unfold Step.fineAll at f ⊢
    exact ⟨f.1, fine_take i f.2⟩
theorem nxC_len {se : Bool} {h : Nat} {cs : List Nat} {s : Step} : (nxC se h cs s).length ≤ cs.length + 1 := by
  cases s with
  | join most => exact Nat.zero_le _
  | tunnel w most t => exact Nat.le_succ _
  | road size ts lw =>
    unfold nxC
    dsimp only
    split
    · exact N.add_len cs [size - h]
    · exact Nat.le_succ _
theorem chE_len {se : Bool} {h : Nat} : ∀ (s : List Step) (cs : List Nat), (chE se h s cs).length ≤ cs.length + s.length
  | [], cs => Nat.le_refl _
  | x :: s, cs => by
    have a := chE_len (se := se) (h := h) s (nxC se h cs x)
    have b := nxC_len (se := se) (h := h) (cs := cs) (s := x)
    show (chE se h s (nxC se h cs x)).length ≤ cs.length + (s.length + 1)
    omega
/-! ### how many, how great -/
theorem most_len (most : Nat) (cs : List Nat) : (mostG most cs).length ≤ 1 := by
  unfold mostG
  split <;> simp
theorem road_len (se : Bool) (h size : Nat) (ts : Bool) (lw : LW) (cs : List Nat) : (roadG se h size ts lw cs).length ≤ 1 := by
  unfold roadG
  split <;> simp
theorem tun_len (h ih : Nat) (t : TW) (cs : List Nat) : ∀ l : List Gate, (tunG h ih t cs l).length ≤ l.length
  | [] => Nat.le_refl _
  | g :: l => by
    have := tun_len h ih t cs l
    have e : tunG h ih t cs (g :: l) = tunG1 h ih t cs g ++ tunG h ih t cs l := rfl
    have q : (tunG1 h ih t cs g).length ≤ 1 := by
      unfold tunG1
      split <;> simp
    rw [e, List.length_append, List.length_cons]
    omega
mutual
theorem Way.gates_len (se : Bool) : ∀ w : Way, (Way.gates se w).length ≤ 2 * w.size
  | .mk h s => by
    unfold Way.gates Way.size
    have := Step.gates_len se h s 0 []
    omega
theorem Step.gates_len (se : Bool) (h : Nat) : ∀ (s : List Step) (i : Nat) (cs : List Nat), (Step.gatesAll se h s i cs).length ≤ 2 * (s.length + Step.inner s)
  | [], i, cs => by
    unfold Step.gatesAll
    exact Nat.zero_le _
  | .road size ts lw :: r, i, cs => by
    rw [gatesAll_cons]
    have a := Step.gates_len se h r (i + 1) (nxC se h cs (.road size ts lw))
    have b : (Step.gates se h (.road size ts lw) cs).length ≤ 1 := by
      unfold Step.gates
      exact road_len _ _ _ _ _ _
    rw [List.length_append, List.length_map, List.length_cons]
    unfold Step.inner
    omega
  | .join most :: r, i, cs => by
    rw [gatesAll_cons]
    have a := Step.gates_len se h r (i + 1) (nxC se h cs (.join most))
    have b : (Step.gates se h (.join most) cs).length ≤ 1 := by
      unfold Step.gates
      exact most_len _ _
    rw [List.length_append, List.length_map, List.length_cons]
    unfold Step.inner
    omega
  | .tunnel w most t :: r, i, cs => by
    rw [gatesAll_cons]
    have a := Step.gates_len se h r (i + 1) (nxC se h cs (.tunnel w most t))
    have c := Way.gates_len se w
    have b : (Step.gates se h (.tunnel w most t) cs).length ≤ 2 * w.size + 1 := by
      unfold Step.gates
      refine Nat.le_trans (tun_len _ _ _ _ _) ?_
      have := most_len most (chE se w.head w.steps [])
      rw [List.length_append]
      omega
    rw [List.length_append, List.length_map, List.length_cons]
    unfold Step.inner
    omega
end
end M

end
section
set_option autoImplicit false
set_option Elab.async false
set_option linter.all false
set_option maxRecDepth 100000
set_option maxHeartbeats 4000000
/-! ## len, +, in, [] and != by a class's own methods -/
namespace WO
open PySem PySem.Spec PyProof.Rows L2
section
variable {X : Cx} {CX : CXT} {n : Nat} {f C : Addr} {fd : FuncData} {ps : List Str} {sp : Sp} {E : XK}
/-- an own method, run somewhere below the running body -/
theorem run_own {A : Around} {pins : List (Addr × Obj)} {s : Shared} {σ : L2.St} {H : Hp} {xs : List V} {us : List Value} {Z : VK} {G : Value → Shared → Prop} (F : FnOk X.prog X.w X.K X.mg X.base CX n f fd ps sp) (sb : Sub X n A) (hb : Binds X.K fd ps []) (hx : Passes CX X E)
    (I : Inv X pins σ H s) (r : Vals xs us) (hsp : sp xs H Z E) (k : ∀ z u H1 s1, Inv X pins σ H1 s1 → RelV z u → Z z H1 → G u s1) : wpAny (model X.prog X.w) A (call (.ref f) us) G X.xe s := by
  have hl := F.len _ _ _ _ hsp
  have lu : us.length = ps.length := by rw [← r.length]; exact hl
  have env : Env0 X.prog X.w X.K X.mg X.base A X.stack s H := by
    have e := I.env0
    exact ⟨by rw [sb.fr]; exact e.frames, e.mod, e.bs, e.bsz, e.funs, e.frf, e.hok, e.bare⟩
  refine wpAny_call (codeAny_mono (F.run A X.stack s H ⟨us, []⟩ us xs _ E sb.room env (by simpa using hb s us I.kIn (by simpa using lu)) r hsp) fun res s1 hq => ?_)
  match res, hq with
  | .error e, hq => exact hx pins σ H s e s1 I hq
  | .ok (.ret u), hq =>
    obtain ⟨z, H1, I1, rz, q⟩ := I.after hq
    exact k z u H1 s1 I1 rz q
  | .ok .next, hq => exact hq.elim
  | .ok .brk, hq => exact hq.elim
  | .ok .cont, hq => exact hq.elim
/-- an instance of the class at C -/
def InsC (C : Addr) (H : Hp) (a : Addr) : Prop := ∃ dx fs, H a = some (.ins C dx fs)
structure Own (K : PySem.W.Frag) (C f : Addr) (m : Str) : Prop where
  at' : PySem.W.findIn K (.ref C) m = some (some (.ref f))
  fn : PySem.W.isFn K (.ref f) = true
def rLenO (C : Addr) (sp : Sp) (E : XK) : List V → Hp → VK → Prop := fun xs H Q => ∃ a, xs = [.ref a] ∧ InsC C H a ∧ sp [.ref a] H (fun v H1 => ∃ k : Nat, v = .int k ∧ k < 1000000 ∧ Q (.int k) H1) E
theorem call_lenO (F : FnOk X.prog X.w X.K X.mg X.base CX n f fd ps sp) (hr : Room (n + 1) X.A) (O : Own X.K C f "__len__") (hb : Binds X.K fd ps []) (hx : Passes CX X E) : CallR X (.builtin "len") (rLenO C sp E) := by
  intro pins s σ H xs us Q I r h
  obtain ⟨a, rfl, ⟨dx, fs, ha⟩, hsp⟩ := h
  cases r with
  | cons ra rr =>
    cases rr
    cases ra
    obtain ⟨_, J, _⟩ := ins_get I.hok ha
    obtain ⟨od, J, _⟩ := J.look
    obtain ⟨m, hF⟩ := I.fr
    refine PySem.W.len_K hF I.ok.mod.kin J O.at' O.fn (run_own F (A := X.A.in1) (xs := [.ref a]) ⟨hr.in1, rfl⟩ hb hx I (.cons rfl .nil) hsp fun z u H1 s1 I1 rz q => ?_)
    obtain ⟨k, rfl, hk, q⟩ := q
    obtain ⟨t, rfl⟩ := rz
    exact ⟨⟨by omega, by omega⟩, .int k, H1, I1.tok _, ⟨_, rfl⟩, q⟩
def rAddO (C : Addr) (sp : Sp) (E : XK) : R2 := fun x y H Q => ∃ a b, x = .ref a ∧ y = .ref b ∧ InsC C H a ∧ InsC C H b ∧ sp [.ref a, .ref b] H (fun v H1 => ∃ c, v = .ref c ∧ Q (.ref c) H1) E
theorem op_addO (F : FnOk X.prog X.w X.K X.mg X.base CX n f fd ps sp) (hr : Room n X.A) (O : Own X.K C f "__add__") (hc : PySem.W.selfFirst X.K C = true) (hb : Binds X.K fd ps []) (hx : Passes CX X E) : OpR X (binaryOp .Add) (rAddO C sp E) := by
  intro pins s σ H x y v u Q I rx ry h
  obtain ⟨a, b, rfl, rfl, ⟨dx, fs, ha⟩, ⟨dy, gs, hb'⟩, hsp⟩ := h
  cases rx
  cases ry
  obtain ⟨_, J, _⟩ := ins_get I.hok ha
  obtain ⟨_, J', _⟩ := ins_get I.hok hb'
  obtain ⟨od, J, _⟩ := J.look
  obtain ⟨od', J', _⟩ := J'.look
  obtain ⟨m, hF⟩ := I.fr
  refine PySem.W.binop_K (op := .Add) hF I.ok.mod.kin J J'.type hc O.at' O.fn (run_own F (A := X.A) (xs := [.ref a, .ref b]) ⟨hr, rfl⟩ hb hx I (.cons rfl (.cons rfl .nil)) hsp fun z u H1 s1 I1 rz q => ?_)
  obtain ⟨c, rfl, q⟩ := q
  cases rz
  exact ⟨.ref c, H1, I1, rfl, q⟩
def rInO (C : Addr) (sp : Sp) (E : XK) : R2 := fun x y H Q => ∃ a, y = .ref a ∧ InsC C H a ∧ sp [.ref a, x] H (fun v H1 => ∃ b, v = .bl b ∧ Q (.bl b) H1) E
def rNotInO (C : Addr) (sp : Sp) (E : XK) : R2 := fun x y H Q => ∃ a, y = .ref a ∧ InsC C H a ∧ sp [.ref a, x] H (fun v H1 => ∃ b, v = .bl b ∧ Q (.bl (!b)) H1) E
theorem op_inO (F : FnOk X.prog X.w X.K X.mg X.base CX n f fd ps sp) (hr : Room n X.A) (O : Own X.K C f "__contains__") (hb : Binds X.K fd ps []) (hx : Passes CX X E) : OpR X (compareOp .In) (rInO C sp E) := by
  intro pins s σ H x y v u Q I rx ry h
  obtain ⟨a, rfl, ⟨dx, fs, ha⟩, hsp⟩ := h
  cases ry
  obtain ⟨_, J, _⟩ := ins_get I.hok ha
  obtain ⟨od, J, _⟩ := J.look
  obtain ⟨m, hF⟩ := I.fr
  refine PySem.W.in_K hF I.ok.mod.kin J O.at' O.fn (run_own F (A := X.A) (xs := [.ref a, x]) ⟨hr, rfl⟩ hb hx I (.cons rfl (.cons rx .nil)) hsp fun z u H1 s1 I1 rz q => ?_)
  obtain ⟨b, rfl, q⟩ := q
  cases rz
  exact wpAny_truthy_bool ⟨.bl b, H1, I1, rfl, q⟩
theorem op_notInO (F : FnOk X.prog X.w X.K X.mg X.base CX n f fd ps sp) (hr : Room n X.A) (O : Own X.K C f "__contains__") (hb : Binds X.K fd ps []) (hx : Passes CX X E) : OpR X (compareOp .NotIn) (rNotInO C sp E) := by
  intro pins s σ H x y v u Q I rx ry h
  obtain ⟨a, rfl, ⟨dx, fs, ha⟩, hsp⟩ := h
  cases ry
  obtain ⟨_, J, _⟩ := ins_get I.hok ha
  obtain ⟨od, J, _⟩ := J.look
  obtain ⟨m, hF⟩ := I.fr
  refine PySem.W.notIn_K hF I.ok.mod.kin J O.at' O.fn (run_own F (A := X.A) (xs := [.ref a, x]) ⟨hr, rfl⟩ hb hx I (.cons rfl (.cons rx .nil)) hsp fun z u H1 s1 I1 rz q => ?_)
  obtain ⟨b, rfl, q⟩ := q
  cases rz
  exact wpAny_truthy_bool ⟨.bl (!b), H1, I1, rfl, q⟩
/-- o[e] by the own __getitem__ -/
def rIxO (C : Addr) (sp : Sp) (E : XK) : R2 := fun x y H Q => ∃ a, x = .ref a ∧ InsC C H a ∧ sp [.ref a, y] H Q E
theorem pe_ixO {a b : Expr} {ta tb : TE} {pos : Pos} (F : FnOk X.prog X.w X.K X.mg X.base CX n f fd ps sp) (hr : Room (n + 1) X.A) (O : Own X.K C f "__getitem__") (hf : PySem.W.fnIn X.K f = true) (hb : Binds X.K fd ps []) (hx : Passes CX X E) (ha : PE X a ta) (hi : PE X b tb)
    (hs : ∀ v i, subscripted b true v i = runValue (.builtin "lifetime.subscript" ⟨[v, i], []⟩)) : PE X (.Subscript a b pos) (tOp (rIxO C sp E) ta tb) := by
  refine ⟨fun pins s σ H Q I h => ?_⟩
  refine Subscript_ (binT ha hi I h fun v u s2 x y H2 I2 rx ry q => ?_)
  obtain ⟨p, rfl, ⟨dx, fs, hp⟩, hsp⟩ := q
  cases rx
  obtain ⟨_, J, _⟩ := ins_get I2.hok hp
  obtain ⟨od, J, _⟩ := J.look
  obtain ⟨m, hF⟩ := I2.fr
  exact PySem.W.sub_K hF I2.ok.mod.kin J O.at' hf O.fn (run_own F (A := X.A.in1) (xs := [.ref p, y]) ⟨hr.in1, rfl⟩ hb hx I2 (.cons rfl (.cons ry .nil)) hsp fun z u H1 s1 I1 rz q => ⟨z, H1, I1, rz, q⟩) (hs _ _)
/-- == by the own __eq__, either answer -/
def rEqO (C : Addr) (sp : Sp) (E : XK) : R2 := fun x y H Q => ∃ a b, x = .ref a ∧ y = .ref b ∧ InsC C H a ∧ InsC C H b ∧ sp [.ref a, .ref b] H (fun v H1 => ∃ c, v = .bl c ∧ Q (.bl c) H1) E
theorem op_eqO (F : FnOk X.prog X.w X.K X.mg X.base CX n f fd ps sp) (hr : Room n X.A) (O : Own X.K C f "__eq__") (hb : Binds X.K fd ps []) (hx : Passes CX X E) : OpR X (compareOp .Eq) (rEqO C sp E) := by
  intro pins s σ H x y v u Q I rx ry h
  obtain ⟨a, b, rfl, rfl, ⟨dx, fs, ha⟩, ⟨dy, gs, hb'⟩, hsp⟩ := h
  cases rx
  cases ry
  obtain ⟨_, J, _⟩ := ins_get I.hok ha
  obtain ⟨_, J', _⟩ := ins_get I.hok hb'
  obtain ⟨od, J, _⟩ := J.look
  obtain ⟨od', J', _⟩ := J'.look
  obtain ⟨m, hF⟩ := I.fr
  show wpAny (model X.prog X.w) X.A (richCompare .Eq (.ref a) (.ref b)) (EP X pins σ Q) X.xe s
  refine PySem.W.cmp_K (op := .Eq) (tb := .ref C) hr.units0 hF I.ok.mod.kin J J'.type (by simp [PySem.W.notFirst]) O.at' O.fn (run_own F (A := X.A) (xs := [.ref a, .ref b]) ⟨hr, rfl⟩ hb hx I (.cons rfl (.cons rfl .nil)) hsp fun z u H1 s1 I1 rz q => ?_)
  obtain ⟨c, rfl, q⟩ := q
  cases rz
  exact ⟨.bl c, H1, I1, rfl, q⟩
end
end WO

end
section
set_option autoImplicit false
set_option Elab.async false
set_option linter.all false
set_option maxRecDepth 100000
set_option maxHeartbeats 4000000
/-! ## set(a list of hin), and sorted of it -/
namespace WS
open PySem PySem.Spec PyProof.Rows L2
abbrev empt (Wd : World) : Obj := { cls := .type "set", dict := none, data := .set #[] 0 (.fresh 0 0 (!Wd.params.followText "set-order")) }
abbrev walker (ls : Addr) : Obj := { cls := .type "list_iterator", data := .fields #[.ref ls, .int 0 0] }
section
variable {Pg : Program} {Wd : World} {Ar : Around} {Ex : Value → Shared → Prop} {sh : Shared}
/-- what is left of a new set, filled -/
def Filled (Wd : World) (sh : Shared) (zs : List Int) (s2 : Shared) : Prop := ∃ hp tk c, s2 = { sh with heap := hp, toks := tk } ∧ SetR Wd hp sh.heap.objs.size (fun j => decide (j ∈ zs)) c ∧ c ≤ zs.length ∧ ∀ b o, sh.heap.get? b = some o → hp.get? b = some o
set_option maxHeartbeats 3200000 in
/-- __init__ of the new set at the end of the heap -/
theorem init_list {ls : Addr} {arr : Array Value} {zs : List Int} (ok : Ar.handled = none) (at0 : sh.heap.IsList ls arr) (hin : IntsAre arr.toList zs) (few : zs.length + 1 < scanBound) (tS : Shared.TypeIs { sh with heap := sh.heap.push (empt Wd) } (.ref sh.heap.objs.size) "set") :
    codeAny (model Pg Wd) Ar (.call (.builtin "set.__init__") ⟨[.ref sh.heap.objs.size, .ref ls], []⟩) (wants (fun r s2 => r = .none ∧ Filled Wd sh zs s2) Ex) { sh with heap := sh.heap.push (empt Wd) } := by
  have size_eq : arr.size = zs.length := by
    have q := IntsAre.length hin
    rwa [Array.length_toList] at q
  refine codeAny_call_builtin (R := wants _ Ex) F.called_set.init.plain F.entry_set_init (check_set_init_1 tS ?_)
  obtain ⟨⟨oc, od, oda, osl⟩, gl, cl, nl, dl⟩ := at0
  simp only at cl dl
  subst cl; subst dl
  have gl2 : (sh.heap.push (empt Wd)).get? ls = some { cls := .type "list", dict := od, data := .seq arr nl, slots := osl } := Heap.get?_push_of_some _ gl
  have k1 := F.sub_list_set
  have k2 := F.sub_list_frozenset
  have k3 : (Value.type "list" == Value.type "dict") = false := by decide
  have il : (sh.heap.push (empt Wd)).IsList ls arr := ⟨_, gl2, rfl, nl, rfl⟩
  unfold Builtin.«set.__init__» noKeywords Builtin.Frozenset.updateFrom
  generalize eI : pyIter = IT
  wp_walk
  subst eI
  refine wpAny_pyIter_list il ?_
  refine wpAny_bind (wpAny_runValue ?_)
  have low : ls < sh.heap.objs.size := Heap.lt_size gl
  have sz : (sh.heap.push (empt Wd)).objs.size = sh.heap.objs.size + 1 := Heap.size_push ..
  have ne1 : ls ≠ (sh.heap.push (empt Wd)).objs.size := by rw [sz]; exact Nat.ne_of_lt (Nat.lt_succ_of_lt low)
  have ne2 : sh.heap.objs.size ∉ [(sh.heap.push (empt Wd)).objs.size, ls] := by
    rw [sz]
    intro z
    rcases List.mem_cons.mp z with e | e
    · exact absurd e (Nat.ne_of_lt (Nat.lt_succ_self _))
    · exact absurd (List.mem_singleton.mp e) (Nat.ne_of_gt low)
  have item : ∀ (i : Nat) (v : Value), arr[i]? = some v → ∃ k t, zs[i]? = some k ∧ v = .int k t := by
    intro i v hv
    have hi : i < zs.length := by rw [← size_eq]; exact (Array.getElem?_eq_some_iff.mp hv).1
    obtain ⟨t, e⟩ := PyProof.Rows.IntsAre.int_at hin i v (by rw [Array.getElem?_toList]; exact hv)
    refine ⟨zs[i], t, List.getElem?_eq_getElem hi, ?_⟩
    rw [e, List.getD_eq_getElem?_getD, List.getElem?_eq_getElem hi] <;> rfl
  refine set_update_ints ((Walks.list (by simp [ok]) _ ls ne1 arr).toS) sh.heap.objs.size ne2 zs size_eq few item (arr.size - 0) 0 _ (by omega) (Nat.zero_le _) ⟨⟨_, Heap.get?_push_size _ rfl, rfl, rfl⟩, (il.push _)⟩ ?first0 ?rest0
  case first0 =>
    have g : ((sh.heap.push (empt Wd)).push (walker ls)).get? sh.heap.objs.size = some (empt Wd) := Heap.get?_push_of_some _ (Heap.get?_push_size _ rfl)
    exact ⟨0, Nat.le_refl 0, setR_new_at g⟩
  case rest0 =>
    rintro ⟨hp, g2, d2, tk, os2⟩ c mv hc R
    have eg : g2 = sh.gens := mv.gens
    have ed : d2 = sh.drawn := mv.drawn
    have eo : os2 = sh.os := mv.os
    subst eg; subst ed; subst eo
    show wpAny _ _ _ _ _ _
    refine wpAny_pure ?_
    show wpAny _ _ (ret Value.none) _ _ _
    rw [size_eq] at hc
    refine wpAny_pure ⟨rfl, hp, tk, c, rfl, R, hc, fun b o e => ?_⟩
    have lb : b < sh.heap.objs.size := Heap.lt_size e
    refine mv.heap b o ?_ (Heap.get?_push_of_some _ (Heap.get?_push_of_some _ e))
    rw [sz]
    intro z
    rcases List.mem_cons.mp z with e | e
    · exact absurd e (Nat.ne_of_lt lb)
    · exact absurd (List.mem_singleton.mp e) (Nat.ne_of_lt (Nat.lt_succ_of_lt lb))
set_option maxHeartbeats 3200000 in
theorem set_of_list {ls : Addr} {arr : Array Value} (zs : List Int) {Qv : Value → Shared → Prop} (ok : Ar.handled = none) (at0 : sh.heap.IsList ls arr) (hin : IntsAre arr.toList zs) (few : zs.length + 1 < scanBound)
    (k : ∀ s2, Filled Wd sh zs s2 → Qv (.ref sh.heap.objs.size) s2) : wpAny (model Pg Wd) Ar (call (.type "set") [.ref ls]) Qv Ex sh := by
  obtain ⟨c0, tl0, mro0⟩ := F.called_set.mro
  have f1 := F.called_set.made
  have f2 := F.called_set.sub
  refine wpAny_call (codeAny_of_tree ?_)
  show wpAny _ _ (callAny (.type "set") _) _ _ _
  refine wpAny_pure ⟨Code.quiet_builtin _ (by decide +kernel), codeAny_builtin F.entry_type_call ?_⟩
  rw [Around.under_plain (weight_type_call_type "set" [.ref ls] []) rfl]
  have f3 := F.called_set.notType
  have f4 := F.called_set.canCreate
  have f5 := F.typeCall_set_1 (.ref ls)
  repeat (any_goals (first | assumption | wp_step))
  refine codeAny_mono (code_set_led1 (.ref ls) (E := Ex) (Q₁ := fun ob s1 => ob = .ref sh.heap.objs.size ∧ s1 = { sh with heap := sh.heap.push (empt Wd) }) ⟨rfl, rfl⟩) fun r s1 hr => ?_
  match r, hr with
  | .error e, hr => exact hr
  | .ok .next, hr => exact hr.elim
  | .ok .brk, hr => exact hr.elim
  | .ok .cont, hr => exact hr.elim
  | .ok (.ret ob), hr =>
    obtain ⟨rfl, rfl⟩ := hr
    have tS : Shared.TypeIs { sh with heap := sh.heap.push (empt Wd) } (.ref sh.heap.objs.size) "set" := ⟨_, Heap.get?_push_size _ rfl, rfl⟩
    have f6 := F.called_set.init.lookup
    have f7 := F.called_set.init.bind (.ref sh.heap.objs.size)
    repeat (any_goals (first | assumption | wp_step))
    refine codeAny_mono (init_list (zs := zs) (Ex := Ex) (by simp [ok]) at0 hin few tS) fun r2 s2 hr2 => ?_
    match r2, hr2 with
    | .error e, hr2 => exact hr2
    | .ok .next, hr2 => exact hr2.elim
    | .ok .brk, hr2 => exact hr2.elim
    | .ok .cont, hr2 => exact hr2.elim
    | .ok (.ret v), hr2 =>
      obtain ⟨rfl, hF⟩ := hr2
      obtain ⟨hp, tk, c, rfl, R, hc, hk⟩ := hF
      repeat (any_goals (first | assumption | wp_step))
      exact k _ ⟨hp, tk, c, rfl, R, hc, hk⟩
end
section
variable {X : Cx}
def rSetL (K : PySem.W.Frag) (Wd : World) : List V → Hp → VK → Prop := fun xs H Q => ∃ (l : Addr) (zs : List Int), xs = [.ref l] ∧ SqL K H l (zs.map V.int) ∧ zs.length ≤ 4000 ∧ ∀ (p : Addr) (c : Nat), H p = none → c ≤ zs.length → Q (.ref p) (upd H p (SetO Wd p (fun j => decide (j ∈ zs)) c))
theorem cr_setL (hc : X.calm = true) : CallR X (.type "set") (rSetL X.K X.w) := by
  intro pins s σ H xs us Q I r h
  obtain ⟨l, zs, rfl, hL, few, q⟩ := h
  rw [Vals.ref1 r]
  obtain ⟨its, rv, pl, _⟩ := I.list hL
  refine set_of_list zs (I.ok.hd hc) pl.isList (by simpa using ints_of_vals rv) (by unfold scanBound; omega) fun s2 hF => ?_
  obtain ⟨hp, tk, c, rfl, R, hc2, hk⟩ := hF
  exact ⟨.ref _, upd H s.heap.objs.size (SetO X.w s.heap.objs.size (fun j => decide (j ∈ zs)) c), I.laid (t' := tk) hk (Nat.le_refl _) (setO_new R), rfl, q _ c (I.hok.fresh (Nat.le_refl _)) hc2⟩
end
end WS

end
section
set_option autoImplicit false
set_option Elab.async false
set_option linter.all false
set_option maxRecDepth 100000
set_option maxHeartbeats 4000000
/-! ## pieces for any law -/
namespace Y
open PySem L2 G
theorem of_upd {H : Hp} {p : Addr} {o : HO} (h : H p = none) : Same H (upd H p o) := fun a u e => by
  rw [upd_ne (ne_of_none e h)]
  exact e
theorem add_upd {H G : Hp} {D : Addr} {o : HO} (nD : H D = none) (s : Same H G) : Same H (upd G D o) := fun b u e => by
  rw [upd_ne (ne_of_none e nD)]
  exact s _ _ e
/-- a def of the text that is called by its name, and keeps a promise -/
structure Df (P : Program) (w : World) (K : PySem.W.Frag) (mg : Str → Option Value) (base : Heap) (k : Nat) (x : Str) (ps : List Str) (sp : Sp) : Prop where
  ex : ∃ (f : Addr) (fd : FuncData), FnOk P w K mg base CX0 k f fd ps sp ∧ mg x = some (.ref f) ∧ PySem.W.keepIn K (.ref f) = true ∧ Binds K fd ps []
structure Fd (K : PySem.W.Frag) (mg : Str → Option Value) (x : Str) (st : Stmt) (ps : List Str) : Prop where
  ex : ∃ (f : Addr) (fd : FuncData), Fun K x x st f fd ∧ mg x = some (.ref f) ∧ PySem.W.keepIn K (.ref f) = true ∧ Binds K fd ps []
theorem Fd.df {P : Program} {w : World} {K : PySem.W.Frag} {mg : Str → Option Value} {base : Heap} {x : Str} {st : Stmt} {ps : List Str} {k : Nat} {sp : Sp} (h : Fd K mg x st ps) (ok : ∀ f fd, Fun K x x st f fd → FnOk P w K mg base CX0 k f fd ps sp) : Df P w K mg base k x ps sp := by
  obtain ⟨f, fd, h1, h2, h3, h4⟩ := h.ex
  exact ⟨f, fd, ok f fd h1, h2, h3, h4⟩
theorem set_then {te : TE} {i : Nat} {t2 : TS} {D : Ends} {σ : L2.St} {H : Hp} (h : te σ H fun v H1 => t2 D (σ.set i (some v)) H1) : tSeq (tAsg te (gName i)) t2 D σ H := h
theorem len_put {f : Str} {v : V} {fs : List (Str × V)} {n : Nat} (h : fs.length < n) : (putF f v fs).length < n + 1 := Nat.lt_of_le_of_lt (length_putF f v fs) (Nat.succ_lt_succ h)
theorem take_snoc {α : Type} {l : List α} {i : Nat} {x : α} (h : l[i]? = some x) : l.take (i + 1) = l.take i ++ [x] := by
  rw [List.take_succ, h]
  rfl
theorem drop_at {α : Type} {l : List α} {i : Nat} {x : α} (h : l[i]? = some x) : l.drop i = x :: l.drop (i + 1) := by
  obtain ⟨hi, ex⟩ := List.getElem?_eq_some_iff.mp h
  rw [← ex, ← List.drop_eq_getElem_cons hi]
section
variable {X : Cx} {tg it : Expr}
theorem pi_or {w1 w2 : TI} (h1 : PI X tg it w1) (h2 : PI X tg it w2) : PI X tg it (fun σ H R => w1 σ H R ∨ w2 σ H R) := ⟨fun pins s σ H R I h => h.elim (h1.run pins s σ H R I) (h2.run pins s σ H R I)⟩
def tDead : TS := fun _ _ _ => False
theorem ps_dead {b : List Stmt} : PSs X b tDead := ⟨fun _ _ _ _ _ _ h => h.elim⟩
end
def SAt (H : Hp) (l : Addr) (xs : List V) : Prop := H l = some (.lst xs) ∨ H l = some (.tup xs)
theorem SAt.mono {H H' : Hp} {l : Addr} {xs : List V} (s : Same H H') (h : SAt H l xs) : SAt H' l xs := h.elim (fun e => .inl (s _ _ e)) fun e => .inr (s _ _ e)
section
variable {K : PySem.W.Frag} {H : Hp} {σ : L2.St} {l : Addr} {xs : List V}
theorem or_seq {te : TE} {R : It → Hp → Prop} (ht : ∀ Q : VK, Q (.ref l) H → te σ H Q) (hl : SAt H l xs) (k : ∀ (J : It) (Gd : Hp → Prop), (∀ H', Same H H' → Gd H') → Walk J xs.length Gd (YAt xs) → R J H) : iList K te σ H R ∨ iTup K te σ H R :=
  hl.elim (fun e => .inl (ht _ ⟨l, rfl, ⟨xs, SqL.of e⟩, k _ _ (fun H' s => SqL.of (s _ _ e)) walk_list⟩)) fun e => .inr (ht _ ⟨l, rfl, ⟨xs, SqT.of e⟩, k _ _ (fun H' s => SqT.of (s _ _ e)) walk_tup⟩)
end
theorem at0 {y0 : V} {ys : List V} : atI (y0 :: ys) (0 : Int) = some y0 := by exact atI_nat (xs := y0 :: ys) (j := 0) rfl
def ni (l : List Nat) : List V := (l.map fun n => ((n : Nat) : Int)).map V.int
theorem ni_len (l : List Nat) : (ni l).length = l.length := by
  unfold ni
  rw [List.length_map, List.length_map]
theorem ni_get {l : List Nat} {i : Nat} {x : V} (h : (ni l)[i]? = some x) : ∃ b, l[i]? = some b ∧ x = .int ((b : Nat) : Int) := by
  unfold ni at h
  rw [List.getElem?_map, List.getElem?_map] at h
  cases e : l[i]? with
  | none => rw [e] at h; cases h
  | some b =>
    rw [e] at h
    cases h
    exact ⟨b, rfl, rfl⟩
theorem ni_at {l : List Nat} {i b : Nat} (h : l[i]? = some b) : (ni l)[i]? = some (.int ((b : Nat) : Int)) := by
  unfold ni
  rw [List.getElem?_map, List.getElem?_map, h]
  rfl
theorem ni_app (l m : List Nat) : ni (l ++ m) = ni l ++ ni m := by
  unfold ni
  rw [List.map_append, List.map_append]
theorem ni_drop (l : List Nat) (i : Nat) : (ni l).drop i = ni (l.drop i) := by
  unfold ni
  rw [← List.map_drop, ← List.map_drop]
theorem ni_take (l : List Nat) (i : Nat) : (ni l).take i = ni (l.take i) := by
  unfold ni
  rw [← List.map_take, ← List.map_take]
theorem line2 : 2 ≤ sizeLine ∧ 3 ≤ sizeLine ∧ 1 ≤ sizeLine ∧ 0 ≤ sizeLine := by decide
/-- xs[k:] -/
theorem cut_from (xs : List V) (k : Nat) : cutV xs (some (k : Int)) none = xs.drop k := by
  unfold cutV
  rw [HT.sIx_none, HT.sIx_nat]
  by_cases h : k ≤ xs.length
  · rw [Nat.min_eq_left h]
    exact List.take_of_length_le (by rw [List.length_drop]; omega)
  · rw [Nat.min_eq_right (by omega), List.drop_of_length_le (by omega), List.drop_of_length_le (by omega), List.take_nil]
theorem six_pos {n k : Nat} (h : 0 < k) (hn : 0 < n) (d : Nat) : HT.sIx n d (some (k : Int)) ≠ 0 := by
  rw [HT.sIx_nat]
  omega
structure Bn (mg : Str → Option Value) : Prop where
  isi : mg "isinstance" = none
  bool : mg "bool" = none
  int : mg "int" = none
  tuple : mg "tuple" = none
  list : mg "list" = none
  len : mg "len" = none
  range : mg "range" = none
  zip : mg "zip" = none
  min : mg "min" = none
  max : mg "max" = none
  sorted : mg "sorted" = none
  set : mg "set" = none
  enum : mg "enumerate" = none
end Y

end
section
set_option Elab.async false
set_option linter.all false
set_option maxRecDepth 100000
set_option maxHeartbeats 4000000
/-! ## where the law draws from -/
namespace S
open PySem L2
def top (i : Nat) : Stmt := PySem.Challenge.pw_roadsizes_k41_whole_ways_alike.main.body.getD i (.Pass ⟨0, 0, 0, 0⟩)
abbrev sSource : Stmt := top 74
abbrev sDraw : Stmt := top 75
abbrev sPick : Stmt := top 76
/-- the built-ins that these defs call -/
structure Bi (mg : Str → Option Value) : Prop where
  int : mg "int" = none
  len : mg "len" = none
/-- a source: two numbers that are not negative, the second one small -/
def Two (r m : Int) : List V := [.int r, .int m]
structure Fine (r m : Int) : Prop where
  r0 : 0 ≤ r
  m0 : 0 ≤ m
  m1 : m < 2147483648
def At (H : Hp) (p : Addr) : Prop := ∃ r m, H p = some (.lst (Two r m)) ∧ Fine r m
theorem bits_lt (x : Int) : x.natAbs < 2 ^ (Builtin.Int.intBits x) := by
  unfold Builtin.Int.intBits
  split
  · rename_i h
    have e : x = 0 := by simpa using h
    subst e
    decide
  · exact Nat.lt_log2_self
theorem bits_le {x : Int} {n : Nat} (h : x.natAbs < 2 ^ n) : Builtin.Int.intBits x ≤ n := by
  unfold Builtin.Int.intBits
  split
  · exact Nat.zero_le _
  · rename_i q
    have ne : x.natAbs ≠ 0 := fun e => q (by simp [Int.natAbs_eq_zero.mp e])
    exact (Nat.log2_lt ne).mpr h
theorem cube_gen {m z : Int} {N : Nat} (hN : 100 ≤ N) (h0 : 0 ≤ m) (h1 : m < 2147483648) (hz : Builtin.Int.intBits z ≤ N) : Builtin.Int.intBits (m * 40127 + z) ≤ N + 1 := by
  have b2 : z.natAbs < 2 ^ N := Nat.lt_of_lt_of_le (bits_lt z) (Nat.pow_le_pow_right (by decide) hz)
  refine bits_le ?_
  have e2 : (2 : Nat) ^ 100 ≤ 2 ^ N := Nat.pow_le_pow_right (by decide) hN
  have e3 : (2 : Nat) ^ 100 = 1267650600228229401496703205376 := by decide
  rw [Nat.pow_succ]
  generalize (2 : Nat) ^ N = t at *
  omega
theorem cube_ok {m z : Int} (h0 : 0 ≤ m) (h1 : m < 2147483648) (hz : Builtin.Int.intBits z ≤ 1048576) : (Builtin.Int.intBits (m * 40127 + z) : Int) * 3 ≤ 2 ^ 27 := by
  have b4 := cube_gen (N := 1048576) (by decide) h0 h1 hz
  have e27 : (2 : Int) ^ 27 = 134217728 := by decide
  rw [e27]
  omega
/-! ### promises -/
def spSource (K : PySem.W.Frag) : Sp := fun vs H Q _ => ∃ (a : Addr) (ns : List Int) (i : Nat), vs = [.ref a, .int i] ∧ i ≤ 1000 ∧ SqL K H a (ns.map V.int) ∧ ns.length ≤ 63 ∧ (∀ z ∈ ns, Builtin.Int.intBits z ≤ 1048576) ∧
  ∀ p r m, H p = none → Fine r m → Q (.ref p) (upd H p (.lst (Two r m)))
def spDraw : Sp := fun vs H Q _ => ∃ (p : Addr) (r m span : Int), vs = [.ref p, .int span] ∧ H p = some (.lst (Two r m)) ∧ Fine r m ∧ 1 ≤ span ∧ span.natAbs.log2 < 9000 ∧
  ∀ k r' m', Fine r' m' → 0 ≤ k → k < span → Q (.int k) (upd H p (.lst (Two r' m')))
def spPick (K : PySem.W.Frag) : Sp := fun vs H Q _ => ∃ (p l : Addr) (r m : Int) (xs : List V), vs = [.ref p, .ref l] ∧ H p = some (.lst (Two r m)) ∧ Fine r m ∧ l ≠ p ∧ SqL K H l xs ∧ 1 ≤ xs.length ∧ xs.length ≤ 1000 ∧
  ∀ (j : Nat) (x : V) (r' m' : Int), Fine r' m' → xs[j]? = some x → Q x (upd H p (.lst (Two r' m')))
section
variable {P : Program} {w : World} {K : PySem.W.Frag} {mg : Str → Option Value} {base : Heap}
theorem sc1 : FnScope ["script", "start", "seed", "cell", "digits"] ["script", "start"] (defScope sSource) := ⟨rfl, rfl, rfl, by decide +kernel, rfl, by decide +kernel, by decide +kernel⟩
theorem ints_at {ns : List Int} {i : Nat} {x : V} (h : (ns.map V.int)[i]? = some x) : ∃ z, x = .int z ∧ z ∈ ns ∧ ns[i]? = some z := by
  rw [List.getElem?_map] at h
  cases e : ns[i]? with
  | none => rw [e] at h; cases h
  | some z => rw [e] at h; exact ⟨z, (Option.some.inj h).symm, List.mem_of_getElem? e, rfl⟩
theorem ok_source {f : Addr} {fd : FuncData} (F : Fun K "_law_stream" "_law_stream" sSource f fd) (B : Bi mg) : FnOk P w K mg base CX0 1 f fd ["script", "start"] (spSource K) := by
  refine F.ok sc1 (fun vs H Q E h => ?_) (fun cdv A outer s H vs Q E hr h => ?_)
  · obtain ⟨a, ns, i, rfl, _⟩ := h
    rfl
  · obtain ⟨a, ns, st, rfl, hst, hS, hl, hb, k⟩ := h
    refine ⟨_, pss_cons (ps_set (i := 2) sc1.nd rfl (Or.inl rfl) (pe_op op_add pe_int (pv 1)))
      (pss_cons (ps_for PassesOwn.never rfl (pi_list (pv 0)) (pg_name (i := 3) sc1.nd rfl (Or.inl rfl))
        (pss_one (ps_set (i := 2) sc1.nd rfl (Or.inl rfl) (pe_op op_add (pe_op op_mod
          (pe_op G.op_powN (pe_callTy call_int1 (by rfl) B.int (by decide +kernel) (pa_cons (pe_op op_add (pe_op op_mul (pv 2) pe_int) (pv 3)) pa_nil)) pe_int) pe_int) pe_int))))
      (pss_cons (ps_set (i := 4) sc1.nd rfl (Or.inl rfl) pe_int)
      (pss_cons (ps_if (PW.pt (pw_and (pt_cmpR op_lt (pv 1) (pe_callB call_len_seq (by rfl) B.len PySem.boot_len (pa_cons (pv 0) pa_nil)) (nomark _))
          (pw_and1 (pt_cmpR op_ge (pe_ix ix_list (pv 0) (pv 1) (fun _ _ => rfl)) (pe_op op_pow pe_int pe_int) (nomark _)))))
        (pss_one (ps_set (i := 4) sc1.nd rfl (Or.inl rfl) (pe_op op_sub (pe_ix ix_list (pv 0) (pv 1) (fun _ _ => rfl)) (pe_op op_pow pe_int pe_int)))) pss_nil)
      (pss_one (ps_ret (pe_lst (pa_cons (pv 4) (pa_cons (pv 2) pa_nil)))))))), ?_⟩
    -- mixed = 97 + start
    refine ⟨_, rfl, _, _, rfl, rfl, ?_⟩
    -- for cell in script
    refine ⟨_, rfl, a, rfl, ⟨_, hS⟩, for_list (K := K) (a := a) (xs := ns.map V.int) (fun i σ H2 => ∃ (m : Int) (c : Option V), σ = [some (.ref a), some (.int st), some (.int m), c, none] ∧ H2 = H ∧ (0 ≤ m ∧ m < 2147483648))
      ⟨_, none, rfl, rfl, by omega, by omega⟩ (fun i σ H2 _ ⟨_, _, _, e, _⟩ => by rw [e]; exact hS) ?_ ?_⟩
    · rintro i y σ H2 hi ⟨m, c, rfl, rfl, h0, h1⟩
      obtain ⟨z, rfl, hz, _⟩ := ints_at hi
      refine ⟨_, rfl, _, _, rfl, rfl, .inl ⟨by omega, by omega⟩, _, rfl, _, _, rfl, rfl, .inl ⟨_, rfl, _, _, rfl, rfl, ⟨by decide, cube_ok h0 h1 (hb z hz)⟩, _, _, rfl, rfl, (by show (0 : Int) < 2147483629; decide), _, _, rfl, rfl, ?_⟩⟩
      refine ⟨_, _, rfl, rfl, ?_⟩
      have e1 := Int.emod_nonneg ((m * 40127 + z) ^ (3 : Int).toNat) (b := 2147483629) (by decide)
      have e2 := Int.emod_lt_of_pos ((m * 40127 + z) ^ (3 : Int).toNat) (b := 2147483629) (by decide)
      exact ⟨Int.add_nonneg e1 (by decide), Int.lt_of_lt_of_le (Int.add_lt_add_right e2 1) (by decide)⟩
    · rintro σ H2 ⟨m, c, rfl, rfl, h0, h1⟩
      -- rest = 0; if start < len(script) and script[start] >= 10 ** 18
      refine ⟨_, rfl, _, rfl, a, _, rfl, .inl hS, _, _, rfl, rfl, _, rfl, ?_⟩
      have fin : ∀ r : Int, 0 ≤ r → tRet (tLst (tCons (tVar 4) (tCons (tVar 2) tNil))) { nx := fun _ H' => Q .non H', rt := Q } [some (.ref a), some (.int st), some (.int m), c, some (.int r)] H2 := fun r hr =>
        ⟨_, rfl, _, rfl, (by show 2 ≤ sizeLine; decide), fun p hp => k p r m hp ⟨hr, h0, h1⟩⟩
      by_cases hlt : st < ns.length
      · have e : decide ((st : Int) < ((ns.map V.int).length : Int)) = true := by
          rw [List.length_map]
          exact decide_eq_true (by omega)
        rw [e]
        refine iteT ?_
        have hit : (ns.map V.int)[st]? = some (V.int ns[st]) := by rw [List.getElem?_map, List.getElem?_eq_getElem hlt]; rfl
        refine ⟨_, rfl, _, rfl, a, _, _, _, rfl, rfl, hS, atI_nat hit, _, _, rfl, rfl, ⟨by decide, by decide, by decide⟩, _, _, rfl, rfl, _, rfl, ?_⟩
        refine ite2 (fun hge => ?_) (fun _ => fin 0 (by decide))
        refine ⟨_, rfl, _, rfl, a, _, _, _, rfl, rfl, hS, atI_nat hit, _, _, rfl, rfl, ⟨by decide, by decide, by decide⟩, _, _, rfl, rfl, ?_⟩
        exact fin _ (Int.sub_nonneg_of_le (of_decide_eq_true hge))
      · have e : decide ((st : Int) < ((ns.map V.int).length : Int)) = false := by
          rw [List.length_map]
          exact decide_eq_false (by omega)
        rw [e]
        exact iteF (iteF (fin 0 (by decide)))
theorem fits {a : Int} {n : Nat} (h : 0 ≤ a) (h1 : a < 2 ^ n) : a.natAbs < 2 ^ n := by
  have e : ((2 : Int) ^ n) = ((2 ^ n : Nat) : Int) := by rw [Int.natCast_pow]; rfl
  rw [e] at h1
  omega
theorem sc2 : FnScope ["stream", "size", "found"] ["stream", "size"] (defScope sDraw) := ⟨rfl, rfl, rfl, by decide +kernel, rfl, by decide +kernel, by decide +kernel⟩
theorem ok_draw {f : Addr} {fd : FuncData} (F : Fun K "_law_draw" "_law_draw" sDraw f fd) (B : Bi mg) : FnOk P w K mg base CX0 1 f fd ["stream", "size"] spDraw := by
  refine F.ok sc2 (fun vs H Q E h => ?_) (fun cdv A outer s H vs Q E hr h => ?_)
  · obtain ⟨p, r, m, span, rfl, _⟩ := h
    rfl
  · obtain ⟨p, r, m, span, rfl, hp, ⟨r0, m0, m1⟩, s1, s2, k⟩ := h
    refine ⟨_, pss_cons (ps_if (pt_cmpR op_ge (pe_ix ix_list (pv 0) pe_int (fun _ _ => rfl)) (pv 1) (nomark _))
        (pss_cons (ps_set (i := 2) sc2.nd rfl (Or.inl rfl) (pe_op op_mod (pe_callTy call_int1 (by rfl) B.int (by decide +kernel) (pa_cons (pe_ix ix_list (pv 0) pe_int (fun _ _ => rfl)) pa_nil)) (pv 1)))
        (pss_cons (ps_asg (pe_op op_fdivW (pe_ix ix_list (pv 0) pe_int (fun _ _ => rfl)) (pv 1)) (pg_sub (pv 0) pe_int set_list))
        (pss_one (ps_ret (pv 2))))) pss_nil)
      (pss_cons (ps_asg (pe_op op_mod (pe_callTy call_int1 (by rfl) B.int (by decide +kernel) (pa_cons (pe_op op_add (pe_op op_mul (pe_ix ix_list (pv 0) pe_int (fun _ _ => rfl)) pe_int) pe_int) pa_nil)) pe_int) (pg_sub (pv 0) pe_int set_list))
      (pss_one (ps_ret (pe_op op_mod (pe_op op_fdiv (pe_op op_mod (pe_op op_pow (pe_op op_mod (pe_op op_pow (pe_callTy call_int1 (by rfl) B.int (by decide +kernel) (pa_cons (pe_ix ix_list (pv 0) pe_int (fun _ _ => rfl)) pa_nil)) pe_int) pe_int) pe_int) pe_int) pe_int) (pv 1))))), ?_⟩
    have g0 : atI (Two r m) 0 = some (.int r) := rfl
    refine ⟨_, rfl, p, _, _, _, rfl, rfl, SqL.of hp, g0, _, rfl, _, _, rfl, rfl, _, rfl, ?_⟩
    refine ite2 (fun hge => ?_) (fun hlt => ?_)
    · have hge' : span ≤ r := of_decide_eq_true hge
      have q0 : 0 ≤ r / span := Int.ediv_nonneg r0 (by omega)
      refine ⟨_, rfl, p, _, _, _, rfl, rfl, SqL.of hp, g0, .inl ⟨_, rfl, _, rfl, _, _, rfl, rfl, (by show 0 < span; omega), ?_⟩⟩
      refine ⟨_, rfl, p, _, _, _, rfl, rfl, SqL.of hp, g0, _, rfl, _, _, rfl, rfl, ⟨(by omega), s2⟩, ?_⟩
      refine ⟨_, rfl, p, _, _, _, rfl, rfl, hp, rfl, ?_⟩
      exact ⟨_, rfl, k (r % span) (r / span) m ⟨q0, m0, m1⟩ (Int.emod_nonneg _ (by omega)) (Int.emod_lt_of_pos _ (by omega))⟩
    · have g1 : atI (Two r m) 1 = some (.int m) := rfl
      have e1 := Int.emod_nonneg (m * 48271 + 12345) (b := 2147483647) (by decide)
      have e2 := Int.emod_lt_of_pos (m * 48271 + 12345) (b := 2147483647) (by decide)
      refine ⟨_, rfl, p, _, _, _, rfl, rfl, SqL.of hp, g1, _, _, rfl, rfl, .inl ⟨by omega, by omega⟩, _, _, rfl, rfl, .inl ⟨_, rfl, _, _, rfl, rfl, (by show (0 : Int) < 2147483647; decide), ?_⟩⟩
      refine ⟨_, rfl, p, _, _, _, rfl, rfl, hp, rfl, ?_⟩
      have hp2 : (upd H p (.lst (Two r ((m * 48271 + 12345) % 2147483647)))) p = some (.lst (Two r ((m * 48271 + 12345) % 2147483647))) := upd_same
      have g2 : atI (Two r ((m * 48271 + 12345) % 2147483647)) 1 = some (.int ((m * 48271 + 12345) % 2147483647)) := rfl
      have f1 := Int.emod_nonneg (((m * 48271 + 12345) % 2147483647) ^ (3 : Int).toNat) (b := 2147483629) (by decide)
      have f2 := Int.emod_lt_of_pos (((m * 48271 + 12345) % 2147483647) ^ (3 : Int).toNat) (b := 2147483629) (by decide)
      refine ⟨_, rfl, p, _, _, _, rfl, rfl, SqL.of hp2, g2, .inl ⟨_, rfl, _, _, rfl, rfl, ⟨by decide, by decide, by omega⟩, _, _, rfl, rfl, (by show (0 : Int) < 2147483629; decide), ?_⟩⟩
      generalize (((m * 48271 + 12345) % 2147483647) ^ (3 : Int).toNat) % 2147483629 = u at f1 f2 ⊢
      refine ⟨_, _, rfl, rfl, ⟨by decide, by decide, by omega⟩, _, _, rfl, rfl, (by show (0 : Int) < 1000000007; decide), _, _, rfl, rfl, ⟨by decide, by decide⟩, _, rfl, _, _, rfl, rfl, (by show 0 < span; omega), ?_⟩
      exact k _ r _ ⟨r0, e1, by omega⟩ (Int.emod_nonneg _ (by omega)) (Int.emod_lt_of_pos _ (by omega))
end
end S

end
section
set_option autoImplicit false
set_option Elab.async false
set_option linter.all false
set_option maxRecDepth 100000
set_option maxHeartbeats 4000000
/-! ## the program's chains -/
namespace CP
open PySem L2 G Y
abbrev sInteger : Stmt := S.top 2
abbrev sWithin : Stmt := S.top 3
abbrev sCInit : Stmt := inClass (S.top 20) 0
abbrev sCHas : Stmt := inClass (S.top 20) 1
abbrev sCGet : Stmt := inClass (S.top 20) 2
abbrev sCPieces : Stmt := inClass (S.top 20) 6
abbrev sCDigits : Stmt := inClass (S.top 20) 7
abbrev sCStretch : Stmt := inClass (S.top 20) 8
abbrev sCBoundary : Stmt := inClass (S.top 20) 10
abbrev sAreCuts : Stmt := S.top 21
abbrev sCounts : Stmt := S.top 22
abbrev sPieces : Stmt := S.top 23
/-- cuts: falling, at most 1000 -/
structure Cuts (l : List Nat) : Prop where
  fall : N.Fall l
  le : ∀ c ∈ l, c ≤ 1000
  len : l.length ≤ 1000
theorem Cuts.at {l : List Nat} (h : Cuts l) {i c : Nat} (e : l[i]? = some c) : 0 < c ∧ c ≤ 1000 := ⟨h.fall.pos c (List.mem_of_getElem? e), h.le c (List.mem_of_getElem? e)⟩
theorem Cuts.drop {l : List Nat} (h : Cuts l) (i : Nat) : Cuts (l.drop i) := ⟨h.fall.drop i, fun c hc => h.le c (List.mem_of_mem_drop hc), by rw [List.length_drop]; have := h.len; omega⟩
section
variable {P : Program} {w : World} {K : PySem.W.Frag} {mg : Str → Option Value} {base : Heap} {C : Addr}
def spInteger : Sp := fun vs H Q _ => ∃ v : Int, vs = [.int v] ∧ Q (.bl true) H
theorem scIn : FnScope ["value"] ["value"] (defScope sInteger) := ⟨rfl, rfl, rfl, by decide +kernel, rfl, by decide +kernel, by decide +kernel⟩
theorem ok_integer {f : Addr} {fd : FuncData} (F : Fun K "is_integer" "is_integer" sInteger f fd) (B : Bn mg) : FnOk P w K mg base CX0 1 f fd ["value"] spInteger := by
  refine F.ok scIn (fun vs H Q E h => ?_) (fun cdv A outer s H vs Q E hr h => ?_)
  · obtain ⟨v, rfl, _⟩ := h
    rfl
  · obtain ⟨v, rfl, k⟩ := h
    refine ⟨_, pss_one (ps_ret (pe_and (pe_callB call_isi (by rfl) B.isi (by decide +kernel) (pa_cons (pv 0) (pa_cons (pe_bltn (v := .ty "int") (by rfl) B.int (by decide +kernel) rfl) pa_nil)))
      (pe_one (pe_not (pe_callB call_isi (by rfl) B.isi (by decide +kernel) (pa_cons (pv 0) (pa_cons (pe_bltn (v := .ty "bool") (by rfl) B.bool (by decide +kernel) rfl) pa_nil))))))), ?_⟩
    exact ⟨_, rfl, _, _, _, _, _, rfl, .ty _, .base (.int _), kit_ty (r := true) (by decide +kernel), _, rfl, iteT ⟨_, rfl, _, _, _, _, _, rfl, .ty _, .base (.int _), kit_ty (r := false) (by decide +kernel), _, rfl, k⟩⟩
def spWithin : Sp := fun vs H Q _ => ∃ v a b : Int, vs = [.int v, .int a, .int b] ∧ Q (.bl (decide (a ≤ v ∧ v ≤ b))) H
theorem sc3 : FnScope ["value", "least", "greatest"] ["value", "least", "greatest"] (defScope sWithin) := ⟨rfl, rfl, rfl, by decide +kernel, rfl, by decide +kernel, by decide +kernel⟩
theorem ok_within {f : Addr} {fd : FuncData} (F : Fun K "is_within" "is_within" sWithin f fd) (DI : Df P w K mg base 1 "is_integer" ["value"] spInteger) : FnOk P w K mg base CX0 2 f fd ["value", "least", "greatest"] spWithin := by
  obtain ⟨fI, fdI, GI, gI, kI, bI⟩ := DI.ex
  refine F.ok sc3 (fun vs H Q E h => ?_) (fun cdv A outer s H vs Q E hr h => ?_)
  · obtain ⟨v, a, b, rfl, _⟩ := h
    rfl
  · obtain ⟨v, a, b, rfl, k⟩ := h
    refine ⟨_, pss_one (ps_ret (pe_and (pe_call GI hr rfl gI kI bI .nil pass0 (pa_cons (pv 0) pa_nil)) (pe_one (pe_chain op_le op_le (pv 1) (pv 0) (pv 2))))), ?_⟩
    refine ⟨_, rfl, v, rfl, _, rfl, iteT ⟨_, rfl, _, rfl, _, _, rfl, rfl, _, rfl, ?_⟩⟩
    refine ite2 (fun h1 => ⟨_, rfl, _, _, rfl, rfl, ?_⟩) (fun h1 => ?_)
    · have e1 : a ≤ v := of_decide_eq_true h1
      rw [show decide (a ≤ v ∧ v ≤ b) = decide (v ≤ b) by
        by_cases z : v ≤ b
        · rw [decide_eq_true z, decide_eq_true ⟨e1, z⟩]
        · rw [decide_eq_false z, decide_eq_false fun q => z q.2]] at k
      exact k
    · rw [show decide (a ≤ v ∧ v ≤ b) = false from decide_eq_false fun q => h1 (decide_eq_true q.1)] at k
      exact k
/-- _pieces -/
def spPieces (K : PySem.W.Frag) : Sp := fun vs H Q _ => ∃ (b : Nat) (l : List Nat) (t u : Addr), vs = [.int (b : Int), .ref t, .ref u] ∧ SqT K H t (ni l) ∧ SqT K H u (ni (N.cn l)) ∧ Cuts l ∧ ∀ H', Same H H' → Q (.int ((N.PC l b : Nat) : Int)) H'
abbrev NPc : List Str := ["body", "cuts", "counts", "pieces", "rest", "cut", "count"]
theorem scPc : FnScope NPc ["body", "cuts", "counts"] (defScope sPieces) := ⟨rfl, rfl, rfl, by decide +kernel, rfl, by decide +kernel, by decide +kernel⟩
theorem sqT_same {H H' : Hp} {a : Addr} {xs : List V} (s : Same H H') (h : SqT K H a xs) : SqT K H' a xs := h.elim (fun h => .inl (h.elim (fun h => .inl (s _ _ h)) fun ⟨o, h⟩ => .inr ⟨o, s _ _ h⟩)) .inr
theorem ok_pieces {f : Addr} {fd : FuncData} (F : Fun K "_pieces" "_pieces" sPieces f fd) (B : Bn mg) : FnOk P w K mg base CX0 1 f fd ["body", "cuts", "counts"] (spPieces K) := by
  refine F.ok scPc (fun vs H Q E h => ?_) (fun cdv A outer s H vs Q E hr h => ?_)
  · obtain ⟨b, l, t, u, rfl, _⟩ := h
    rfl
  · obtain ⟨b, l, t, u, rfl, hT, hU, hl, k⟩ := h
    refine ⟨_, pss_cons (ps_set (i := 3) scPc.nd rfl (Or.inl rfl) pe_int)
      (pss_cons (ps_set (i := 4) scPc.nd rfl (Or.inl rfl) (pv 0))
      (pss_cons (ps_for PassesOwn.never rfl (RZ.pi_zipA (by rfl) B.zip (pa_cons (pv 1) (pa_cons (pv 2) pa_nil))) (pg_tup (by rfl) (pgs_cons (pg_name (i := 5) scPc.nd rfl (.inl rfl)) (pgs_cons (pg_name (i := 6) scPc.nd rfl (.inl rfl)) pgs_nil)))
        (pss_cons (ps_set (i := 3) scPc.nd rfl (Or.inl rfl) (pe_op op_add (pv 3) (pe_op op_mul (pe_op op_fdiv (pv 4) (pv 5)) (pv 6))))
        (pss_one (ps_set (i := 4) scPc.nd rfl (Or.inl rfl) (pe_op op_mod (pv 4) (pv 5))))))
      (pss_cons (ps_if (PW.pt (pw_or (pt_cmpR op_gt (pv 4) pe_int (nomark _)) (pw_or1 (pt_cmpR op_eq (pv 0) pe_int (nomark _))))) (pss_one (ps_set (i := 3) scPc.nd rfl (Or.inl rfl) (pe_op op_add (pv 3) pe_int))) pss_nil)
      (pss_one (ps_ret (pv 3)))))), ?_⟩
    refine ⟨_, rfl, _, rfl, _, rfl, t, u, _, _, rfl, .inr ⟨hT, hU, ?_⟩⟩
    refine RZ.for_zipT (by rw [ni_len, ni_len, N.cn_len]) (fun i σ G => Same H G ∧ ∃ (p r : Nat) (q1 q2 : Option V), σ = [some (.int (b : Int)), some (.ref t), some (.ref u), some (.int (p : Int)), some (.int (r : Int)), q1, q2] ∧ p + N.sm (l.drop i) r = N.sm l b ∧ N.rem (l.drop i) r = N.rem l b)
      ⟨Same.refl H, 0, b, _, _, rfl, by rw [List.drop_zero, Nat.zero_add], by rw [List.drop_zero]⟩ (fun i σ G z => ⟨sqT_same z.1 hT, sqT_same z.1 hU⟩) ?_ ?_
    · rintro i x y T σ G hx hy ⟨s1, p, r, q1, q2, rfl, e1, e2⟩ hT0
      obtain ⟨c, hc, rfl⟩ := ni_get hx
      obtain ⟨n, hn, rfl⟩ := ni_get hy
      obtain ⟨c2, hc2, en⟩ := N.cn_at hn
      rw [hc] at hc2
      cases hc2
      have pc := hl.at hc
      have nle := N.L_le (hl.drop (i + 1)).fall pc.1
      rw [← en] at nle
      refine ⟨T, _, rfl, SqT.of upd_same, rfl, _, _, rfl, _, _, rfl, rfl, ?_⟩
      refine ⟨_, rfl, _, rfl, _, rfl, _, _, rfl, rfl, ⟨by omega, by omega⟩, _, rfl, _, _, rfl, rfl, .inr ⟨by omega, by omega⟩, _, _, rfl, rfl, ?_⟩
      refine ⟨_, rfl, _, rfl, _, _, rfl, rfl, by show (0 : Int) < (c : Int); omega, ?_⟩
      refine ⟨s1.trans (of_upd hT0), p + r / c * n, r % c, _, _, rfl, ?_, ?_⟩
      · rw [drop_at hc] at e1
        rw [N.sm_cons, ← en] at e1
        omega
      · rw [drop_at hc, N.rem_cons] at e2
        exact e2
    · rintro σ G ⟨s1, p, r, q1, q2, rfl, e1, e2⟩
      rw [ni_len, List.drop_length] at e1 e2
      rw [N.sm_nil] at e1
      rw [N.rem_nil] at e2
      have fin : ∀ z : Nat, z = N.PC l b → Q (.int (z : Int)) G := fun z e => by rw [e]; exact k G s1
      refine ⟨_, rfl, _, _, rfl, rfl, _, rfl, ite2 (fun c => ?_) (fun c => ⟨_, rfl, rfl, _, rfl, ite2 (fun d => ?_) (fun d => ?_)⟩)⟩
      · refine ⟨_, rfl, _, _, rfl, rfl, _, rfl, fin (p + 1) ?_⟩
        have c2 : (0 : Int) < (r : Int) := of_decide_eq_true c
        rw [N.PC_sm, if_pos (.inl (by omega))]
        omega
      · refine ⟨_, rfl, _, _, rfl, rfl, _, rfl, fin (p + 1) ?_⟩
        have d2 : V.int (b : Int) = V.int 0 := of_decide_eq_true d
        injection d2 with d2
        rw [N.PC_sm, if_pos (.inr (by omega))]
        omega
      · refine ⟨_, rfl, fin p ?_⟩
        have c2 : ¬ (0 : Int) < (r : Int) := fun z => c (decide_eq_true z)
        have d2 : b ≠ 0 := fun z => d (decide_eq_true (by rw [z]; rfl))
        rw [N.PC_sm, if_neg (by omega)]
        omega
end
end CP

end
section
set_option autoImplicit false
set_option Elab.async false
set_option linter.all false
set_option maxRecDepth 100000
set_option maxHeartbeats 4000000
namespace CP
open PySem L2 G Y
section
variable {P : Program} {w : World} {K : PySem.W.Frag} {mg : Str → Option Value} {base : Heap} {C : Addr}
/-- _piece_counts -/
def spCounts (K : PySem.W.Frag) : Sp := fun vs H Q _ => ∃ (l : List Nat) (t : Addr), vs = [.ref t] ∧ SqT K H t (ni l) ∧ Cuts l ∧ ∀ u H', Same H H' → H' u = some (.tup (ni (N.cn l))) → Q (.ref u) H'
theorem scCn : FnScope ["cuts", "counts", "at"] ["cuts"] (defScope sCounts) := ⟨rfl, rfl, rfl, by decide +kernel, rfl, by decide +kernel, by decide +kernel⟩
theorem ok_counts {f : Addr} {fd : FuncData} (F : Fun K "_piece_counts" "_piece_counts" sCounts f fd) (B : Bn mg) (DP : Df P w K mg base 1 "_pieces" ["body", "cuts", "counts"] (spPieces K)) : FnOk P w K mg base CX0 2 f fd ["cuts"] (spCounts K) := by
  obtain ⟨fP, fdP, GP, gP, kP, bP⟩ := DP.ex
  refine F.ok scCn (fun vs H Q E h => ?_) (fun cdv A outer s H vs Q E hr h => ?_)
  · obtain ⟨l, t, rfl, _⟩ := h
    rfl
  · obtain ⟨l, t, rfl, hT, hl, k⟩ := h
    refine ⟨_, pss_cons (ps_set (i := 1) scCn.nd rfl (Or.inl rfl) (pe_tup pa_nil))
      (pss_cons (ps_for PassesOwn.never rfl (pi_range3 (by rfl) B.range (pa_cons (pe_op op_sub (pe_callB call_len_seq (by rfl) B.len PySem.boot_len (pa_cons (pv 0) pa_nil)) pe_int) (pa_cons (pe_un un_neg pe_int) (pa_cons (pe_un un_neg pe_int) pa_nil)))) (pg_name (i := 2) scCn.nd rfl (Or.inl rfl))
        (pss_one (ps_set (i := 1) scCn.nd rfl (Or.inl rfl) (pe_tup (pa_cons (pe_call GP hr rfl gP kP bP .nil pass0 (pa_cons (pe_ix ix_tup (pv 0) (pv 2) (fun _ _ => rfl)) (pa_cons (pe_slice sl_tup (pv 0) (po_some (pe_op op_add (pv 2) pe_int)) po_none) (pa_cons (pv 1) pa_nil)))) (StX.pa_star (pv 1) pa_nil))))))
      (pss_one (ps_ret (pv 1)))), ?_⟩
    have ln := hl.len
    refine ⟨line2.2.2.2, fun u0 h0 => ?_⟩
    have s0 : Same H (upd H u0 (.tup [])) := of_upd h0
    refine ⟨_, rfl, t, _, rfl, .inr (sqT_same s0 hT), _, _, rfl, rfl, 1, rfl, 1, rfl, _, _, _, _, rfl, RgC.neg (by rw [ni_len]; omega) (by rw [ni_len]; omega) (by decide) (by decide), ?_⟩
    rw [ni_len]
    refine for_rangeC (n := ((l.length : Int) - 1 - -1).toNat) (fun i σ G => Same H G ∧ ∃ u q, σ = [some (.ref t), some (.ref u), q] ∧ G u = some (.tup (ni (N.cn (l.drop (l.length - i))))))
      ⟨s0, u0, _, rfl, by rw [Nat.sub_zero, List.drop_length]; exact upd_same⟩ ?_ ?_
    · rintro i σ G hi ⟨s1, u, q, rfl, hu⟩
      have hi2 : i < l.length := by omega
      obtain ⟨c, hc⟩ : ∃ c, l[l.length - 1 - i]? = some c := ⟨_, List.getElem?_eq_getElem (by omega)⟩
      have pc := hl.at hc
      have ei : (l.length : Int) - 1 + (i : Int) * -1 = ((l.length - 1 - i : Nat) : Int) := by omega
      have e2 : l.length - 1 - i + 1 = l.length - i := by omega
      have e3 : l.length - (i + 1) = l.length - 1 - i := by omega
      dsimp only
      rw [ei]
      refine ⟨_, rfl, _, rfl, t, _, _, _, rfl, rfl, sqT_same s1 hT, atI_nat (ni_at hc), _, rfl, _, rfl, _, _, rfl, rfl, _, rfl, t, _, rfl, sqT_same s1 hT, ?_, fun a ha => ?_⟩
      · intro z
        have e4 : ((l.length - 1 - i : Nat) : Int) + 1 = ((l.length - i : Nat) : Int) := by omega
        rw [e4] at z
        exact six_pos (by omega) (by rw [ni_len]; omega) 0 z.1
      have e4 : cutV (ni l) (some (((l.length - 1 - i : Nat) : Int) + 1)) none = ni (l.drop (l.length - i)) := by
        rw [show ((l.length - 1 - i : Nat) : Int) + 1 = ((l.length - i : Nat) : Int) by omega, cut_from, ni_drop]
      rw [e4]
      have s2 : Same G (upd G a (.tup (ni (l.drop (l.length - i))))) := of_upd ha
      refine ⟨_, rfl, c, l.drop (l.length - i), a, u, rfl, SqT.of upd_same, SqT.of (s2 _ _ hu), hl.drop _, fun G2 s3 => ?_⟩
      have hu2 := s3 _ _ (s2 _ _ hu)
      refine ⟨_, rfl, u, _, rfl, .inl (SqT.of hu2), ?_, fun v hv => ?_⟩
      · rw [List.append_nil]
        show (ni (N.cn (l.drop (l.length - i)))).length + 1 ≤ sizeLine
        rw [ni_len, N.cn_len, List.length_drop]
        exact Nat.le_trans (show l.length - (l.length - i) + 1 ≤ 1001 by omega) (by decide)
      · refine ⟨(s1.trans s2).trans (s3.trans (of_upd hv)), v, _, rfl, ?_⟩
        rw [upd_same, e3, drop_at hc, e2, List.append_nil]
        have e5 : N.PC (l.drop (l.length - i)) c = N.L (l.drop (l.length - i)) c := if_neg (by omega)
        rw [e5]
        rfl
    · rintro σ G ⟨s1, u, q, rfl, hu⟩
      rw [show l.length - ((l.length : Int) - 1 - -1).toNat = 0 by omega, List.drop_zero] at hu
      exact ⟨_, rfl, k u G s1 hu⟩
/-- _are_cuts of cuts -/
def spAre : Sp := fun vs H Q _ => ∃ (l : List Nat) (t : Addr), vs = [.ref t] ∧ SAt H t (ni l) ∧ Cuts l ∧ ∀ H', Same H H' → Q (.bl true) H'
theorem scAre : FnScope ["value", "before", "cut"] ["value"] (defScope sAreCuts) := ⟨rfl, rfl, rfl, by decide +kernel, rfl, by decide +kernel, by decide +kernel⟩
theorem ok_are {f : Addr} {fd : FuncData} (F : Fun K "_are_cuts" "_are_cuts" sAreCuts f fd) (B : Bn mg) (gC : ∃ t, mg "GREATEST_CUT" = some (.int 1000 t)) (DW : Df P w K mg base 2 "is_within" ["value", "least", "greatest"] spWithin) : FnOk P w K mg base CX0 3 f fd ["value"] spAre := by
  obtain ⟨fW, fdW, GW, gW, kW, bW⟩ := DW.ex
  obtain ⟨tkC, gC⟩ := gC
  refine F.ok scAre (fun vs H Q E h => ?_) (fun cdv A outer s H vs Q E hr h => ?_)
  · obtain ⟨l, t, rfl, _⟩ := h
    rfl
  · obtain ⟨l, t, rfl, hT, hl, k⟩ := h
    refine ⟨_, pss_cons (ps_if (pt_not (pt_val (pe_callB call_isiT (by rfl) B.isi (by decide +kernel) (pa_cons (pv 0) (pa_cons (pe_tup (pa_cons (pe_bltn (v := .ty "list") (by rfl) B.list (by decide +kernel) rfl) (pa_cons (pe_bltn (v := .ty "tuple") (by rfl) B.tuple (by decide +kernel) rfl) pa_nil))) pa_nil))))) ps_dead pss_nil)
      (pss_cons (ps_set (i := 1) scAre.nd rfl (Or.inl rfl) (pe_op op_add (pe_glob (v := .int 1000) rfl gC ⟨_, rfl⟩) pe_int))
      (pss_cons (ps_for PassesOwn.never rfl (pi_or (pi_list (pv 0)) (pi_tup (pv 0))) (pg_name (i := 2) scAre.nd rfl (Or.inl rfl))
        (pss_cons (ps_if (pt_not (pt_val (pe_call GW hr rfl gW kW bW .nil pass0 (pa_cons (pv 2) (pa_cons pe_int (pa_cons (pe_op op_sub (pv 1) pe_int) pa_nil)))))) ps_dead pss_nil)
        (pss_one (ps_set (i := 1) scAre.nd rfl (Or.inl rfl) (pv 2)))))
      (pss_one (ps_ret pe_bl)))), ?_⟩
    refine ⟨_, rfl, line2.1, fun p hp => ?_⟩
    have sp : Same H (upd H p (.tup [.ty "list", .ty "tuple"])) := of_upd hp
    have hT2 := hT.mono sp
    have rest : (tSeq (tAsg (tOp (rI0 fun i j => .int (i + j)) (tC (.int 1000)) (tC (.int 1))) (gName 1)) (tSeq (tFor (fun σ H R => iList K (tVar 0) σ H R ∨ iTup K (tVar 0) σ H R) (gName 2) (tSeq (tIfS (tNot (tB (tCall spWithin [] E0 (tCons (tVar 2) (tCons (tC (.int 1)) (tCons (tOp (rI0 fun i j => .int (i - j)) (tVar 1) (tC (.int 1))) tNil)))))) tDead tNext) (tAsg (tVar 2) (gName 1)))) (tRet (tC (.bl true)))))
        { nx := fun _ H' => Q .non H', rt := Q } [some (.ref t), none, none] (upd H p (.tup [.ty "list", .ty "tuple"])) := by
      refine ⟨_, _, rfl, rfl, ?_⟩
      refine or_seq (fun Q2 h => ⟨_, rfl, h⟩) hT2 fun J Gd hG wk => ?_
      refine for_it wk (fun i σ G => Same H G ∧ Same (upd H p (.tup [.ty "list", .ty "tuple"])) G ∧ ∃ (b : Int) (q : Option V), σ = [some (.ref t), some (.int b), q] ∧ ∀ c ∈ l.drop i, (c : Int) < b)
        ⟨sp, Same.refl _, 1001, _, rfl, fun c hc => by have := hl.le c (List.mem_of_mem_drop hc); omega⟩ (fun i σ G _ z => hG G z.2.1) ?_ ?_
      · rintro i x σ G G' hi ⟨s1, s2, b, q, rfl, hb⟩ ⟨rfl, hx⟩
        obtain ⟨c, hc, rfl⟩ := ni_get hx
        have pc := hl.at hc
        have lt := hb c (by rw [drop_at hc]; exact List.mem_cons_self)
        have fl := (hl.drop i).fall
        rw [drop_at hc] at fl
        dsimp only
        refine ⟨_, rfl, _, rfl, _, _, rfl, rfl, (c : Int), 1, b - 1, rfl, ?_⟩
        rw [decide_eq_true (by omega)]
        exact ⟨_, rfl, iteF ⟨_, rfl, s1, s2, (c : Int), _, rfl, fun d hd => by have := fl.2.1 d hd; omega⟩⟩
      · rintro σ G ⟨s1, s2, b, q, rfl, hb⟩
        exact k G s1
    have kl : PySem.W.kitAny K (.type "list") [.type "list", .type "tuple"] = some true := by
      unfold PySem.W.kitAny
      rw [kit_ty (r := true) (by decide +kernel)]
    have kt : PySem.W.kitAny K (.type "tuple") [.type "list", .type "tuple"] = some true := by
      unfold PySem.W.kitAny
      rw [kit_ty (r := false) (by decide +kernel)]
      unfold PySem.W.kitAny
      rw [kit_ty (r := true) (by decide +kernel)]
    rcases hT2 with e | e
    · exact ⟨_, p, _, _, _, _, rfl, upd_same, .cons (.ty _) (.cons (.ty _) .nil), .base (.lst e), kl, _, rfl, iteF rest⟩
    · exact ⟨_, p, _, _, _, _, rfl, upd_same, .cons (.ty _) (.cons (.ty _) .nil), .base (.tup e), kt, _, rfl, iteF rest⟩
end
end CP

end
section
set_option autoImplicit false
set_option Elab.async false
set_option linter.all false
set_option maxRecDepth 100000
set_option maxHeartbeats 4000000
namespace CP
open PySem L2 G Y
theorem nk : ¬ (("cuts" : Str) = "_counts") := by decide +kernel
def cfl (t u : Addr) : List (Str × V) := putF "_counts" (.ref u) (putF "cuts" (.ref t) [])
theorem cfl_cuts (t u : Addr) : (cfl t u).lookup ("cuts" : Str) = some (.ref t) := by
  unfold cfl
  rw [lookup_putF, if_neg nk, lookup_putF, if_pos rfl]
theorem cfl_counts (t u : Addr) : (cfl t u).lookup ("_counts" : Str) = some (.ref u) := by
  unfold cfl
  rw [lookup_putF, if_pos rfl]
/-- a chain stands at a -/
def ChAt (C : Addr) (H : Hp) (l : List Nat) (a : Addr) : Prop := ∃ dx t u, H a = some (.ins C dx (cfl t u)) ∧ H t = some (.tup (ni l)) ∧ H u = some (.tup (ni (N.cn l)))
theorem ChAt.mono {C : Addr} {H H' : Hp} (s : Same H H') {l : List Nat} {a : Addr} (h : ChAt C H l a) : ChAt C H' l a := by
  obtain ⟨dx, t, u, h1, h2, h3⟩ := h
  exact ⟨dx, t, u, s _ _ h1, s _ _ h2, s _ _ h3⟩
structure Ct (K : PySem.W.Frag) (mg : Str → Option Value) (C : Addr) : Prop where
  g : mg "Chain" = some (.ref C)
  cl : Cls K C
  nC : NoAttr K C "cuts"
  nK : NoAttr K C "_counts"
section
variable {P : Program} {w : World} {K : PySem.W.Frag} {mg : Str → Option Value} {base : Heap} {C : Addr}
def spCInit (C : Addr) : Sp := fun vs H Q _ => ∃ (x l dx : Addr) (cs : List Nat) (H0 : Hp), vs = [.ref x, .ref l] ∧ H x = some (.ins C dx []) ∧ H0 x = none ∧ Same H0 H ∧ SAt H0 l (ni cs) ∧ Cuts cs ∧ ∀ H', Same H0 H' → ChAt C H' cs x → Q .non H'
theorem scCI : FnScope ["self", "cuts"] ["self", "cuts"] (defScope sCInit) := ⟨rfl, rfl, rfl, by decide +kernel, rfl, by decide +kernel, by decide +kernel⟩
theorem ok_cinit {f : Addr} {fd : FuncData} (F : Fun K "__init__" "Chain.__init__" sCInit f fd) (B : Bn mg) (T : Ct K mg C) (DA : Df P w K mg base 3 "_are_cuts" ["value"] spAre) (DC : Df P w K mg base 2 "_piece_counts" ["cuts"] (spCounts K)) : FnOk P w K mg base CX0 4 f fd ["self", "cuts"] (spCInit C) := by
  obtain ⟨fA, fdA, GA, gA, kA, bA⟩ := DA.ex
  obtain ⟨fC, fdC, GC, gC, kC, bC⟩ := DC.ex
  refine F.ok scCI (fun vs H Q E h => ?_) (fun cdv A outer s H vs Q E hr h => ?_)
  · obtain ⟨x, l, dx, cs, H0, rfl, _⟩ := h
    rfl
  · obtain ⟨x, l, dx, cs, H0, rfl, hx, hx0, s0, hl, hc, k⟩ := h
    refine ⟨_, pss_cons (ps_if (pt_not (pt_val (pe_call GA hr rfl gA kA bA .nil pass0 (pa_cons (pv 1) pa_nil)))) ps_dead pss_nil)
      (pss_cons (ps_fld (pv 0) (pe_callTy call_tuple_of (by rfl) B.tuple (by decide +kernel) (pa_cons (pv 1) pa_nil)) rfl)
      (pss_one (ps_fld (pv 0) (pe_call GC (hr.mono (by decide)) rfl gC kC bC .nil pass0 (pa_cons (pe_fld (pv 0) rfl) pa_nil)) rfl))), ?_⟩
    refine ⟨_, rfl, cs, l, rfl, hl.mono s0, hc, fun G1 s1 => ⟨_, rfl, iteF ?_⟩⟩
    have s01 := s0.trans s1
    have hx1 := s1 _ _ hx
    have fin : ∀ (t : Addr) (G2 : Hp), Same G1 G2 → G2 t = some (.tup (ni cs)) → sFld K (tVar 0) (tC (.ref t)) "cuts" { nx := fun σ H => sFld K (tVar 0) (tCall (spCounts K) [] E0 (tCons (tFld K (tVar 0) "cuts") tNil)) "_counts" { nx := fun _ H' => Q .non H', rt := Q } σ H, rt := Q } [some (.ref x), some (.ref l)] G2 := fun t G2 s2 ht => by
      have hx2 := s2 _ _ hx1
      have s02 := s01.trans s2
      have tx : t ≠ x := fun z => by
        rw [z, hx2] at ht
        cases ht
      refine ⟨_, rfl, x, C, dx, _, rfl, hx2, T.cl, T.nC, by decide, ?_⟩
      have s3 : Same H0 (upd G2 x (.ins C dx (putF "cuts" (.ref t) []))) := add_upd hx0 s02
      have ht3 : (upd G2 x (.ins C dx (putF "cuts" (.ref t) []))) t = some (.tup (ni cs)) := by rw [upd_ne tx]; exact ht
      refine ⟨_, rfl, x, C, dx, _, _, rfl, upd_same, T.cl, T.nC, by rw [lookup_putF, if_pos rfl], cs, t, rfl, SqT.of ht3, hc, fun u G3 s4 hu => ?_⟩
      refine ⟨_, rfl, x, C, dx, _, rfl, s4 _ _ upd_same, T.cl, T.nK, len_put (by decide), ?_⟩
      have ux : u ≠ x := fun z => by
        rw [z, s4 _ _ upd_same] at hu
        cases hu
      refine k _ (add_upd hx0 (s3.trans s4)) ⟨dx, t, u, upd_same, ?_, ?_⟩
      · rw [upd_ne tx]
        exact s4 _ _ ht3
      · rw [upd_ne ux]
        exact hu
    rcases (hl.mono s0).mono s1 with e | e
    · exact ⟨_, rfl, l, _, rfl, .inl ⟨SqL.of e, fun t nt => fin t _ (of_upd nt) upd_same⟩⟩
    · exact ⟨_, rfl, l, _, rfl, .inr ⟨SqT.of e, fin l _ (Same.refl _) e⟩⟩
/-- Chain(cuts) -/
theorem made_ch {H : Hp} {Z : VK} {E : XK} {l x dx : Addr} {cs : List Nat} (hx : H x = none) (hdx : H dx = none) (ne : dx ≠ x) (hl : SAt H l (ni cs)) (hc : Cuts cs) (k : ∀ H', Same H H' → ChAt C H' cs x → Z .non H') :
    spCInit C (.ref x :: ([.ref l] ++ [])) (upd (upd H dx (.own x)) x (.ins C dx [])) Z E :=
  ⟨x, l, dx, cs, H, rfl, upd_same, hx, (of_upd hdx).trans (of_upd (by rw [upd_ne ne.symm]; exact hx)), hl, hc, k⟩
/-- pieces -/
def spCPieces (C : Addr) : Sp := fun vs H Q _ => ∃ (a : Addr) (b : Nat) (cs : List Nat), vs = [.ref a, .int (b : Int)] ∧ ChAt C H cs a ∧ Cuts cs ∧ ∀ H', Same H H' → Q (.int ((N.PC cs b : Nat) : Int)) H'
theorem scCP : FnScope ["self", "body"] ["self", "body"] (defScope sCPieces) := ⟨rfl, rfl, rfl, by decide +kernel, rfl, by decide +kernel, by decide +kernel⟩
theorem ok_cpieces {f : Addr} {fd : FuncData} (F : Fun K "pieces" "Chain.pieces" sCPieces f fd) (T : Ct K mg C) (DP : Df P w K mg base 1 "_pieces" ["body", "cuts", "counts"] (spPieces K)) : FnOk P w K mg base CX0 2 f fd ["self", "body"] (spCPieces C) := by
  obtain ⟨fP, fdP, GP, gP, kP, bP⟩ := DP.ex
  refine F.ok scCP (fun vs H Q E h => ?_) (fun cdv A outer s H vs Q E hr h => ?_)
  · obtain ⟨a, b, cs, rfl, _⟩ := h
    rfl
  · obtain ⟨a, b, cs, rfl, ⟨dx, t, u, h1, h2, h3⟩, hc, k⟩ := h
    exact ⟨_, pss_one (ps_ret (pe_call GP hr rfl gP kP bP .nil pass0 (pa_cons (pv 1) (pa_cons (pe_fld (pv 0) rfl) (pa_cons (pe_fld (pv 0) rfl) pa_nil))))), _, rfl, _, rfl, a, C, dx, _, _, rfl, h1, T.cl, T.nC, cfl_cuts t u, _, rfl, a, C, dx, _, _, rfl, h1, T.cl, T.nK, cfl_counts t u, b, cs, t, u, rfl, SqT.of h2, SqT.of h3, hc, k⟩
/-- digits -/
def spCDigits (C : Addr) : Sp := fun vs H Q _ => ∃ (a : Addr) (p : Nat) (cs : List Nat), vs = [.ref a, .int (p : Int)] ∧ ChAt C H cs a ∧ Cuts cs ∧ ∀ t H', Same H H' → H' t = some (.tup (ni (N.dig cs p))) → Q (.ref t) H'
theorem scCD : FnScope ["self", "place", "told", "rest", "cut"] ["self", "place"] (defScope sCDigits) := ⟨rfl, rfl, rfl, by decide +kernel, rfl, by decide +kernel, by decide +kernel⟩
theorem ok_cdigits {f : Addr} {fd : FuncData} (F : Fun K "digits" "Chain.digits" sCDigits f fd) (T : Ct K mg C) : FnOk P w K mg base CX0 1 f fd ["self", "place"] (spCDigits C) := by
  refine F.ok scCD (fun vs H Q E h => ?_) (fun cdv A outer s H vs Q E hr h => ?_)
  · obtain ⟨a, p, cs, rfl, _⟩ := h
    rfl
  · obtain ⟨a, p, cs, rfl, ⟨dx, t, u, h1, h2, h3⟩, hc, k⟩ := h
    refine ⟨_, pss_cons (ps_set (i := 2) scCD.nd rfl (Or.inl rfl) (pe_lst pa_nil))
      (pss_cons (ps_set (i := 3) scCD.nd rfl (Or.inl rfl) (pv 1))
      (pss_cons (ps_for PassesOwn.never rfl (pi_tup (pe_fld (pv 0) rfl)) (pg_name (i := 4) scCD.nd rfl (Or.inl rfl))
        (pss_cons (ps_expr (pe_bm PySem.F.plainAttrs_list PySem.F.slot_list_append PySem.F.type_list_append mt_append (pv 2) (pa_cons (pe_op op_fdiv (pv 3) (pv 4)) pa_nil)))
        (pss_one (ps_set (i := 3) scCD.nd rfl (Or.inl rfl) (pe_op op_mod (pv 3) (pv 4))))))
      (pss_one (ps_ret (pe_tup (StX.pa_star (pv 2) (pa_cons (pv 3) pa_nil))))))), ?_⟩
    have ln := hc.len
    refine ⟨line2.2.2.2, fun D hD => ?_⟩
    have s0 : Same H (upd H D (.lst [])) := of_upd hD
    refine ⟨_, rfl, _, rfl, a, C, dx, _, _, rfl, s0 _ _ h1, T.cl, T.nC, cfl_cuts t u, ?_⟩
    refine ⟨t, rfl, ⟨_, SqT.of (s0 _ _ h2)⟩, for_it walk_tup (fun i σ G => Same H G ∧ ∃ (ds : List Nat) (r : Nat) (q : Option V), σ = [some (.ref a), some (.int (p : Int)), some (.ref D), some (.int (r : Int)), q] ∧ G D = some (.lst (ni ds)) ∧ ds.length = i ∧ ds ++ N.dig (cs.drop i) r = N.dig cs p)
      ⟨s0, [], p, _, rfl, upd_same, rfl, rfl⟩ (fun i σ G _ z => SqT.of (z.1 _ _ h2)) ?_ ?_⟩
    · rintro i x σ G G' hi ⟨s1, ds, r, q, rfl, hG, hd, ed⟩ ⟨rfl, hx⟩
      obtain ⟨c, hcc, rfl⟩ := ni_get hx
      have pc := hc.at hcc
      rw [ni_len] at hi
      dsimp only
      refine ⟨_, rfl, .inl ⟨rfl, _, SqL.of hG⟩, _, rfl, _, rfl, _, _, rfl, rfl, ⟨by omega, by omega⟩, D, _, _, rfl, rfl, hG, by rw [ni_len]; exact small1000 (by omega), ?_⟩
      refine ⟨_, rfl, _, rfl, _, _, rfl, rfl, by show (0 : Int) < (c : Int); omega, ?_⟩
      refine ⟨add_upd hD s1, ds ++ [r / c], r % c, _, rfl, ?_, by simp; exact hd, ?_⟩
      · rw [upd_same, ni_app]
        rfl
      · rw [drop_at hcc] at ed
        rw [List.append_assoc]
        exact ed
    · rintro σ G ⟨s1, ds, r, q, rfl, hG, hd, ed⟩
      rw [ni_len, List.drop_length] at ed
      refine ⟨_, rfl, D, _, rfl, .inr (SqL.of hG), _, rfl, ?_, fun v hv => ?_⟩
      · rw [ni_len] at hd
        rw [List.length_append, ni_len]
        exact Nat.le_trans (show ds.length + 1 ≤ 1001 by omega) (by decide)
      · refine k v _ (s1.trans (of_upd hv)) ?_
        rw [upd_same, ← ed, ni_app]
        rfl
/-- _boundary -/
def spCBound (C : Addr) : Sp := fun vs H Q _ => ∃ (a : Addr) (n : Nat) (cs : List Nat), vs = [.ref a, .int (n : Int)] ∧ ChAt C H cs a ∧ Cuts cs ∧ ∀ H', Same H H' → Q (.int ((N.B cs n : Nat) : Int)) H'
abbrev NBo : List Str := ["self", "number", "place", "rest", "cut", "count"]
theorem scCB : FnScope NBo ["self", "number"] (defScope sCBoundary) := ⟨rfl, rfl, rfl, by decide +kernel, rfl, by decide +kernel, by decide +kernel⟩
theorem ok_cbound {f : Addr} {fd : FuncData} (F : Fun K "_boundary" "Chain._boundary" sCBoundary f fd) (B : Bn mg) (T : Ct K mg C) : FnOk P w K mg base CX0 1 f fd ["self", "number"] (spCBound C) := by
  refine F.ok scCB (fun vs H Q E h => ?_) (fun cdv A outer s H vs Q E hr h => ?_)
  · obtain ⟨a, n, cs, rfl, _⟩ := h
    rfl
  · obtain ⟨a, n, cs, rfl, ⟨dx, t, u, h1, h2, h3⟩, hl, k⟩ := h
    refine ⟨_, pss_cons (ps_set (i := 2) scCB.nd rfl (Or.inl rfl) pe_int)
      (pss_cons (ps_set (i := 3) scCB.nd rfl (Or.inl rfl) (pv 1))
      (pss_cons (ps_for PassesOwn.never rfl (RZ.pi_zipA (by rfl) B.zip (pa_cons (pe_fld (pv 0) rfl) (pa_cons (pe_fld (pv 0) rfl) pa_nil))) (pg_tup (by rfl) (pgs_cons (pg_name (i := 4) scCB.nd rfl (.inl rfl)) (pgs_cons (pg_name (i := 5) scCB.nd rfl (.inl rfl)) pgs_nil)))
        (pss_cons (ps_set (i := 2) scCB.nd rfl (Or.inl rfl) (pe_op op_add (pv 2) (pe_op op_mul (pe_op op_fdiv (pv 3) (pv 5)) (pv 4))))
        (pss_one (ps_set (i := 3) scCB.nd rfl (Or.inl rfl) (pe_op op_mod (pv 3) (pv 5))))))
      (pss_one (ps_ret (pv 2))))), ?_⟩
    refine ⟨_, rfl, _, rfl, a, C, dx, _, _, rfl, h1, T.cl, T.nC, cfl_cuts t u, _, rfl, a, C, dx, _, _, rfl, h1, T.cl, T.nK, cfl_counts t u, t, u, _, _, rfl, .inr ⟨SqT.of h2, SqT.of h3, ?_⟩⟩
    refine RZ.for_zipT (by rw [ni_len, ni_len, N.cn_len]) (fun i σ G => Same H G ∧ ∃ (p r : Nat) (q1 q2 : Option V), σ = [some (.ref a), some (.int (n : Int)), some (.int (p : Int)), some (.int (r : Int)), q1, q2] ∧ p + N.B (cs.drop i) r = N.B cs n)
      ⟨Same.refl H, 0, n, _, _, rfl, by rw [List.drop_zero, Nat.zero_add]⟩ (fun i σ G z => ⟨SqT.of (z.1 _ _ h2), SqT.of (z.1 _ _ h3)⟩) ?_ ?_
    · rintro i x y Tt σ G hx hy ⟨s1, p, r, q1, q2, rfl, e1⟩ hT0
      obtain ⟨c, hc, rfl⟩ := ni_get hx
      obtain ⟨m, hn, rfl⟩ := ni_get hy
      obtain ⟨c2, hc2, en⟩ := N.cn_at hn
      rw [hc] at hc2
      cases hc2
      have pc := hl.at hc
      have nle := N.L_le (hl.drop (i + 1)).fall pc.1
      have npos := N.L_pos (cs.drop (i + 1)) (hl.drop (i + 1)).fall c pc.1
      rw [← en] at nle npos
      refine ⟨Tt, _, rfl, SqT.of upd_same, rfl, _, _, rfl, _, _, rfl, rfl, ?_⟩
      refine ⟨_, rfl, _, rfl, _, rfl, _, _, rfl, rfl, ⟨by omega, by omega⟩, _, rfl, _, _, rfl, rfl, .inr ⟨by omega, by omega⟩, _, _, rfl, rfl, ?_⟩
      refine ⟨_, rfl, _, rfl, _, _, rfl, rfl, by show (0 : Int) < (m : Int); omega, ?_⟩
      refine ⟨s1.trans (of_upd hT0), p + r / m * c, r % m, _, _, rfl, ?_⟩
      rw [drop_at hc, N.B_cons, ← en] at e1
      omega
    · rintro σ G ⟨s1, p, r, q1, q2, rfl, e1⟩
      rw [ni_len, List.drop_length] at e1
      have e2 : p = N.B cs n := e1
      rw [← e2] at k
      exact ⟨_, rfl, k G s1⟩
end
end CP

end
section
set_option autoImplicit false
set_option Elab.async false
set_option linter.all false
set_option maxRecDepth 100000
set_option maxHeartbeats 4000000
namespace CP
open PySem L2 G Y
theorem nk2 : (¬ (("pieces" : Str) = "cuts") ∧ ¬ (("pieces" : Str) = "_counts")) ∧ (¬ (("_boundary" : Str) = "cuts") ∧ ¬ (("_boundary" : Str) = "_counts")) ∧ (¬ (("digits" : Str) = "cuts") ∧ ¬ (("digits" : Str) = "_counts")) ∧ (¬ (("stretch" : Str) = "cuts") ∧ ¬ (("stretch" : Str) = "_counts")) := by decide +kernel
theorem no_fld {m : Str} (t u : Addr) (h : ¬ (m = "cuts") ∧ ¬ (m = "_counts")) : (cfl t u).lookup m = none := by
  unfold cfl
  rw [lookup_putF, if_neg h.2, lookup_putF, if_neg h.1]
  rfl
/-- a method, and what it promises -/
structure Me (P : Program) (w : World) (K : PySem.W.Frag) (mg : Str → Option Value) (base : Heap) (C : Addr) (k : Nat) (m : Str) (ps : List Str) (sp : Sp) : Prop where
  ex : ∃ (f : Addr) (fd : FuncData), FnOk P w K mg base CX0 k f fd ps sp ∧ Meth K C m f ∧ Binds K fd ps []
section
variable {P : Program} {w : World} {K : PySem.W.Frag} {mg : Str → Option Value} {base : Heap} {C : Addr}
theorem ChAt.ins {H : Hp} {l : List Nat} {a : Addr} (h : ChAt C H l a) {m : Str} (hm : ¬ (m = "cuts") ∧ ¬ (m = "_counts")) : ∃ dx fs, H a = some (.ins C dx fs) ∧ fs.lookup m = none := by
  obtain ⟨dx, t, u, h1, _, _⟩ := h
  exact ⟨dx, _, h1, no_fld t u hm⟩
def stretchZ (cs : List Nat) (b n : Nat) : Int := (if n = N.PC cs b then (b : Int) else ((N.B cs n : Nat) : Int)) - ((N.B cs (n - 1) : Nat) : Int)
def spCStretch (C : Addr) : Sp := fun vs H Q _ => ∃ (a : Addr) (b n : Nat) (cs : List Nat), vs = [.ref a, .int (b : Int), .int (n : Int)] ∧ ChAt C H cs a ∧ Cuts cs ∧ 1 ≤ n ∧ n ≤ N.PC cs b ∧ ∀ H', Same H H' → Q (.int (stretchZ cs b n)) H'
theorem scCS : FnScope ["self", "body", "number", "pieces", "end"] ["self", "body", "number"] (defScope sCStretch) := ⟨rfl, rfl, rfl, by decide +kernel, rfl, by decide +kernel, by decide +kernel⟩
theorem ok_cstretch {f : Addr} {fd : FuncData} (F : Fun K "stretch" "Chain.stretch" sCStretch f fd) (T : Ct K mg C) (DW : Df P w K mg base 2 "is_within" ["value", "least", "greatest"] spWithin) (MP : Me P w K mg base C 2 "pieces" ["self", "body"] (spCPieces C)) (MB : Me P w K mg base C 1 "_boundary" ["self", "number"] (spCBound C)) : FnOk P w K mg base CX0 3 f fd ["self", "body", "number"] (spCStretch C) := by
  obtain ⟨fW, fdW, GW, gW, kW, bW⟩ := DW.ex
  obtain ⟨fP, fdP, GP, mP, bP⟩ := MP.ex
  obtain ⟨fB, fdB, GB, mB, bB⟩ := MB.ex
  refine F.ok scCS (fun vs H Q E h => ?_) (fun cdv A outer s H vs Q E hr h => ?_)
  · obtain ⟨a, b, n, cs, rfl, _⟩ := h
    rfl
  · obtain ⟨a, b, n, cs, rfl, hc, hl, n1, n2, k⟩ := h
    have r1 := hr.mono (by decide : 1 ≤ 2)
    refine ⟨_, pss_cons (ps_set (i := 3) scCS.nd rfl (Or.inl rfl) (pe_meth (pv 0) T.cl mP GP hr bP .nil pass0 (pa_cons (pv 1) pa_nil)))
      (pss_cons (ps_if (pt_not (pt_val (pe_call GW hr rfl gW kW bW .nil pass0 (pa_cons (pv 2) (pa_cons pe_int (pa_cons (pv 3) pa_nil)))))) ps_dead pss_nil)
      (pss_cons (ps_set (i := 4) scCS.nd rfl (Or.inl rfl) (pe_ifExp (pt_cmpR op_eq (pv 2) (pv 3) (nomark _)) (pv 1) (pe_meth (pv 0) T.cl mB GB r1 bB .nil pass0 (pa_cons (pv 2) pa_nil))))
      (pss_one (ps_ret (pe_op op_sub (pv 4) (pe_meth (pv 0) T.cl mB GB r1 bB .nil pass0 (pa_cons (pe_op op_sub (pv 2) pe_int) pa_nil))))))), ?_⟩
    obtain ⟨dx, fs, i1, i2⟩ := hc.ins nk2.1
    refine ⟨_, rfl, a, dx, fs, rfl, i1, i2, _, rfl, a, b, cs, rfl, hc, hl, fun G1 s1 => ?_⟩
    refine ⟨_, rfl, _, rfl, (n : Int), 1, ((N.PC cs b : Nat) : Int), rfl, ?_⟩
    rw [decide_eq_true (by omega)]
    refine ⟨_, rfl, iteF ?_⟩
    have hc1 := hc.mono s1
    have last : ∀ (G2 : Hp) (e : Int), Same G1 G2 → e = (if n = N.PC cs b then (b : Int) else ((N.B cs n : Nat) : Int)) → tRet (tOp (rI0 fun i j => .int (i - j)) (tVar 4) (tMeth C "_boundary" (spCBound C) [] E0 (tVar 0) (tCons (tOp (rI0 fun i j => .int (i - j)) (tVar 2) (tC (.int 1))) tNil))) { nx := fun _ H' => Q .non H', rt := Q } [some (.ref a), some (.int (b : Int)), some (.int (n : Int)), some (.int ((N.PC cs b : Nat) : Int)), some (.int e)] G2 := fun G2 e s2 he => by
      have hc2 := hc1.mono s2
      obtain ⟨dx, fs, i1, i2⟩ := hc2.ins nk2.2.1
      refine ⟨_, rfl, _, rfl, a, dx, fs, rfl, i1, i2, _, rfl, _, _, rfl, rfl, a, n - 1, cs, ?_, hc2, hl, fun G3 s3 => ⟨_, _, rfl, rfl, ?_⟩⟩
      · show [V.ref a, V.int ((n : Int) - 1)] = _
        rw [show (n : Int) - 1 = ((n - 1 : Nat) : Int) by omega]
      · have := k G3 ((s1.trans s2).trans s3)
        unfold stretchZ at this
        rw [← he] at this
        exact this
    refine ⟨_, rfl, _, rfl, rfl, _, rfl, ite2 (fun e => ?_) (fun e => ?_)⟩
    · have e2 : V.int (n : Int) = V.int ((N.PC cs b : Nat) : Int) := of_decide_eq_true e
      injection e2 with e2
      exact ⟨_, rfl, last G1 _ (Same.refl _) (by rw [if_pos (by omega)])⟩
    · have e2 : n ≠ N.PC cs b := fun z => e (decide_eq_true (by rw [← z]))
      obtain ⟨dx, fs, i1, i2⟩ := hc1.ins nk2.2.1
      exact ⟨_, rfl, a, dx, fs, rfl, i1, i2, _, rfl, a, n, cs, rfl, hc1, hl, fun G2 s2 => last G2 _ s2 (by rw [if_neg e2])⟩
/-- place in chain -/
def spCHas (C : Addr) : Sp := fun vs H Q _ => ∃ (a : Addr) (p : Nat) (cs : List Nat), vs = [.ref a, .int (p : Int)] ∧ ChAt C H cs a ∧ Cuts cs ∧ ∀ H', Same H H' → Q (.bl (decide (0 < p ∧ N.rem cs p = 0))) H'
theorem scCHs : FnScope ["self", "place"] ["self", "place"] (defScope sCHas) := ⟨rfl, rfl, rfl, by decide +kernel, rfl, by decide +kernel, by decide +kernel⟩
theorem ok_chas {f : Addr} {fd : FuncData} (F : Fun K "__contains__" "Chain.__contains__" sCHas f fd) (T : Ct K mg C) (DI : Df P w K mg base 1 "is_integer" ["value"] spInteger) (MD : Me P w K mg base C 1 "digits" ["self", "place"] (spCDigits C)) : FnOk P w K mg base CX0 2 f fd ["self", "place"] (spCHas C) := by
  obtain ⟨fI, fdI, GI, gI, kI, bI⟩ := DI.ex
  obtain ⟨fD, fdD, GD, mD, bD⟩ := MD.ex
  refine F.ok scCHs (fun vs H Q E h => ?_) (fun cdv A outer s H vs Q E hr h => ?_)
  · obtain ⟨a, p, cs, rfl, _⟩ := h
    rfl
  · obtain ⟨a, p, cs, rfl, hc, hl, k⟩ := h
    refine ⟨_, pss_one (ps_ret (pe_and (pe_call GI hr rfl gI kI bI .nil pass0 (pa_cons (pv 1) pa_nil)) (pe_and (pe_cmpR op_gt (pv 1) pe_int (nomark _)) (pe_one (pe_cmpR op_eq (pe_ix ix_tup (pe_meth (pv 0) T.cl mD GD hr bD .nil pass0 (pa_cons (pv 1) pa_nil)) (pe_un un_neg pe_int) (fun _ _ => rfl)) pe_int (nomark _)))))), ?_⟩
    refine ⟨_, rfl, (p : Int), rfl, _, rfl, iteT ⟨_, rfl, _, _, rfl, rfl, _, rfl, ite2 (fun c => ?_) (fun c => ?_)⟩⟩
    · have c2 : (0 : Int) < (p : Int) := of_decide_eq_true c
      obtain ⟨dx, fs, i1, i2⟩ := hc.ins nk2.2.2.1
      refine ⟨_, rfl, a, dx, fs, rfl, i1, i2, _, rfl, a, p, cs, rfl, hc, hl, fun t G s1 ht => ?_⟩
      obtain ⟨ds, ed⟩ := N.dig_rem cs p
      rw [ed] at ht
      refine ⟨1, rfl, t, _, _, .int ((N.rem cs p : Nat) : Int), rfl, rfl, SqT.of ht, ?_, rfl, ?_⟩
      · rw [ni_app]
        exact atI_last _ _
      · have e : decide (V.int ((N.rem cs p : Nat) : Int) = V.int 0) = decide (0 < p ∧ N.rem cs p = 0) := by
          by_cases z : N.rem cs p = 0
          · rw [decide_eq_true (by rw [z]; rfl), decide_eq_true ⟨by omega, z⟩]
          · rw [decide_eq_false (fun q => by injection q with q; omega), decide_eq_false fun q => z q.2]
        rw [e]
        exact k G s1
    · have c2 : ¬ (0 : Int) < (p : Int) := fun z => c (decide_eq_true z)
      have := k H (Same.refl H)
      rw [decide_eq_false (by omega)] at this
      exact this
/-- chain[number] -/
def spCGet (C : Addr) : Sp := fun vs H Q _ => ∃ (a : Addr) (n : Nat) (cs : List Nat), vs = [.ref a, .int (n : Int)] ∧ ChAt C H cs a ∧ Cuts cs ∧ 1 ≤ n ∧ cs ≠ [] ∧ ∀ H', Same H H' → Q (.int ((N.B cs n : Nat) : Int)) H'
theorem scCG : FnScope ["self", "at"] ["self", "at"] (defScope sCGet) := ⟨rfl, rfl, rfl, by decide +kernel, rfl, by decide +kernel, by decide +kernel⟩
theorem ok_cget {f : Addr} {fd : FuncData} (F : Fun K "__getitem__" "Chain.__getitem__" sCGet f fd) (B : Bn mg) (T : Ct K mg C) (DI : Df P w K mg base 1 "is_integer" ["value"] spInteger) (MB : Me P w K mg base C 1 "_boundary" ["self", "number"] (spCBound C)) : FnOk P w K mg base CX0 2 f fd ["self", "at"] (spCGet C) := by
  obtain ⟨fI, fdI, GI, gI, kI, bI⟩ := DI.ex
  obtain ⟨fB, fdB, GB, mB, bB⟩ := MB.ex
  refine F.ok scCG (fun vs H Q E h => ?_) (fun cdv A outer s H vs Q E hr h => ?_)
  · obtain ⟨a, n, cs, rfl, _⟩ := h
    rfl
  · obtain ⟨a, n, cs, rfl, hc, hl, n1, ne, k⟩ := h
    refine ⟨_, pss_cons (ps_if (PW.pt (pw_or (pt_not (pt_val (pe_call GI hr rfl gI kI bI .nil pass0 (pa_cons (pv 1) pa_nil)))) (pw_or (pt_cmpR op_lt (pv 1) pe_int (nomark _)) (pw_or1 (pt_cmpR op_eq (pe_callB call_len_seq (by rfl) B.len PySem.boot_len (pa_cons (pe_fld (pv 0) rfl) pa_nil)) pe_int (nomark _)))))) ps_dead pss_nil)
      (pss_one (ps_ret (pe_meth (pv 0) T.cl mB GB hr bB .nil pass0 (pa_cons (pv 1) pa_nil)))), ?_⟩
    obtain ⟨dx, t, u, h1, h2, h3⟩ := id hc
    refine ⟨_, rfl, (n : Int), rfl, _, rfl, iteF ⟨_, rfl, _, _, rfl, rfl, _, rfl, ?_⟩⟩
    rw [decide_eq_false (by omega)]
    refine iteF ⟨_, rfl, a, C, dx, _, _, rfl, h1, T.cl, T.nC, cfl_cuts t u, t, _, rfl, .inr (SqT.of h2), rfl, _, rfl, ?_⟩
    rw [decide_eq_false (fun z => by
      injection z with z
      rw [ni_len] at z
      exact ne (List.length_eq_zero_iff.mp (by omega)))]
    obtain ⟨dx, fs, i1, i2⟩ := hc.ins nk2.2.1
    exact iteF ⟨_, rfl, a, dx, fs, rfl, i1, i2, _, rfl, a, n, cs, rfl, hc, hl, k⟩
end
end CP

end
section
set_option autoImplicit false
set_option Elab.async false
set_option linter.all false
set_option maxRecDepth 100000
set_option maxHeartbeats 4000000
/-! ## for in a generator's body -/
namespace GF
open PySem PySem.Spec PyProof.Rows L2 GenW
section
variable {M : Model} {c : Code} {fs : List Frame} {A : Around} {R : GenEnd} {Y : Protocol} {n : Nat} {s₀ s : Shared} {env : Env}
variable {K : Flow → Sem PySem.Fin} {J : Value → Sem PySem.Fin} {lv : List Value → List Value} {gd : Bool → Bool}
theorem seg_For {tg iter : Expr} {body : List Stmt} {pos : Pos}
    (h : wpAny M (A.over c fs) (eval iter env) (fun x s1 => wpAny M (A.over c fs) (pyIter x) (fun it s2 => ∀ p, Seg M A R Y n s₀ (.forLoop tg it body [] env) (M.den (.forLoop tg it body [] env))
      (.ret (fun r => ((match r with | .ok f => (.pure f : Sem Flow) | .error e => .raise e).onRaise (cameBack env)).wrap K J gd lv) none (gd false) (lv []) c p [] :: fs) s2)
      (fun x s' => Seg M A R Y n s₀ c (J x) fs s') s1) (fun x s' => Seg M A R Y n s₀ c (J x) fs s') s)
    (hs : ∀ x, foldedSetIterable iter env x = pure x) : Seg M A R Y n s₀ c ((exec (.For tg iter body [] pos) env).wrap K J gd lv) fs s := by
  rw [exec_For]
  refine seg_bind_wrap (wpAny_standAt (seg_bind_wrap (wpAny_mono h (fun x s1 h1 => ?_) fun _ _ x => x)))
  refine seg_bind_wrap (wpAny_of_eq (hs x) (seg_bind_wrap (wpAny_standAt ?_)))
  refine seg_bind_wrap (wpAny_holding (wpAny_mono h1 (fun it s2 h2 => ?_) fun _ _ x => x))
  exact seg_call h2
end
section
variable {prog : Program} {w : World} {fs : List Frame} {A : Around} {R : GenEnd} {Y : Protocol} {n : Nat} {s₀ s : Shared} {env : Env}
theorem seg_forLoop {tg : Expr} {it : Value} {body : List Stmt} {EE : Value → Shared → Prop}
    (hE : ∀ x s', EE x s' → Seg (model prog w) A R Y n s₀ (.forLoop tg it body [] env) ((do noteFrame x env; theTreesLotGoes x : Sem Unit).wrap (fun _ => .raise x) .raise id id) fs s')
    (h : wpAny (model prog w) (A.over (.forLoop tg it body [] env) fs) (pyNext it) (fun r s' => match r with
      | none => Seg (model prog w) A R Y n s₀ (.forLoop tg it body [] env) (.pure (.again (.block [] env))) fs s'
      | some v => wpAny (model prog w) (A.over (.forLoop tg it body [] env) fs) (letOwnedTupleGo tg it v) (fun _ s1 => wpAny (model prog w) (A.over (.forLoop tg it body [] env) fs) (assign tg env v) (fun _ s2 =>
          Seg (model prog w) A R Y n s₀ (.forLoop tg it body [] env) ((execs body env).wrap (fun f => match f with
            | .next | .cont => .pure (.again (.forLoop tg it body [] env))
            | .brk => .pure (.done .next)
            | .ret v => .pure (.done (.ret v))) (fun e => (do noteFrame e env; theTreesLotGoes e : Sem Unit).wrap (fun _ => .raise e) .raise id id) id id) fs s2) EE s1) EE s') EE s) :
    Seg (model prog w) A R Y n s₀ (.forLoop tg it body [] env) ((model prog w).den (.forLoop tg it body [] env)) fs s := by
  have hE2 : ∀ x s', EE x s' → Seg (model prog w) A R Y n s₀ (.forLoop tg it body [] env) ((do noteFrame x env; theTreesLotGoes x : Sem Unit).bind (fun _ => .raise x)) fs s' := fun x s' hx => by
    rw [Sem.bind_eq_wrap]
    exact hE x s' hx
  show Seg _ A R Y n s₀ _ ((forTurn tg it body [] env).onRaise (fun x => do noteFrame x env; theTreesLotGoes x)) fs s
  unfold forTurn
  rw [Sem.onRaise_eq_wrap]
  refine seg_bind_wrap (wpAny_standAt (?_)); refine seg_bind_wrap (wpAny_onRaise (wpAny_mono h (fun r s1 h1 => ?_) fun x s' hx => wpAny_standAt (hE2 x s' hx)))
  cases r with
  | none => exact h1
  | some v =>
    refine seg_bind_wrap (wpAny_mono h1 (fun _ s1' h1' => ?_) fun x s' hx => hE2 x s' hx)
    refine seg_bind_wrap (wpAny_mono h1' (fun _ s2 h2 => ?_) fun x s' hx => hE2 x s' hx)
    rw [Sem.bind_eq_wrap', Sem.wrap_wrap]
    rw [Sem.wrap_congr (execs body env) _ _ (K' := fun fl => match fl with
      | .next | .cont => .pure (.again (.forLoop tg it body [] env))
      | .brk => .pure (.done .next)
      | .ret x => .pure (.done (.ret x)))
      (H' := fun x => (do noteFrame x env; theTreesLotGoes x : Sem Unit).wrap (fun _ => .raise x) .raise id id) (fun fl => by cases fl <;> rfl)
      (fun x => by first | exact Sem.bind_eq_wrap _ _ | (show (do noteFrame x env; theTreesLotGoes x : Sem Unit).bind (fun _ => .raise x) = _; rw [Sem.bind_eq_wrap]))]
    exact h2
end
section
variable {X : Cx}
def tGFor (wi : TI) (g : TG) (tb : TGn) : TGn := fun D ys σ H => wi σ H fun J H1 => ∃ W : Nat → Nat → List V → L2.St → Hp → Prop, (∃ m, W 0 m ys σ H1) ∧ ∀ i m ys σ H, W i m ys σ H →
  (J.stop i H ∧ D.nx ys σ H) ∨ (J.go i H ∧ ∃ N : List V → L2.St → Hp → Prop, (∀ ys' σ' H', N ys' σ' H' → ∃ m', m' < m ∧ W (i + 1) m' ys' σ' H') ∧ ∀ x H', J.yld i H x H' → g x σ H' fun σ2 H2 => tb { D with nx := N, ct := N, bk := D.nx } ys σ2 H2)
theorem gs_for {tg iter : Expr} {body : List Stmt} {wi : TI} {gg : TG} {tb : TGn} {pos : Pos} (hp : PassesOwn (model X.prog X.w) X.A X.env X.xe) (hc : X.calm = true) (hi : PI X tg iter wi) (hg : PG X tg gg) (hb : GSs X body tb)
    (hs : ∀ x, foldedSetIterable iter X.env x = pure x := by intro _; rfl) : GS X (.For tg iter body [] pos) (tGFor wi gg tb) := by
  refine ⟨fun A S ip R n ys s₀ c fs K J gd lv s σ H D g hn k I0 ht => ?_⟩
  have hI := I0
  obtain ⟨acc, cc, r, I⟩ := hI
  refine seg_For ?_ hs
  rw [g.over]
  refine wpAny_mono (hi.run _ s σ H _ I ht) (fun v s1 h1 => wpAny_mono h1 (fun itv s2 h2 p => ?_) fun x s' hx => k.exc n s₀ x s' hx) fun x s' hx => k.exc n s₀ x s' hx
  obtain ⟨it, fp, tn, Jt, H2, e, I2, T, st2, f2, W, ⟨m0, w0⟩, turn⟩ := h2
  subst e
  have gl := fun (kk : Result → Sem PySem.Fin) => gc_loop (k := kk) (c' := .forLoop tg (.ref it) body [] X.env) (l := lv []) (kp := []) (p := p) g rfl rfl
  have stat : ∀ {H' : Hp} {a2 : Array Value} {c2 : Nat}, (∀ b ∈ fp, H' b = none) → ∀ b ∈ fp, FpOk X ((S, lstObj a2 c2) :: ip) H' b := fun {H' a2 c2} hn b hb => by
    obtain ⟨_, q1, q2, q3, q4, q5⟩ := f2 b hb
    refine ⟨hn b hb, q1, q2, q3, q4, fun p hp => ?_⟩
    rcases List.mem_append.mp hp with z | z
    · exact q5 p (List.mem_append_left _ z)
    · rcases List.mem_cons.mp z with z | z
      · rw [z]
        exact q5 (S, lstObj acc cc) (List.mem_append_right _ List.mem_cons_self)
      · exact q5 p (List.mem_append_right _ (List.mem_cons_of_mem _ z))
  have neS : ∀ b ∈ fp, b ≠ S := fun b hb z => by
    obtain ⟨_, _, _, _, _, q5⟩ := f2 b hb
    exact q5 (S, lstObj acc cc) (List.mem_append_right _ List.mem_cons_self) z.symm
  have loop : ∀ (m i n : Nat) (ys : List V) (s₀ s : Shared) (σ : L2.St) (H : Hp), n + ys.length = sizeLine → W i m ys σ H → GI X S ip ys σ H s → tn i s.heap → (∀ b ∈ fp, H b = none) →
      Seg (model X.prog X.w) A R (GY X S) n s₀ (.forLoop tg (.ref it) body [] X.env) ((model X.prog X.w).den (.forLoop tg (.ref it) body [] X.env))
        (.ret (fun rr => ((match rr with | .ok fl => (.pure fl : Sem Flow) | .error x => .raise x).onRaise (cameBack X.env)).wrap K J gd lv) none (gd false) (lv []) c p [] :: fs) s := by
    intro m
    induction m using Nat.strongRecOn with
    | ind m ih =>
      intro i n ys s₀ s σ H hn w hI st fr
      have ee : ∀ (n : Nat) (s₀ : Shared) (x : Value) (s' : Shared), X.xe x s' → Seg (model X.prog X.w) A R (GY X S) n s₀ (.forLoop tg (.ref it) body [] X.env)
          ((do noteFrame x X.env; theTreesLotGoes x : Sem Unit).wrap (fun _ => .raise x) .raise id id) (.ret (fun rr => ((match rr with | .ok fl => (.pure fl : Sem Flow) | .error x => .raise x).onRaise (cameBack X.env)).wrap K J gd lv) none (gd false) (lv []) c p [] :: fs) s' := fun n s₀ x s' hx => by
        refine seg_wrap ?_
        rw [(gl _).over]
        exact wpAny_bind (wpAny_mono (hp x s' hx) (fun _ _ cb => wpAny_theTreesLotGoes (seg_leaf (.error x) (seg_cameBack g k cb))) fun y _ cb => seg_leaf (.error y) (seg_cameBack g k cb))
      refine seg_forLoop (EE := X.xe) (ee n s₀) ?_
      rw [(gl _).over]
      obtain ⟨acc, cc, r, I⟩ := hI
      rcases turn i m ys σ H w with ⟨stop, qn⟩ | ⟨go, N, hN, step⟩
      · refine wpAny_mono (T.done X rfl rfl rfl hc i _ s σ H X.xe I (stat fr) st stop) (fun r4 s4 h4 => ?_) fun _ _ x => x
        obtain ⟨hr4, I4⟩ := h4
        subst hr4
        refine seg_again rfl ?_
        exact seg_leaf (.ok .next) (k.ok n ys s₀ s4 .next hn ⟨σ, H, ⟨acc, cc, r, I4⟩, qn⟩)
      · refine wpAny_mono (T.item X rfl rfl rfl hc i _ s σ H X.xe I (stat fr) st go) (fun r4 s4 h4 => ?_) fun _ _ x => x
        obtain ⟨u, hr4, h4⟩ := h4
        subst hr4
        refine wpAny_mono h4 (fun _ s5 h5 => ?_) fun _ _ x => x
        obtain ⟨x, H5, I5, r5, y5, st5, fr5⟩ := h5
        have J5 := I5.pinned (stat fr5) (T.obj _ _ st5)
        refine wpAny_mono (hg.run _ s5 σ H5 x u _ J5 r5 (step x H5 y5)) (fun _ s6 h6 => ?_) fun _ _ x => x
        obtain ⟨σ6, H6, I6, q6⟩ := h6
        have gl2 : ∀ kk : Result → Sem PySem.Fin, GC X S (ip ++ pinsAt fp s5.heap) A (.forLoop tg (.ref it) body [] X.env) (.ret kk none (gd false) (lv []) c p [] :: fs) id := fun kk => { gl kk with
          ip := fun p hp => by
            rcases List.mem_append.mp hp with z | z
            · exact g.ip p z
            · exact neS p.1 (of_pinsAt z).1 }
        have back : ∀ {ys7 : List V} {σ7 : L2.St} {H7 : Hp} {s7 : Shared}, GI X S (ip ++ pinsAt fp s5.heap) ys7 σ7 H7 s7 → GI X S ip ys7 σ7 H7 s7 ∧ tn (i + 1) s7.heap ∧ ∀ b ∈ fp, H7 b = none := fun {ys7 σ7 H7 s7} h7 => by
          obtain ⟨acc7, cc7, r7, I7⟩ := h7
          have I7' : Inv X (((S, lstObj acc7 cc7) :: ip) ++ pinsAt fp s5.heap) σ7 H7 s7 := I7
          refine ⟨⟨acc7, cc7, r7, I7'.unpinned⟩, T.keep _ _ _ st5 fun b hb o e => (I7'.pin (b, o) (List.mem_append_right _ (List.mem_append_right _ (mem_pinsAt hb e)))).1, fun b hb => ?_⟩
          obtain ⟨o, e, dd⟩ := T.obj _ _ st5 b hb
          exact (I7'.pin (b, o) (List.mem_append_right _ (List.mem_append_right _ (mem_pinsAt hb e)))).2.1
        refine hb.run A S (ip ++ pinsAt fp s5.heap) R n ys s₀ _ _ _ _ id id s6 σ6 H6 { D with nx := N, ct := N, bk := D.nx } (gl2 _) hn ⟨fun n' ys' s₀' s7 f hn' hs => ?_, fun n' s₀' x s3 hx => ee n' s₀' x s3 hx⟩ ⟨acc, cc, r, I6⟩ q6
        cases f with
        | next =>
          obtain ⟨σ7, H7, I7, n7⟩ := hs
          obtain ⟨m', hm, w7⟩ := hN ys' σ7 H7 n7
          obtain ⟨b1, b2, b3⟩ := back I7
          exact seg_again rfl (ih m' hm (i + 1) n' ys' s₀' s7 σ7 H7 hn' w7 b1 b2 b3)
        | cont =>
          obtain ⟨σ7, H7, I7, n7⟩ := hs
          obtain ⟨m', hm, w7⟩ := hN ys' σ7 H7 n7
          obtain ⟨b1, b2, b3⟩ := back I7
          exact seg_again rfl (ih m' hm (i + 1) n' ys' s₀' s7 σ7 H7 hn' w7 b1 b2 b3)
        | brk =>
          obtain ⟨σ7, H7, I7, q7⟩ := hs
          exact seg_leaf (.ok .next) (k.ok n' ys' s₀' s7 .next hn' ⟨σ7, H7, (back I7).1, q7⟩)
        | ret v =>
          obtain ⟨x7, σ7, H7, I7, r7, q7⟩ := hs
          exact seg_leaf (.ok (.ret v)) (k.ok n' ys' s₀' s7 (.ret v) hn' ⟨x7, σ7, H7, (back I7).1, r7, q7⟩)
  exact loop m0 0 n ys s₀ s2 σ H2 hn w0 ⟨acc, cc, r, I2⟩ st2 fun b hb => (f2 b hb).1
end
end GF

end
section
set_option autoImplicit false
set_option Elab.async false
set_option linter.all false
set_option maxRecDepth 100000
set_option maxHeartbeats 4000000
namespace CP
open PySem L2 G Y
abbrev sCPart : Stmt := inClass (S.top 20) 9
def dI (n : Nat) : PyData := .int ((n : Nat) : Int)
theorem dp_ints {K : PySem.W.Frag} {H : Hp} : ∀ l : List Nat, DpAll K H (ni l) (l.map dI)
  | [] => .nil
  | x :: l => .cons (.int _) (dp_ints l)
theorem lay_ints : ∀ l : List Nat, PyData.canLayAll0 (l.map dI) = true
  | [] => rfl
  | x :: l => lay_ints l
theorem deep_ints : ∀ l : List Nat, PyData.depthAll (l.map dI) = 0
  | [] => by simp only [List.map_nil, PyData.depthAll]
  | x :: l => by simp only [List.map_cons, PyData.depthAll, dI, PyData.depth, deep_ints l, Nat.max_self]
theorem shp_list (l : List Nat) : SeqAt.shaped (.list (l.map dI)) = true := by
  unfold SeqAt.shaped
  rw [show (PyData.list (l.map dI)).canLay0 = true by simp only [PyData.canLay0, lay_ints], Bool.true_and]
  refine decide_eq_true ?_
  simp only [PyData.depth, deep_ints]
  decide
theorem shp_tup (l : List Nat) : SeqAt.shaped (.tuple (l.map dI)) = true := by
  unfold SeqAt.shaped
  rw [show (PyData.tuple (l.map dI)).canLay0 = true by simp only [PyData.canLay0, lay_ints], Bool.true_and]
  refine decide_eq_true ?_
  simp only [PyData.depth, deep_ints]
  decide
theorem eqv_nil : ∀ l : List Nat, PyData.eqv (.list (l.map dI)) (.list []) = decide (l = [])
  | [] => by simp [PyData.eqv, PyData.eqvAll]
  | x :: l => by simp [PyData.eqv, PyData.eqvAll]
theorem eqv_tup (l : List Nat) : PyData.eqv (.tuple (l.map dI)) (.tuple (l.map dI)) = true := SeqAt.eqv_refl _ (by simp only [PyData.canLay0, lay_ints])
/-- a list beside a new empty one -/
theorem eq_nil {K : PySem.W.Frag} {H : Hp} {Q : VK} {D e : Addr} {l : List Nat} (hD : SqL K H D (ni l)) (he : SqL K H e []) (q : Q (.bl (decide (l = []))) H) : rEqD K (.ref D) (.ref e) H Q :=
  ⟨_, _, .lst hD (dp_ints l), .lst he .nil, shp_list l, by decide +kernel, by rw [eqv_nil]; exact q⟩
theorem ne_nil {K : PySem.W.Frag} {H : Hp} {Q : VK} {D e : Addr} {l : List Nat} (hD : SqL K H D (ni l)) (he : SqL K H e []) (q : Q (.bl (!decide (l = []))) H) : rNeD K (.ref D) (.ref e) H Q :=
  ⟨_, _, .lst hD (dp_ints l), .lst he .nil, shp_list l, by decide +kernel, by rw [eqv_nil]; exact q⟩
theorem ne_tups {K : PySem.W.Frag} {H : Hp} {Q : VK} {t u : Addr} {l : List Nat} (ht : SqT K H t (ni l)) (hu : SqT K H u (ni l)) (q : Q (.bl false) H) : rNeD K (.ref t) (.ref u) H Q :=
  ⟨_, _, .tup ht (dp_ints l), .tup hu (dp_ints l), shp_tup l, shp_tup l, by rw [eqv_tup]; exact q⟩
structure Mw (P : Program) (w : World) (K : PySem.W.Frag) (mg : Str → Option Value) (base : Heap) (C : Addr) : Prop where
  ex : ∃ (f : Addr) (fd : FuncData), FnOk P w K mg base CX0 4 f fd ["self", "cuts"] (spCInit C) ∧ Mk K C f ∧ Binds K fd ["self", "cuts"] []
structure Op (P : Program) (w : World) (K : PySem.W.Frag) (mg : Str → Option Value) (base : Heap) (C : Addr) (k : Nat) (m : Str) (ps : List Str) (sp : Sp) : Prop where
  ex : ∃ (f : Addr) (fd : FuncData), FnOk P w K mg base CX0 k f fd ps sp ∧ WO.Own K C f m ∧ Binds K fd ps [] ∧ PySem.W.fnIn K f = true
end CP

end
section
set_option autoImplicit false
set_option Elab.async false
set_option linter.all false
set_option maxRecDepth 100000
set_option maxHeartbeats 4000000
/-! ## min of a tuple with default= -/
namespace GF
open PySem PySem.Spec PyProof.Rows L2 PySem.W
theorem ints_reads {h : Heap} : ∀ {ns : List Int} {us : List Value}, Vals (ns.map V.int) us → ReadsAll h us (ns.map PyData.int) []
  | [], _, r => by cases r; exact .nil
  | n :: ns, _, r => by
    cases r with
    | cons a b =>
      obtain ⟨t, rfl⟩ := a
      exact .cons (as := []) (bs := []) (.int n t) (ints_reads b)
theorem ints_alike : ∀ ns : List Int, AlikeAll (ns.map PyData.int) := by
  intro ns
  refine ⟨fun x hx y hy => ?_, fun x hx => ?_⟩
  · obtain ⟨a, _, rfl⟩ := List.mem_map.mp hx
    obtain ⟨b, _, rfl⟩ := List.mem_map.mp hy
    rfl
  · obtain ⟨a, _, rfl⟩ := List.mem_map.mp hx
    intro z
    cases z
theorem ints_depth : ∀ ns : List Int, PyData.depthAll (ns.map PyData.int) = 0
  | [] => by simp only [List.map_nil, PyData.depthAll]
  | n :: ns => by simp only [List.map_cons, PyData.depthAll, PyData.depth, ints_depth ns, Nat.max_self]
theorem int_reads {h : Heap} {v : Value} {n : Int} {bs : List Addr} (r : Reads h v (.int n) bs) : RelV (.int n) v := by
  cases r
  exact ⟨_, rfl⟩
def rMinTD (K : PySem.W.Frag) : List V → List V → Hp → VK → Prop := fun xs zs H Q => ∃ (a : Addr) (ns : List Int) (d : Int), xs = [.ref a] ∧ zs = [.int d] ∧ SqT K H a (ns.map V.int) ∧ (ns = [] → Q (.int d) H) ∧ (∀ n r, ns = n :: r → Q (.int (r.foldl min n)) H)
section
variable {X : Cx}
theorem call_minTD (hc : X.calm = true) (hu : X.A.units + 64 < cLine) : CallRK X (.builtin "min") ["default"] (rMinTD X.K) := by
  intro pins s σ H xs zs us ws Q I r rz h
  obtain ⟨a, ns, d, rfl, rfl, hL, q0, q1⟩ := h
  cases r with
  | cons rx rr =>
    cases rr
    cases rx
    cases rz with
    | cons ra rb =>
      cases rb
      obtain ⟨td, rfl⟩ := ra
      obtain ⟨its, rv, pl, _⟩ := I.tuple hL
      have hr := ints_reads (h := s.heap) rv
      refine min_tuple_default (xs := ns.map .int) (d := .int d td) (I.ok.hd hc) (show s.heap.IsTuple a its.toArray from pl) (by simpa using hr) (ints_alike ns) (by rw [ints_depth]; omega) (fun e h' tk k => ?_) fun y ys i v h' tk bs e hv hR k => ?_
      · cases ns with
        | nil => exact ⟨.int d, H, I.kept (t' := tk) k, ⟨td, rfl⟩, q0 rfl⟩
        | cons n r => cases e
      · cases ns with
        | nil => cases e
        | cons n r =>
          injection e with e1 e2
          subst e1 e2
          rw [minD_ints] at hR
          exact ⟨.int _, H, I.kept (t' := tk) k, int_reads hR, q1 n r rfl⟩
end
end GF
/-! ## sums of chains -/
namespace CP
open PySem L2 G Y
abbrev sCAdd : Stmt := inClass (S.top 20) 5
structure Oq (P : Program) (w : World) (K : PySem.W.Frag) (mg : Str → Option Value) (base : Heap) (C : Addr) (k : Nat) (m : Str) (ps : List Str) (sp : Sp) : Prop where
  ex : ∃ (f : Addr) (fd : FuncData), FnOk P w K mg base CX0 k f fd ps sp ∧ WO.Own K C f m ∧ Binds K fd ps []
theorem fold_cast : ∀ (l : List Nat) (n : Nat), (l.map fun n => ((n : Nat) : Int)).foldl min (n : Int) = ((l.foldl min n : Nat) : Int)
  | [], n => rfl
  | x :: l, n => by
    rw [List.map_cons, List.foldl_cons, List.foldl_cons, ← fold_cast l (min n x)]
    congr 1
    omega
section
variable {P : Program} {w : World} {K : PySem.W.Frag} {mg : Str → Option Value} {base : Heap} {C : Addr}
/-- first + second -/
def spCAdd (C : Addr) : Sp := fun vs H Q _ => ∃ (a b : Addr) (l m : List Nat), vs = [.ref a, .ref b] ∧ ChAt C H l a ∧ ChAt C H m b ∧ Cuts l ∧ Cuts m ∧ l.length + m.length ≤ 1000 ∧ ∀ c H', Same H H' → ChAt C H' (N.add l m) c → Q (.ref c) H'
theorem cuts_add {l m : List Nat} (hl : Cuts l) (hm : Cuts m) (h : l.length + m.length ≤ 1000) : Cuts (N.add l m) := ⟨N.add_fall hl.fall hm.fall, N.add_le hl.le hm.le, Nat.le_trans (N.add_len l m) h⟩
abbrev NAd : List Str := ["self", "other", "least", "cut"]
theorem scAd : FnScope NAd ["self", "other"] (defScope sCAdd) := ⟨rfl, rfl, rfl, by decide +kernel, rfl, by decide +kernel, by decide +kernel⟩
theorem ok_cadd {f : Addr} {fd : FuncData} (F : Fun K "__add__" "Chain.__add__" sCAdd f fd) (B : Bn mg) (T : Ct K mg C) (gC : ∃ t, mg "GREATEST_CUT" = some (.int 1000 t)) (MW : Mw P w K mg base C) : FnOk P w K mg base CX0 6 f fd ["self", "other"] (spCAdd C) := by
  obtain ⟨fI, fdI, GI, MK, bI⟩ := MW.ex
  obtain ⟨tkC, gC⟩ := gC
  refine F.ok scAd (fun vs H Q E h => ?_) (fun cdv A outer s H vs Q E hr h => ?_)
  · obtain ⟨a, b, l, m, rfl, _⟩ := h
    rfl
  · obtain ⟨a, b, l, m, rfl, ha, hb, hl, hm, hlen, k⟩ := h
    refine ⟨_, pss_cons (ps_set (i := 2) scAd.nd rfl (Or.inr rfl) (pe_callBK (GF.call_minTD rfl hr.units) (by rfl) B.min (by decide +kernel) (pa_cons (pe_fld (pv 0) rfl) pa_nil) (pk_cons (pe_op op_add (pe_glob (v := .int 1000) rfl gC ⟨_, rfl⟩) pe_int) pk_nil)))
      (pss_one (ps_ret (pe_make MK GI hr rfl T.g bI .nil pass0 (pa_cons (pe_op op_catA (pe_fld (pv 0) rfl) (pe_callTy call_tuple_of (by rfl) B.tuple (by decide +kernel) (pa_cons
        (pe_lc (own := [("cut", 3)]) (g := gName 3) (tt := tTest (tOp (rI0 fun i j => .bl (decide (i < j))) (tVar 3) (tVar 2))) (te := tVar 3) rfl scAd.nd (pi_tup (pe_fld (pv 1) rfl)) (blkOk_by (N := NAd) (sc := defScope sCAdd) (by decide +kernel))
          (fun _ _ _ _ _ => pg_name (i := 3) scAd.nd rfl (Or.inl rfl)) (fun _ _ _ _ _ => pts_one (by exact pt_cmpR op_lt (pv 3) (pv 2) (nomark _))) (fun _ _ _ _ _ => by exact pv 3)) pa_nil))) pa_nil)))), ?_⟩
    obtain ⟨dx, t, u, h1, h2, h3⟩ := id ha
    obtain ⟨dy, t', u', g1, g2, g3⟩ := id hb
    have fin : ∀ (c0 : Addr) (G2 : Hp), Same H G2 → G2 c0 = some (.tup (ni (N.add l m))) → ∀ x dx, G2 x = none → G2 dx = none → dx ≠ x → spCInit C (.ref x :: ([.ref c0] ++ [])) (upd (upd G2 dx (.own x)) x (.ins C dx [])) (fun v H2 => v = .non ∧ Q (.ref x) H2) E0 :=
      fun c0 G2 s2 hc0 x dx hx hdx ne => made_ch hx hdx ne (.inr hc0) (cuts_add hl hm hlen) fun G3 s3 hch => ⟨rfl, k x G3 (s2.trans s3) hch⟩
    have rest : tRet (tMake C (spCInit C) [] E0 (tCons (tOp (rCatA K) (tFld K (tVar 0) "cuts") (tCB (fun xs H Q => ∃ p ys, xs = [V.ref p] ∧ ((SqL K H p ys ∧ ∀ l, H l = none → Q (.ref l) (upd H l (.tup ys))) ∨ (SqT K H p ys ∧ Q (.ref p) H))) (tCons (tLc (iTup K (tFld K (tVar 1) "cuts")) (gName 3) (tTest (tOp (rI0 fun i j => .bl (decide (i < j))) (tVar 3) (tVar 2))) (tVar 3) [3]) tNil))) tNil)) { nx := fun _ H' => Q .non H', rt := Q } [some (.ref a), some (.ref b), some (.int ((N.lo l : Nat) : Int)), none] H := by
      refine ⟨_, rfl, a, C, dx, _, _, rfl, h1, T.cl, T.nC, cfl_cuts t u, ?_⟩
      refine ⟨_, rfl, b, C, dy, _, _, rfl, g1, T.cl, T.nC, cfl_cuts t' u', t', rfl, ⟨_, SqT.of g2⟩, fun D hD => ?_⟩
      refine lc_it walk_tup (fun i G => Same H G ∧ G D = some (.lst (ni ((m.take i).filter fun d => decide (d < N.lo l))))) ⟨of_upd hD, upd_same⟩ (fun i G _ z => SqT.of (z.1 _ _ g2)) ?_ ?_
      · rintro i x G G' hi ⟨s1, hG⟩ ⟨rfl, hx⟩
        obtain ⟨c, hc, rfl⟩ := ni_get hx
        have e : m.take (i + 1) = m.take i ++ [c] := take_snoc hc
        refine ⟨rfl, _, rfl, _, rfl, _, _, rfl, rfl, _, rfl, ite2 (fun c1 => ?_) (fun c1 => ?_)⟩
        · have c2 : (c : Int) < ((N.lo l : Nat) : Int) := of_decide_eq_true c1
          refine ⟨_, rfl, _, hG, ?_, add_upd hD s1, ?_⟩
          · rw [ni_len] at hi ⊢
            have := List.length_filter_le (fun d => decide (d < N.lo l)) (m.take i)
            have := List.length_take_le i m
            have := hm.len
            exact small1000 (by omega)
          · rw [upd_same, e, List.filter_append, ni_app, List.filter_cons_of_pos (by simpa using (by omega : c < N.lo l))]
            rfl
        · have c2 : ¬ (c : Int) < ((N.lo l : Nat) : Int) := fun z => c1 (decide_eq_true z)
          refine ⟨s1, ?_⟩
          rw [hG, e, List.filter_append, List.filter_cons_of_neg (by simpa using (by omega : ¬ c < N.lo l)), List.filter_nil, List.append_nil]
      · rintro G ⟨s1, hG⟩
        rw [ni_len, List.take_length] at hG
        refine ⟨D, _, rfl, .inl ⟨SqL.of hG, fun t2 ht2 => ?_⟩⟩
        have s2 : Same G (upd G t2 (.tup (ni (m.filter fun d => decide (d < N.lo l))))) := of_upd ht2
        have h2' := s2 _ _ (s1 _ _ h2)
        have el : ni (N.add l m) = ni l ++ ni (m.filter fun d => decide (d < N.lo l)) := by
          unfold N.add
          rw [ni_app]
        refine ⟨t, t2, _, _, rfl, rfl, SqT.of h2', SqT.of upd_same, ?_, fun e => ?_, fun _ e => ?_, fun _ _ v hv => ?_⟩
        · rw [ni_len, ni_len]
          have := List.length_filter_le (fun d => decide (d < N.lo l)) m
          exact Nat.le_trans (show _ ≤ 1000 by omega) (by decide)
        · refine fin t2 _ (s1.trans s2) ?_
          rw [upd_same, el, e, List.nil_append]
        · refine fin t _ (s1.trans s2) ?_
          rw [h2', el, e, List.append_nil]
        · refine fin v _ ((s1.trans s2).trans (of_upd hv)) ?_
          rw [upd_same, el]
    refine ⟨_, rfl, a, C, dx, _, _, rfl, h1, T.cl, T.nC, cfl_cuts t u, _, _, rfl, rfl, ?_⟩
    refine ⟨t, l.map fun n => ((n : Nat) : Int), _, rfl, rfl, SqT.of h2, fun e => ?_, fun n r e => ?_⟩
    · have el : l = [] := List.map_eq_nil_iff.mp e
      have e2 : (1000 : Int) + 1 = ((N.lo l : Nat) : Int) := by
        rw [el]
        rfl
      rw [e2]
      exact rest
    · have e2 : r.foldl min n = ((N.lo l : Nat) : Int) := by
        cases l with
        | nil => cases e
        | cons c l =>
          rw [List.map_cons] at e
          injection e with e1 e3
          subst e1 e3
          rw [fold_cast]
          have := hl.le c List.mem_cons_self
          show ((l.foldl min c : Nat) : Int) = ((l.foldl min (min 1001 c) : Nat) : Int)
          rw [show min 1001 c = c by omega]
      rw [e2]
      exact rest
end
end CP

end
section
set_option autoImplicit false
set_option linter.all false
/-! ## periods of beginnings -/
namespace N
/-- f i = f (i + q) for n places from i on -/
def per (f : Nat → Bool) (q : Nat) : Nat → Nat → Bool
  | 0, _ => true
  | n + 1, i => (f i == f (i + q)) && per f q n (i + 1)
/-- q is a period of the first k places -/
def Pd (f : Nat → Bool) (k q : Nat) : Bool := per f q (k - q) 0
def lpF (f : Nat → Bool) (k : Nat) : Nat → Nat → Nat
  | 0, q => q
  | s + 1, q => if Pd f k q = true then q else lpF f k s (q + 1)
/-- the least period of the first k places -/
def lp (f : Nat → Bool) (k : Nat) : Nat := lpF f k (k - 1) 1
def nrmF (f : Nat → Bool) : Nat → Nat → List Nat
  | 0, _ => []
  | s + 1, n => if lp f n < n then lp f n :: nrmF f s (lp f n) else []
/-- the least period, that of the places below it, and so on -/
def nrm (f : Nat → Bool) (n : Nat) : List Nat := nrmF f n n
theorem per_iff {f : Nat → Bool} {q : Nat} : ∀ n i, per f q n i = true ↔ ∀ j, i ≤ j → j < i + n → f j = f (j + q)
  | 0, i => ⟨fun _ j h1 h2 => by omega, fun _ => rfl⟩
  | n + 1, i => by
    unfold per
    rw [Bool.and_eq_true, per_iff n (i + 1), beq_iff_eq]
    constructor
    · rintro ⟨a, b⟩ j h1 h2
      by_cases e : j = i
      · rw [e]
        exact a
      · exact b j (by omega) (by omega)
    · exact fun h => ⟨h i (Nat.le_refl _) (by omega), fun j h1 h2 => h j (by omega) (by omega)⟩
theorem pd_iff {f : Nat → Bool} {k q : Nat} : Pd f k q = true ↔ ∀ i, i + q < k → f i = f (i + q) := by
  unfold Pd
  rw [per_iff]
  exact ⟨fun h i hi => h i (Nat.zero_le _) (by omega), fun h i _ hi => h i (by omega)⟩
theorem pd_self (f : Nat → Bool) (k q : Nat) (h : k ≤ q) : Pd f k q = true := pd_iff.mpr fun i hi => by omega
theorem lpF_spec {f : Nat → Bool} {k : Nat} : ∀ s q, q ≤ lpF f k s q ∧ lpF f k s q ≤ q + s ∧ (∀ j, q ≤ j → j < lpF f k s q → Pd f k j = false) ∧ (lpF f k s q < q + s → Pd f k (lpF f k s q) = true)
  | 0, q => ⟨Nat.le_refl _, Nat.le_refl _, fun j h1 h2 => absurd (show j < q from h2) (by omega), fun h => absurd (show q < q + 0 from h) (by omega)⟩
  | s + 1, q => by
    unfold lpF
    by_cases c : Pd f k q = true
    · rw [if_pos c]
      exact ⟨Nat.le_refl _, by omega, fun j h1 h2 => by omega, fun _ => c⟩
    · rw [if_neg c]
      obtain ⟨h1, h2, h3, h4⟩ := lpF_spec (f := f) (k := k) s (q + 1)
      refine ⟨by omega, by omega, fun j j1 j2 => ?_, fun h => h4 (by omega)⟩
      by_cases e : j = q
      · rw [e]
        simpa using c
      · exact h3 j (by omega) j2
theorem lp_spec {f : Nat → Bool} {k : Nat} (h : 0 < k) : 1 ≤ lp f k ∧ lp f k ≤ k ∧ Pd f k (lp f k) = true ∧ ∀ q, 1 ≤ q → Pd f k q = true → lp f k ≤ q := by
  obtain ⟨h1, h2, h3, h4⟩ := lpF_spec (f := f) (k := k) (k - 1) 1
  refine ⟨h1, by unfold lp; omega, ?_, fun q q1 hq => ?_⟩
  · by_cases c : lpF f k (k - 1) 1 < 1 + (k - 1)
    · exact h4 c
    · exact pd_self f k _ (by unfold lp; omega)
  · by_cases c : lp f k ≤ q
    · exact c
    · have := h3 q q1 (by unfold lp at c; omega)
      rw [hq] at this
      cases this
theorem lp_zero (f : Nat → Bool) : lp f 0 = 1 := rfl
theorem lp_eq {f : Nat → Bool} {k r : Nat} (h : 0 < k) (r1 : 1 ≤ r) (hr : Pd f k r = true) (least : ∀ q, 1 ≤ q → q ≤ k → Pd f k q = true → r ≤ q) : lp f k = r := by
  obtain ⟨h1, h2, h3, h4⟩ := lp_spec (f := f) h
  exact Nat.le_antisymm (h4 r r1 hr) (least _ h1 h2 h3)
/-- what stands at the k-th place of the borders -/
def bd (f : Nat → Bool) (k : Nat) : Int := (k : Int) - (lp f k : Int)
/-- a candidate for the border behind k places -/
structure Cand (f : Nat → Bool) (k : Nat) (b : Int) : Prop where
  ok : b = -1 ∨ ∃ j : Nat, b = (j : Int) ∧ j < k ∧ Pd f k (k - j) = true
  all : ∀ j, j < k → Pd f k (k - j) = true → f j = f k → (j : Int) ≤ b
theorem cand_first (f : Nat → Bool) (k : Nat) : Cand f k (bd f k) := by
  by_cases h : k = 0
  · subst h
    exact ⟨.inl (by unfold bd; rw [lp_zero]; rfl), fun j hj => by omega⟩
  · obtain ⟨h1, h2, h3, h4⟩ := lp_spec (f := f) (k := k) (by omega)
    refine ⟨.inr ⟨k - lp f k, by unfold bd; omega, by omega, by rw [show k - (k - lp f k) = lp f k by omega]; exact h3⟩, fun j hj hp _ => ?_⟩
    have := h4 (k - j) (by omega) hp
    unfold bd
    omega
theorem cand_next {f : Nat → Bool} {k j : Nat} (h : Cand f k (j : Int)) (hne : f j ≠ f k) : j < k ∧ Cand f k (bd f j) := by
  obtain ⟨j', ej, hj, hp⟩ : ∃ j' : Nat, (j : Int) = (j' : Int) ∧ j' < k ∧ Pd f k (k - j') = true := by
    rcases h.ok with h | h
    · omega
    · exact h
  have e : j' = j := by omega
  subst e
  have hp := pd_iff.mp hp
  refine ⟨hj, ⟨?_, fun i hi hq he => ?_⟩⟩
  · by_cases z : j' = 0
    · left
      rw [z]
      unfold bd
      rw [lp_zero]
      rfl
    · obtain ⟨h1, h2, h3, h4⟩ := lp_spec (f := f) (k := j') (by omega)
      have h3 := pd_iff.mp h3
      refine .inr ⟨j' - lp f j', by unfold bd; omega, by omega, pd_iff.mpr fun i hi => ?_⟩
      have a := h3 i (by omega)
      have b := hp (i + lp f j') (by omega)
      rw [a, b]
      congr 1
      omega
  · have le := h.all i hi hq he
    have ne : i ≠ j' := fun z => hne (by rw [← z]; exact he)
    have hq := pd_iff.mp hq
    have per : Pd f j' (j' - i) = true := pd_iff.mpr fun x hx => by
      have a := hq x (by omega)
      have b := hp (x + (j' - i)) (by omega)
      rw [a, b]
      congr 1
      omega
    have := (lp_spec (f := f) (k := j') (by omega)).2.2.2 (j' - i) (by omega) per
    unfold bd
    omega
theorem cand_end {f : Nat → Bool} {k : Nat} {b : Int} (h : Cand f k b) (stop : b < 0 ∨ ∃ j : Nat, b = (j : Int) ∧ f j = f k) : b + 1 = bd f (k + 1) := by
  have key : ∀ r : Nat, 1 ≤ r → (b : Int) = (k : Int) - r → Pd f (k + 1) r = true → (∀ q, 1 ≤ q → q ≤ k + 1 → Pd f (k + 1) q = true → r ≤ q) → b + 1 = bd f (k + 1) := fun r r1 e hr hl => by
    unfold bd
    rw [lp_eq (Nat.succ_pos _) r1 hr hl]
    omega
  have low : ∀ q, 1 ≤ q → q ≤ k → Pd f (k + 1) q = true → ((k - q : Nat) : Int) ≤ b := fun q q1 q2 hq => by
    have hq := pd_iff.mp hq
    refine h.all (k - q) (by omega) (pd_iff.mpr fun i hi => ?_) ?_
    · rw [show k - (k - q) = q by omega]
      exact hq i (by omega)
    · rw [hq (k - q) (by omega)]
      congr 1
      omega
  rcases stop with stop | ⟨j, rfl, he⟩
  · have e : b = -1 := by
      rcases h.ok with h | ⟨j, h, _⟩
      · exact h
      · omega
    refine key (k + 1) (by omega) (by omega) (pd_self f _ _ (Nat.le_refl _)) fun q q1 q2 hq => ?_
    by_cases c : q ≤ k
    · have := low q q1 c hq
      omega
    · omega
  · rcases h.ok with h' | ⟨j', ej, hj, hp⟩
    · omega
    · have e : j' = j := by omega
      subst e
      have hp := pd_iff.mp hp
      refine key (k - j') (by omega) (by omega) (pd_iff.mpr fun i hi => ?_) fun q q1 q2 hq => ?_
      · by_cases c : i + (k - j') < k
        · exact hp i c
        · have e : i = j' := by omega
          subst e
          rw [he]
          congr 1
          omega
      · by_cases c : q ≤ k
        · have := low q q1 c hq
          omega
        · omega
theorem nrmF_eq {f : Nat → Bool} : ∀ n s, n ≤ s → nrmF f s n = nrmF f n n := by
  intro n
  induction n using Nat.strongRecOn with
  | ind n ih =>
    intro s hs
    cases n with
    | zero =>
      cases s with
      | zero => rfl
      | succ s =>
        unfold nrmF
        rw [if_neg (by rw [lp_zero]; omega)]
    | succ n =>
      cases s with
      | zero => omega
      | succ s =>
        unfold nrmF
        by_cases c : lp f (n + 1) < n + 1
        · rw [if_pos c, if_pos c, ih _ c s (by omega), ih _ c n (by omega)]
        · rw [if_neg c, if_neg c]
theorem nrm_step (f : Nat → Bool) (n : Nat) : nrm f n = if lp f n < n then lp f n :: nrm f (lp f n) else [] := by
  cases n with
  | zero => rw [if_neg (by rw [lp_zero]; omega)]; rfl
  | succ n =>
    show nrmF f (n + 1) (n + 1) = _
    rw [nrmF]
    by_cases c : lp f (n + 1) < n + 1
    · rw [if_pos c, if_pos c, nrmF_eq _ n (by omega)]
      rfl
    · rw [if_neg c, if_neg c]
theorem nrm_fall {f : Nat → Bool} : ∀ n, Fall (nrm f n) ∧ (∀ d ∈ nrm f n, d < n) ∧ (nrm f n).length ≤ n := by
  intro n
  induction n using Nat.strongRecOn with
  | ind n ih =>
    rw [nrm_step]
    by_cases c : lp f n < n
    · rw [if_pos c]
      obtain ⟨a, b, d⟩ := ih _ c
      have p := (lp_spec (f := f) (k := n) (by omega)).1
      refine ⟨⟨by omega, b, a⟩, fun e he => ?_, by rw [List.length_cons]; omega⟩
      rcases List.mem_cons.mp he with h | h
      · rw [h]
        exact c
      · have := b e h
        omega
    · rw [if_neg c]
      exact ⟨trivial, (fun _ h => by cases h), Nat.zero_le _⟩
end N

end
section
set_option autoImplicit false
set_option linter.all false
/-! ## periods of chains -/
namespace N
/-- whether a place is 0 or a boundary -/
def fm (cs : List Nat) (p : Nat) : Bool := decide (rem cs p = 0)
theorem fm_zero (cs : List Nat) : fm cs 0 = true := decide_eq_true (rem_zero cs)
theorem fm_head (c : Nat) (l : List Nat) (p : Nat) : fm (c :: l) (p + c) = fm (c :: l) p := by
  unfold fm
  rw [rem_cons, rem_cons, Nat.add_mod_right]
theorem fm_low {c : Nat} {l : List Nat} {p : Nat} (h : p < c) : fm (c :: l) p = fm l p := by
  unfold fm
  rw [rem_cons, Nat.mod_eq_of_lt h]
theorem pd_head (c : Nat) (l : List Nat) (k : Nat) : Pd (fm (c :: l)) k c = true := pd_iff.mpr fun i _ => (fm_head c l i).symm
theorem pd_congr {f g : Nat → Bool} {k q : Nat} (h : ∀ i, i < k → f i = g i) : Pd f k q = Pd g k q := by
  rw [Bool.eq_iff_iff, pd_iff, pd_iff]
  exact ⟨fun a i hi => by rw [← h i (by omega), ← h (i + q) hi]; exact a i hi, fun a i hi => by rw [h i (by omega), h (i + q) hi]; exact a i hi⟩
/-- where some place is one, some cut is a period -/
theorem pd_some : ∀ (cs : List Nat), Fall cs → ∀ n, (∃ p, 1 ≤ p ∧ p < n ∧ fm cs p = true) → ∃ c, 1 ≤ c ∧ c < n ∧ Pd (fm cs) n c = true
  | [], _, n, ⟨p, h1, h2, h3⟩ => by
    have : p = 0 := of_decide_eq_true h3
    omega
  | c :: l, hf, n, ⟨p, h1, h2, h3⟩ => by
    by_cases hc : c < n
    · exact ⟨c, hf.1, hc, pd_head c l n⟩
    · obtain ⟨d, d1, d2, d3⟩ := pd_some l hf.2.2 n ⟨p, h1, h2, by rw [← fm_low (c := c) (by omega)]; exact h3⟩
      exact ⟨d, d1, d2, by rw [pd_congr (g := fm l) fun i hi => fm_low (by omega)]; exact d3⟩
/-- the least period below n, if there is a place below n -/
theorem lp_lt {cs : List Nat} (hf : Fall cs) {n : Nat} : lp (fm cs) n < n ↔ ∃ p, 1 ≤ p ∧ p < n ∧ fm cs p = true := by
  constructor
  · intro h
    obtain ⟨h1, h2, h3, _⟩ := lp_spec (f := fm cs) (k := n) (by omega)
    refine ⟨_, h1, h, ?_⟩
    have := pd_iff.mp h3 0 (by omega)
    rw [fm_zero, Nat.zero_add] at this
    exact this.symm
  · intro h
    obtain ⟨c, c1, c2, c3⟩ := pd_some cs hf n h
    exact Nat.lt_of_le_of_lt ((lp_spec (f := fm cs) (k := n) (by omega)).2.2.2 c c1 c3) c2
/-- one place more than two first cuts tells no more -/
theorem lp_more {c : Nat} {l : List Nat} (hc : 0 < c) (m : Nat) (hm : 2 * c ≤ m) : lp (fm (c :: l)) m = lp (fm (c :: l)) (2 * c) := by
  have hcp := pd_head c l (2 * c)
  obtain ⟨h1, h2, h3, h4⟩ := lp_spec (f := fm (c :: l)) (k := 2 * c) (by omega)
  have le := h4 c hc hcp
  have h3' := pd_iff.mp h3
  refine lp_eq (by omega) h1 (pd_iff.mpr fun i hi => ?_) fun q q1 q2 hq => ?_
  · have back : ∀ x, fm (c :: l) x = fm (c :: l) (x % c) := fun x => by
      unfold fm
      rw [rem_cons, rem_cons, Nat.mod_mod]
    rw [back i, back (i + lp (fm (c :: l)) (2 * c)), h3' (i % c) (by have := Nat.mod_lt i hc; omega), back, Nat.mod_add_mod]
  · exact h4 q q1 (pd_iff.mpr fun i hi => pd_iff.mp hq i (by omega))
theorem nrm_more {c : Nat} {l : List Nat} (hc : 0 < c) (m : Nat) (hm : 2 * c ≤ m) : nrm (fm (c :: l)) m = nrm (fm (c :: l)) (2 * c) := by
  have hcp := pd_head c l (2 * c)
  have le := (lp_spec (f := fm (c :: l)) (k := 2 * c) (by omega)).2.2.2 c hc hcp
  rw [nrm_step, nrm_step (fm (c :: l)) (2 * c), lp_more hc m hm, if_pos (by omega), if_pos (by omega)]
theorem nrm_nil (n : Nat) : nrm (fm []) n = [] := by
  rw [nrm_step, if_neg]
  rw [lp_lt (cs := []) trivial]
  rintro ⟨p, h1, h2, h3⟩
  have : p = 0 := of_decide_eq_true h3
  omega
/-- so many places tell all -/
def hd (cs : List Nat) : Nat := match cs with | [] => 0 | c :: _ => c
theorem nrm_cuts {cs : List Nat} (hf : Fall cs) (hb : ∀ c ∈ cs, c ≤ 1000) {n : Nat} (hn : n ≤ 2 * hd cs) : ∀ d ∈ nrm (fm cs) n, d ≤ 1000 := by
  cases cs with
  | nil => rw [nrm_nil]; exact fun _ h => by cases h
  | cons c l =>
    have c1 := hb c List.mem_cons_self
    have hn : n ≤ 2 * c := hn
    rw [nrm_step]
    by_cases h : lp (fm (c :: l)) n < n
    · rw [if_pos h]
      have le : lp (fm (c :: l)) n ≤ c := (lp_spec (f := fm (c :: l)) (k := n) (by omega)).2.2.2 c hf.1 (pd_head c l n)
      intro d hd2
      rcases List.mem_cons.mp hd2 with e | e
      · omega
      · have := (nrm_fall (f := fm (c :: l)) (lp (fm (c :: l)) n)).2.1 d e
        omega
    · rw [if_neg h]
      exact fun _ h => by cases h
theorem fall_len : ∀ {l : List Nat} {m : Nat}, Fall l → (∀ d ∈ l, d ≤ m) → l.length ≤ m
  | [], _, _, _ => Nat.zero_le _
  | c :: r, m, f, h => by
    have h1 := h c List.mem_cons_self
    have := fall_len (l := r) (m := m - 1) f.2.2 fun d hd => by
      have := f.2.1 d hd
      omega
    have := f.1
    rw [List.length_cons]
    omega
end N

end
section
set_option autoImplicit false
set_option Elab.async false
set_option linter.all false
set_option maxRecDepth 100000
set_option maxHeartbeats 4000000
/-! ## gates: the small defs -/
namespace CP
open PySem L2 G Y
abbrev sWord : Stmt := S.top 29
abbrev sRoadG : Stmt := S.top 31
abbrev sLeaves : Stmt := S.top 32
abbrev sMostG : Stmt := S.top 33
abbrev sTurnG : Stmt := S.top 35
abbrev sChB : Stmt := S.top 28
def ansV : Option Int → V
  | none => .non
  | some z => .int z
/-- a gate stands at a value -/
def GAt (H : Hp) (g : M.Gate) (v : V) : Prop := ∃ t q, v = .ref t ∧ H t = some (.tup [.ref q, .int g.thr, ansV g.ans]) ∧ H q = some (.tup (ni g.place))
theorem GAt.mono {H H' : Hp} (s : Same H H') {g : M.Gate} {v : V} (h : GAt H g v) : GAt H' g v := by
  obtain ⟨t, q, e, h1, h2⟩ := h
  exact ⟨t, q, e, s _ _ h1, s _ _ h2⟩
inductive GsAt (H : Hp) : List M.Gate → List V → Prop
  | nil : GsAt H [] []
  | cons {g : M.Gate} {l : List M.Gate} {v : V} {xs : List V} : GAt H g v → GsAt H l xs → GsAt H (g :: l) (v :: xs)
theorem GsAt.mono {H H' : Hp} (s : Same H H') {l : List M.Gate} {xs : List V} (h : GsAt H l xs) : GsAt H' l xs := by
  induction h with
  | nil => exact .nil
  | cons e _ ih => exact .cons (e.mono s) ih
theorem GsAt.snoc {H : Hp} {l : List M.Gate} {xs : List V} {g : M.Gate} {v : V} (h : GsAt H l xs) (e : GAt H g v) : GsAt H (l ++ [g]) (xs ++ [v]) := by
  induction h with
  | nil => exact .cons e .nil
  | cons e2 _ ih => exact .cons e2 ih
theorem GsAt.app {H : Hp} {l m : List M.Gate} {xs ys : List V} (h : GsAt H l xs) (h2 : GsAt H m ys) : GsAt H (l ++ m) (xs ++ ys) := by
  induction h with
  | nil => exact h2
  | cons e2 _ ih => exact .cons e2 ih
theorem GsAt.len {H : Hp} {l : List M.Gate} {xs : List V} (h : GsAt H l xs) : xs.length = l.length := by
  induction h with
  | nil => rfl
  | cons _ _ ih => rw [List.length_cons, List.length_cons, ih]
theorem GsAt.get {H : Hp} {l : List M.Gate} {xs : List V} (h : GsAt H l xs) : ∀ {i : Nat} {v : V}, xs[i]? = some v → ∃ g, l[i]? = some g ∧ GAt H g v := by
  induction h with
  | nil => intro i v e; cases e
  | cons e2 _ ih =>
    intro i v e
    cases i with
    | zero =>
      cases e
      exact ⟨_, rfl, e2⟩
    | succ i => exact ih (i := i) e
/-- all but lists stays -/
def KeepT (H H' : Hp) : Prop := ∀ a o, (∀ xs, o ≠ .lst xs) → H a = some o → H' a = some o
theorem put_keepT {G : Hp} {l : Addr} {xs : List V} {o : HO} (h : G l = some (.lst xs)) : KeepT G (upd G l o) := fun a o n e => by
  rw [upd_ne (fun z => by
    rw [z, h] at e
    cases e
    exact n _ rfl)]
  exact e
theorem same_keepT {H H' : Hp} (s : Same H H') : KeepT H H' := fun a o _ e => s a o e
theorem GsAt.keep {H H' : Hp} (s : KeepT H H') {l : List M.Gate} {xs : List V} (h : GsAt H l xs) : GsAt H' l xs := by
  induction h with
  | nil => exact .nil
  | cons e _ ih =>
    obtain ⟨t, q, e, h1, h2⟩ := e
    exact .cons ⟨t, q, e, s _ _ (fun _ z => by cases z) h1, s _ _ (fun _ z => by cases z) h2⟩ ih
theorem ChAt.keep {C : Addr} {H H' : Hp} (s : KeepT H H') {l : List Nat} {a : Addr} (h : ChAt C H l a) : ChAt C H' l a := by
  obtain ⟨dx, t, u, h1, h2, h3⟩ := h
  exact ⟨dx, t, u, s _ _ (fun _ z => by cases z) h1, s _ _ (fun _ z => by cases z) h2, s _ _ (fun _ z => by cases z) h3⟩
inductive CsAt (C : Addr) (H : Hp) : List (List Nat) → List V → Prop
  | nil : CsAt C H [] []
  | cons {cs : List Nat} {l : List (List Nat)} {a : Addr} {xs : List V} : ChAt C H cs a → CsAt C H l xs → CsAt C H (cs :: l) (.ref a :: xs)
theorem CsAt.mono {C : Addr} {H H' : Hp} (s : Same H H') {l : List (List Nat)} {xs : List V} (h : CsAt C H l xs) : CsAt C H' l xs := by
  induction h with
  | nil => exact .nil
  | cons e _ ih => exact .cons (e.mono s) ih
theorem CsAt.keep {C : Addr} {H H' : Hp} (s : KeepT H H') {l : List (List Nat)} {xs : List V} (h : CsAt C H l xs) : CsAt C H' l xs := by
  induction h with
  | nil => exact .nil
  | cons e _ ih => exact .cons (e.keep s) ih
theorem CsAt.snoc {C : Addr} {H : Hp} {l : List (List Nat)} {xs : List V} {cs : List Nat} {a : Addr} (h : CsAt C H l xs) (e : ChAt C H cs a) : CsAt C H (l ++ [cs]) (xs ++ [.ref a]) := by
  induction h with
  | nil => exact .cons e .nil
  | cons e2 _ ih => exact .cons e2 ih
theorem CsAt.len {C : Addr} {H : Hp} {l : List (List Nat)} {xs : List V} (h : CsAt C H l xs) : xs.length = l.length := by
  induction h with
  | nil => rfl
  | cons _ _ ih => rw [List.length_cons, List.length_cons, ih]
theorem CsAt.get {C : Addr} {H : Hp} {l : List (List Nat)} {xs : List V} (h : CsAt C H l xs) : ∀ {i : Nat} {cs : List Nat}, l[i]? = some cs → ∃ a, xs[i]? = some (.ref a) ∧ ChAt C H cs a := by
  induction h with
  | nil => intro i cs e; cases e
  | cons e2 _ ih =>
    intro i cs e
    cases i with
    | zero =>
      cases e
      exact ⟨_, rfl, e2⟩
    | succ i => exact ih (i := i) e
theorem ck_cuts {cs : List Nat} (h : M.Ck cs) : Cuts cs := ⟨h.fall, h.le, N.fall_len h.fall h.le⟩
theorem ch_isC {C : Addr} {H : Hp} {l : List Nat} {x : Addr} (h : ChAt C H l x) : WO.InsC C H x := by
  obtain ⟨dx, t, u, h1, _, _⟩ := h
  exact ⟨dx, _, h1⟩
theorem nks : ¬ (V.str "drop" = V.str "cut") ∧ ¬ (V.str "tell" = V.str "cut") ∧ ¬ (V.str "drop" = V.str "tell") ∧ ¬ (V.str "cut" = V.str "tell") ∧ ¬ (V.str "road" = V.str "join") ∧ ¬ (V.str "tunnel" = V.str "join") ∧ ¬ (V.str "tunnel" = V.str "road") ∧ ¬ (V.str "join" = V.str "road") ∧ ¬ (V.str "keep" = V.str "turn") ∧ ¬ (V.str "lose" = V.str "turn") :=
  ⟨fun h => absurd (V.str.inj h) (by decide +kernel), fun h => absurd (V.str.inj h) (by decide +kernel), fun h => absurd (V.str.inj h) (by decide +kernel), fun h => absurd (V.str.inj h) (by decide +kernel), fun h => absurd (V.str.inj h) (by decide +kernel), fun h => absurd (V.str.inj h) (by decide +kernel), fun h => absurd (V.str.inj h) (by decide +kernel), fun h => absurd (V.str.inj h) (by decide +kernel), fun h => absurd (V.str.inj h) (by decide +kernel), fun h => absurd (V.str.inj h) (by decide +kernel)⟩
theorem iteNT {x y : V} {A B : Prop} (h : ¬ x = y) (a : A) : if (!decide (x = y)) = true then A else B := by
  rw [decide_eq_false h]
  exact a
/-- the word of a road -/
def wordS (se ts : Bool) (lw : M.LW) : Str := if se = true then WP.sdS ts else WP.lwS lw
theorem word_cut (se ts : Bool) (lw : M.LW) : decide (V.str (wordS se ts lw) = V.str "cut") = decide (se = false ∧ lw = .cut) := by
  cases se with
  | true =>
    cases ts with
    | true => exact (decide_eq_false nks.2.1).trans (decide_eq_false (fun h => by cases h.1)).symm
    | false => exact (decide_eq_false nks.1).trans (decide_eq_false (fun h => by cases h.1)).symm
  | false =>
    cases lw with
    | cut => exact (decide_eq_true rfl).trans (decide_eq_true ⟨rfl, rfl⟩).symm
    | tell => exact (decide_eq_false nks.2.1).trans (decide_eq_false (fun h => by cases h.2)).symm
    | drop => exact (decide_eq_false nks.1).trans (decide_eq_false (fun h => by cases h.2)).symm
theorem word_tell (se ts : Bool) (lw : M.LW) : decide (V.str (wordS se ts lw) = V.str "tell") = decide ((se = true ∧ ts = true) ∨ (se = false ∧ lw = .tell)) := by
  cases se with
  | true =>
    cases ts with
    | true => exact (decide_eq_true rfl).trans (decide_eq_true (.inl ⟨rfl, rfl⟩)).symm
    | false => exact (decide_eq_false nks.2.2.1).trans (decide_eq_false (fun h => by rcases h with h | h; cases h.2; cases h.1)).symm
  | false =>
    cases lw with
    | cut => exact (decide_eq_false nks.2.2.2.1).trans (decide_eq_false (fun h => by rcases h with h | h; cases h.1; cases h.2)).symm
    | tell => exact (decide_eq_true rfl).trans (decide_eq_true (.inr ⟨rfl, rfl⟩)).symm
    | drop => exact (decide_eq_false nks.2.2.1).trans (decide_eq_false (fun h => by rcases h with h | h; cases h.1; cases h.2)).symm
section
variable {P : Program} {w : World} {K : PySem.W.Frag} {mg : Str → Option Value} {base : Heap} {C CW : Addr}
def spWord : Sp := fun vs H Q _ => ∃ (t : Addr) (se ts : Bool) (lw : M.LW) (size : Nat), vs = [.ref t, .bl se] ∧ H t = some (.tup [.str "road", .int (size : Int), .str (WP.sdS ts), .str (WP.lwS lw)]) ∧ Q (.str (wordS se ts lw)) H
theorem scWd : FnScope ["road", "sealed"] ["road", "sealed"] (defScope sWord) := ⟨rfl, rfl, rfl, by decide +kernel, rfl, by decide +kernel, by decide +kernel⟩
theorem ok_word {f : Addr} {fd : FuncData} (F : Fun K "_word" "_word" sWord f fd) : FnOk P w K mg base CX0 1 f fd ["road", "sealed"] spWord := by
  refine F.ok scWd (fun vs H Q E h => ?_) (fun cdv A outer s H vs Q E hr h => ?_)
  · obtain ⟨t, se, ts, lw, size, rfl, _⟩ := h
    rfl
  · obtain ⟨t, se, ts, lw, size, rfl, ht, k⟩ := h
    refine ⟨_, pss_one (ps_ret (pe_ifExp (pt_val (pv 1)) (pe_ix ix_tup (pv 0) (pe_int) (fun _ _ => rfl)) (pe_ix ix_tup (pv 0) (pe_int) (fun _ _ => rfl)))), ?_⟩
    refine ⟨_, rfl, _, rfl, ?_⟩
    cases se with
    | true => exact iteT ⟨_, rfl, t, _, _, _, rfl, rfl, SqT.of ht, (by exact atI_nat (j := 2) rfl), k⟩
    | false => exact iteF ⟨_, rfl, t, _, _, _, rfl, rfl, SqT.of ht, (by exact atI_nat (j := 3) rfl), k⟩
def spLeaves (C : Addr) : Sp := fun vs H Q _ => ∃ (a : Addr) (x : Int) (cs : List Nat), vs = [.ref a, .int x] ∧ ChAt C H cs a ∧ Q (.bl (M.leaves cs x)) H
theorem scLv : FnScope ["chain", "stretch"] ["chain", "stretch"] (defScope sLeaves) := ⟨rfl, rfl, rfl, by decide +kernel, rfl, by decide +kernel, by decide +kernel⟩
theorem ok_leaves {f : Addr} {fd : FuncData} (F : Fun K "_leaves_more" "_leaves_more" sLeaves f fd) (B : Bn mg) (T : Ct K mg C) : FnOk P w K mg base CX0 1 f fd ["chain", "stretch"] (spLeaves C) := by
  refine F.ok scLv (fun vs H Q E h => ?_) (fun cdv A outer s H vs Q E hr h => ?_)
  · obtain ⟨a, x, cs, rfl, _⟩ := h
    rfl
  · obtain ⟨a, x, cs, rfl, hc, k⟩ := h
    refine ⟨_, pss_one (ps_ret (pe_or (pe_cmpR (op_eq) (pe_callB call_len_seq (by rfl) B.len PySem.boot_len (pa_cons (pe_fld (pv 0) rfl) pa_nil)) (pe_int) (nomark _)) (pe_one (pe_cmpR (op_gt) (pe_ix ix_tup (pe_fld (pv 0) rfl) (pe_un un_neg pe_int) (fun _ _ => rfl)) (pv 1) (nomark _))))), ?_⟩
    obtain ⟨dx, t, u, h1, h2, h3⟩ := id hc
    refine ⟨_, rfl, a, C, dx, _, _, rfl, h1, T.cl, T.nC, cfl_cuts t u, t, _, rfl, .inr (SqT.of h2), rfl, _, rfl, ?_⟩
    rw [ni_len]
    rcases List.eq_nil_or_concat cs with e | ⟨r, y, e⟩
    · subst e
      exact iteT k
    · rw [List.concat_eq_append] at e
      subst e
      rw [decide_eq_false (fun z => by injection z with z; simp at z; omega)]
      refine iteF ⟨_, rfl, a, C, dx, _, _, rfl, h1, T.cl, T.nC, cfl_cuts t u, 1, rfl, t, _, _, .int (y : Int), rfl, rfl, SqT.of h2, by rw [ni_app]; exact atI_last _ _, _, rfl, _, _, rfl, rfl, ?_⟩
      have e : M.leaves (r ++ [y]) x = decide (x < (y : Int)) := by
        unfold M.leaves
        rw [decide_eq_false (by simp), Bool.false_or]
        simp
      rw [e] at k
      exact k
def spTurnG : Sp := fun vs H Q _ => ∃ (a : Option Int) (ih : Nat) (t : M.TW), vs = [ansV a, .int (ih : Int), .str (WP.twS t)] ∧ Q (ansV (M.turnG a ih t)) H
theorem scTg : FnScope ["answer", "inner_head", "tells"] ["answer", "inner_head", "tells"] (defScope sTurnG) := ⟨rfl, rfl, rfl, by decide +kernel, rfl, by decide +kernel, by decide +kernel⟩
theorem ok_turng {f : Addr} {fd : FuncData} (F : Fun K "_turned" "_turned" sTurnG f fd) : FnOk P w K mg base CX0 1 f fd ["answer", "inner_head", "tells"] spTurnG := by
  refine F.ok scTg (fun vs H Q E h => ?_) (fun cdv A outer s H vs Q E hr h => ?_)
  · obtain ⟨a, ih, t, rfl, _⟩ := h
    rfl
  · obtain ⟨a, ih, t, rfl, k⟩ := h
    refine ⟨_, pss_cons (ps_if (PW.pt (pw_or (pt_cmp (pc_isN (pv 0))) (pw_or1 (pt_cmpR (op_ne) (pv 2) (pe_str) (nomark _))))) (pss_one (ps_ret (pe_non))) (pss_nil))
      (pss_one (ps_ret (pe_op op_sub (pv 0) (pv 1)))), ?_⟩
    cases a with
    | none => exact ⟨_, rfl, _, rfl, iteT (iteT k)⟩
    | some z =>
      refine ⟨_, rfl, _, rfl, iteF ⟨_, rfl, rfl, _, rfl, ?_⟩⟩
      cases t with
      | turn => exact iteNS rfl ⟨_, rfl, _, rfl, _, _, rfl, rfl, k⟩
      | keep => exact iteNT nks.2.2.2.2.2.2.2.2.1 k
      | lose => exact iteNT nks.2.2.2.2.2.2.2.2.2 k
def spMostG (C : Addr) : Sp := fun vs H Q _ => ∃ (a : Addr) (most : Nat) (cs : List Nat), vs = [.int (most : Int), .ref a] ∧ ChAt C H cs a ∧ Cuts cs ∧ 1 ≤ most ∧ ∀ D xs H', Same H H' → H D = none → H' D = some (.lst xs) → GsAt H' (M.mostG most cs) xs → Q (.ref D) H'
theorem scMg : FnScope ["most", "chain"] ["most", "chain"] (defScope sMostG) := ⟨rfl, rfl, rfl, by decide +kernel, rfl, by decide +kernel, by decide +kernel⟩
theorem ok_mostg {f : Addr} {fd : FuncData} (F : Fun K "_most_gates" "_most_gates" sMostG f fd) (B : Bn mg) (T : Ct K mg C) (DG : Op P w K mg base C 2 "__getitem__" ["self", "at"] (spCGet C)) : FnOk P w K mg base CX0 4 f fd ["most", "chain"] (spMostG C) := by
  obtain ⟨fG', fdG, GG, OG, bG, fG⟩ := DG.ex
  refine F.ok scMg (fun vs H Q E h => ?_) (fun cdv A outer s H vs Q E hr h => ?_)
  · obtain ⟨a, most, cs, rfl, _⟩ := h
    rfl
  · obtain ⟨a, most, cs, rfl, hc, hl, hm, k⟩ := h
    refine ⟨_, pss_cons (ps_if (pt_cmpR (op_eq) (pe_callB call_len_seq (by rfl) B.len PySem.boot_len (pa_cons (pe_fld (pv 1) rfl) pa_nil)) (pe_int) (nomark _)) (pss_one (ps_ret (pe_lst pa_nil))) (pss_nil))
      (pss_one (ps_ret (pe_lst (pa_cons (pe_tup (pa_cons (pe_tup pa_nil) (pa_cons (WO.pe_ixO GG (hr.mono (by decide)) OG fG bG pass0 (pv 1) (pv 0) (fun _ _ => by with_unfolding_all rfl)) (pa_cons (pe_non) pa_nil)))) pa_nil)))), ?_⟩
    obtain ⟨dx, t, u, h1, h2, h3⟩ := id hc
    refine ⟨_, rfl, a, C, dx, _, _, rfl, h1, T.cl, T.nC, cfl_cuts t u, t, _, rfl, .inr (SqT.of h2), rfl, _, rfl, ?_⟩
    rw [ni_len]
    by_cases e : cs = []
    · subst e
      exact iteT ⟨line2.2.2.2, fun D hD => k D [] _ (of_upd hD) hD upd_same .nil⟩
    · have l1 := List.length_pos_iff.mpr e
      rw [decide_eq_false (fun z => by injection z with z; omega)]
      refine iteF ?_
      first | (unfold tNext; dsimp only) | dsimp only | skip
      refine ⟨line2.2.2.2, fun q hq => ⟨_, rfl, _, rfl, a, rfl, ch_isC (hc.mono (of_upd hq)), a, most, cs, rfl, hc.mono (of_upd hq), hl, hm, e, fun G s1 => ⟨line2.2.1, fun t2 ht2 => ⟨line2.2.2.1, fun D hD => ?_⟩⟩⟩⟩
      have g1 := of_upd (o := .tup []) hq
      have g2 := of_upd (o := .tup [V.ref q, .int ((N.B cs most : Nat) : Int), .non]) ht2
      have g3 := of_upd (o := .lst [V.ref t2]) hD
      have gg := (g1.trans s1).trans g2
      refine k D _ _ (gg.trans g3) (gg.free hD) upd_same ?_
      unfold M.mostG
      rw [if_neg e]
      exact .cons ⟨t2, q, rfl, g3 _ _ upd_same, (g2.trans g3) _ _ (s1 _ _ upd_same)⟩ .nil
def spRoadG (C : Addr) : Sp := fun vs H Q _ => ∃ (t a : Addr) (h size : Nat) (se ts : Bool) (lw : M.LW) (cs : List Nat), vs = [.int (h : Int), .ref t, .ref a, .bl se] ∧ H t = some (.tup [.str "road", .int (size : Int), .str (WP.sdS ts), .str (WP.lwS lw)]) ∧ ChAt C H cs a ∧ ∀ D xs H', Same H H' → H D = none → H' D = some (.lst xs) → GsAt H' (M.roadG se h size ts lw cs) xs → Q (.ref D) H'
abbrev NRg : List Str := ["head", "road", "chain", "sealed", "word", "carried"]
theorem scRg : FnScope NRg ["head", "road", "chain", "sealed"] (defScope sRoadG) := ⟨rfl, rfl, rfl, by decide +kernel, rfl, by decide +kernel, by decide +kernel⟩
theorem ok_roadg {f : Addr} {fd : FuncData} (F : Fun K "_road_gates" "_road_gates" sRoadG f fd) (DW : Df P w K mg base 1 "_word" ["road", "sealed"] spWord) (DL : Df P w K mg base 1 "_leaves_more" ["chain", "stretch"] (spLeaves C)) : FnOk P w K mg base CX0 2 f fd ["head", "road", "chain", "sealed"] (spRoadG C) := by
  obtain ⟨fW, fdW, GW, gW, kW, bW⟩ := DW.ex
  obtain ⟨fL, fdL, GL, gL, kL, bL⟩ := DL.ex
  refine F.ok scRg (fun vs H Q E h => ?_) (fun cdv A outer s H vs Q E hr h => ?_)
  · obtain ⟨t, a, h, size, se, ts, lw, cs, rfl, _⟩ := h
    rfl
  · obtain ⟨t, a, h, size, se, ts, lw, cs, rfl, ht, hc, k⟩ := h
    refine ⟨_, pss_cons (ps_set (i := 4) scRg.nd rfl (Or.inl rfl) (pe_call GW (hr.mono (by decide)) rfl gW kW bW .nil pass0 (pa_cons (pv 1) (pa_cons (pv 3) pa_nil))))
      (pss_cons (ps_set (i := 5) scRg.nd rfl (Or.inl rfl) (pe_op op_sub (pe_ix ix_tup (pv 1) (pe_int) (fun _ _ => rfl)) (pv 0)))
      (pss_cons (ps_if (PW.pt (pw_or (pt_cmpR (op_eq) (pv 4) (pe_str) (nomark _)) (pw_or1 (pt_not (pt_val (pe_call GL (hr.mono (by decide)) rfl gL kL bL .nil pass0 (pa_cons (pv 2) (pa_cons (pv 5) pa_nil)))))))) (pss_one (ps_ret (pe_lst pa_nil))) (pss_nil))
      (pss_one (ps_ret (pe_lst (pa_cons (pe_tup (pa_cons (pe_tup pa_nil) (pa_cons (pv 5) (pa_cons (pe_ifExp (pt_cmpR (op_eq) (pv 4) (pe_str) (nomark _)) (pe_ix ix_tup (pv 1) (pe_int) (fun _ _ => rfl)) pe_non) pa_nil)))) pa_nil)))))), ?_⟩
    have i1 : atI [V.str "road", V.int (size : Int), V.str (WP.sdS ts), V.str (WP.lwS lw)] (1 : Int) = some (.int (size : Int)) := by exact atI_nat (j := 1) rfl
    refine set_then (i := 4) ⟨_, rfl, _, rfl, t, se, ts, lw, size, rfl, ht, ?_⟩
    refine set_then (i := 5) ⟨_, rfl, t, _, _, _, rfl, rfl, SqT.of ht, i1, _, rfl, _, _, rfl, rfl, ?_⟩
    refine ⟨_, rfl, rfl, _, rfl, ?_⟩
    rw [word_cut]
    have nil_ : M.roadG se h size ts lw cs = [] → tRet (tLst tNil) { nx := fun _ H' => Q .non H', rt := Q } [some (.int (h : Int)), some (.ref t), some (.ref a), some (.bl se), some (.str (wordS se ts lw)), some (.int ((size : Int) - (h : Int)))] H := fun e =>
      ⟨line2.2.2.2, fun D hD => k D [] _ (of_upd hD) hD upd_same (by rw [e]; exact .nil)⟩
    by_cases c1 : se = false ∧ lw = .cut
    · rw [decide_eq_true c1]
      exact iteT (iteT (nil_ (by unfold M.roadG; rw [if_pos (.inl c1)])))
    · rw [decide_eq_false c1]
      refine iteF ⟨_, rfl, _, rfl, a, (size : Int) - (h : Int), cs, rfl, hc, _, rfl, ?_⟩
      cases c2 : M.leaves cs ((size : Int) - (h : Int)) with
      | false => exact iteT (nil_ (by unfold M.roadG; rw [if_pos (.inr c2)]))
      | true =>
        refine iteF ?_
        first | (unfold tNext; dsimp only) | dsimp only | skip
        have fin : ∀ (q : Addr) (ans : Option Int) (G : Hp), Same H G → G q = some (.tup []) → ans = (if (se = true ∧ ts = true) ∨ (se = false ∧ lw = .tell) then some (size : Int) else none) → ∀ t2, G t2 = none → ∀ D, (upd G t2 (.tup [.ref q, .int ((size : Int) - (h : Int)), ansV ans])) D = none → Q (.ref D) (upd (upd G t2 (.tup [.ref q, .int ((size : Int) - (h : Int)), ansV ans])) D (.lst [.ref t2])) := fun q ans G s1 hq ea t2 ht2 D hD => by
          have g2 := of_upd (o := .tup [V.ref q, .int ((size : Int) - (h : Int)), ansV ans]) ht2
          have g3 := of_upd (o := .lst [V.ref t2]) hD
          refine k D _ _ ((s1.trans g2).trans g3) ((s1.trans g2).free hD) upd_same ?_
          unfold M.roadG
          rw [if_neg (by rintro (z | z); exact c1 z; rw [c2] at z; cases z)]
          subst ea
          exact .cons ⟨t2, q, rfl, g3 _ _ upd_same, (g2.trans g3) _ _ hq⟩ .nil
        refine ⟨line2.2.2.2, fun q hq => ⟨_, rfl, _, rfl, rfl, _, rfl, ?_⟩⟩
        rw [word_tell]
        by_cases c3 : (se = true ∧ ts = true) ∨ (se = false ∧ lw = .tell)
        · rw [decide_eq_true c3]
          exact iteT ⟨_, rfl, t, _, _, _, rfl, rfl, SqT.of ((of_upd hq) _ _ ht), i1, line2.2.1, fun t2 ht2 => ⟨line2.2.2.1, fun D hD => fin q (some (size : Int)) _ (of_upd hq) upd_same (by rw [if_pos c3]) t2 ht2 D hD⟩⟩
        · rw [decide_eq_false c3]
          exact iteF ⟨line2.2.1, fun t2 ht2 => ⟨line2.2.2.1, fun D hD => fin q none _ (of_upd hq) upd_same (by rw [if_neg c3]) t2 ht2 D hD⟩⟩
end
end CP

end
section
set_option autoImplicit false
set_option Elab.async false
set_option linter.all false
set_option maxRecDepth 100000
set_option maxHeartbeats 4000000
/-! ## chains_before -/
namespace WP
open PySem L2 G
variable {C : Addr}
theorem head_fld {H : Hp} {wy : M.Way} {a : Addr} (h : WayAt C H wy a) : ∃ dx fs, H a = some (.ins C dx fs) ∧ fs.lookup ("head" : Str) = some (.int ((wy.head : Nat) : Int)) := by
  obtain ⟨wh, ws⟩ := wy
  unfold WayAt at h
  obtain ⟨dx, t, xs, h1, _, _⟩ := h
  exact ⟨dx, _, h1, flds_head _ _ _ _⟩
theorem steps_fld {H : Hp} {wy : M.Way} {a : Addr} (h : WayAt C H wy a) : ∃ dx fs t xs, H a = some (.ins C dx fs) ∧ fs.lookup ("steps" : Str) = some (.ref t) ∧ H t = some (.tup xs) ∧ StepsAt C H wy.steps xs := by
  obtain ⟨wh, ws⟩ := wy
  unfold WayAt at h
  obtain ⟨dx, t, xs, h1, h2, h3⟩ := h
  exact ⟨dx, _, t, xs, h1, flds_steps _ _ _ _, h2, h3⟩
end WP
namespace CP
open PySem L2 G Y
theorem if_then {c : TT} {t1 t2 t3 : TS} {D : Ends} {σ : L2.St} {H : Hp} (Z : L2.St → Hp → Prop) (k : ∀ σ' H', Z σ' H' → t3 D σ' H') (h : (∀ σ' H', Z σ' H' → t3 D σ' H') → tIfS c t1 t2 { D with nx := fun σ' H' => t3 D σ' H' } σ H) : tSeq (tIfS c t1 t2) t3 D σ H := h k
section
variable {P : Program} {w : World} {K : PySem.W.Frag} {mg : Str → Option Value} {base : Heap} {C CW : Addr}
def spChB (C CW : Addr) : Sp := fun vs H Q _ => ∃ (a : Addr) (se : Bool) (wy : M.Way), vs = [.ref a, .bl se] ∧ WP.WayAt CW H wy a ∧ M.Way.fine wy ∧ ∀ D xs H', Same H H' → H D = none → H' D = some (.lst xs) → CsAt C H' (M.chB se wy.head wy.steps []) xs → Q (.ref D) H'
abbrev NCb : List Str := ["way", "sealed", "chain", "chains", "step"]
theorem scCb : FnScope NCb ["way", "sealed"] (defScope sChB) := ⟨rfl, rfl, rfl, by decide +kernel, rfl, by decide +kernel, by decide +kernel⟩
theorem cuts0 : Cuts [] := ⟨trivial, by simp, by simp⟩
theorem ok_chb {f : Addr} {fd : FuncData} {sfC : PySem.W.selfFirst K C = true} (F : Fun K "chains_before" "chains_before" sChB f fd) (T : Ct K mg C) (TW : WP.Wt K mg CW) (MW : Mw P w K mg base C) (DA : Oq P w K mg base C 6 "__add__" ["self", "other"] (spCAdd C)) (DW : Df P w K mg base 1 "_word" ["road", "sealed"] spWord) : FnOk P w K mg base CX0 7 f fd ["way", "sealed"] (spChB C CW) := by
  obtain ⟨fI, fdI, GI, MK, bI⟩ := MW.ex
  obtain ⟨fA, fdA, GA, OA, bA⟩ := DA.ex
  obtain ⟨fW, fdW, GW, gW, kW, bW⟩ := DW.ex
  refine F.ok scCb (fun vs H Q E h => ?_) (fun cdv A outer s H vs Q E hr h => ?_)
  · obtain ⟨a, se, wy, rfl, _⟩ := h
    rfl
  · obtain ⟨a, se, wy, rfl, hw, hf, k⟩ := h
    refine ⟨_, pss_cons (ps_set (i := 2) scCb.nd rfl (Or.inl rfl) (pe_make MK GI (hr.mono (by decide)) rfl T.g bI .nil pass0 (pa_cons (pe_tup pa_nil) pa_nil)))
      (pss_cons (ps_set (i := 3) scCb.nd rfl (Or.inl rfl) (pe_lst (pa_cons (pv 2) pa_nil)))
      (pss_cons (ps_for PassesOwn.never rfl (pi_tup (pe_fld (pv 0) rfl)) (pg_name (i := 4) scCb.nd rfl (Or.inl rfl)) (pss_cons (ps_if (pt_cmpR (op_eq) (pe_ix ix_tup (pv 4) (pe_int) (fun _ _ => rfl)) (pe_str) (nomark _)) (pss_one (ps_set (i := 2) scCb.nd rfl (Or.inl rfl) (pe_make MK GI (hr.mono (by decide)) rfl T.g bI .nil pass0 (pa_cons (pe_tup pa_nil) pa_nil)))) (pss_one (ps_if (PW.pt (pw_and (pt_cmpR (op_eq) (pe_ix ix_tup (pv 4) (pe_int) (fun _ _ => rfl)) (pe_str) (nomark _)) (pw_and1 (pt_cmpR (op_eq) (pe_call GW (hr.mono (by decide)) rfl gW kW bW .nil pass0 (pa_cons (pv 4) (pa_cons (pv 1) pa_nil))) (pe_str) (nomark _))))) (pss_one (ps_set (i := 2) scCb.nd rfl (Or.inl rfl) (pe_op (WO.op_addO GA (hr.mono (by decide)) OA sfC bA pass0) (pv 2) (pe_make MK GI (hr.mono (by decide)) rfl T.g bI .nil pass0 (pa_cons (pe_tup (pa_cons (pe_op op_sub (pe_ix ix_tup (pv 4) (pe_int) (fun _ _ => rfl)) (pe_fld (pv 0) rfl)) pa_nil)) pa_nil))))) (pss_nil))))
      (pss_one (ps_expr (pe_bm PySem.F.plainAttrs_list PySem.F.slot_list_append PySem.F.type_list_append mt_append (pv 3) (pa_cons (pv 2) pa_nil))))))
      (pss_one (ps_ret (pv 3))))), ?_⟩
    obtain ⟨dx, fs, t0, xs0, w1, w2, w3, w4⟩ := WP.steps_fld hw
    obtain ⟨dh, fh, v1, v2⟩ := WP.head_fld hw
    obtain ⟨wh, sts⟩ := wy
    unfold M.Way.fine at hf
    obtain ⟨hh, hl, hall, hdd, hzz⟩ := hf
    have il : xs0.length = sts.length := w4.len
    refine set_then (i := 2) ⟨line2.2.2.2, fun e0 f0 => fun x dx' hx hdx ne => made_ch (cs := []) hx hdx ne (.inr upd_same) cuts0 fun G1 s1 hc => ⟨rfl, ?_⟩⟩
    have s2 := (of_upd (o := .tup []) f0).trans s1
    refine set_then (i := 3) ⟨_, rfl, line2.2.2.1, fun D hD => ?_⟩
    have g := of_upd (o := .lst [V.ref x]) hD
    have s3 := s2.trans g
    have hD0 := s2.free hD
    refine ⟨_, rfl, a, CW, dx, fs, _, rfl, s3 _ _ w1, TW.cl, TW.nS, w2, t0, rfl, ⟨_, SqT.of (s3 _ _ w3)⟩, ?_⟩
    refine for_it walk_tup (fun i σ G => Same H G ∧ ∃ (cx : Addr) (xs : List V) (q4 : Option V), σ = [some (.ref a), some (.bl se), some (.ref cx), some (.ref D), q4] ∧ ChAt C G (M.chE se wh (sts.take i) []) cx ∧ G D = some (.lst xs) ∧ CsAt C G ((M.chB se wh sts []).take (i + 1)) xs)
      ⟨s3, x, [.ref x], _, rfl, hc.mono g, upd_same, ?_⟩ (fun i σ G _ z => SqT.of (z.1 _ _ w3)) ?_ ?_
    · rw [take_snoc (M.chB_at se wh sts [] 0 (Nat.zero_le _))]
      exact .cons (hc.mono g) .nil
    · rintro i v σ G G' hi ⟨s4, cx, xs, q4, rfl, hcx, hx4, hcs⟩ ⟨rfl, hx⟩
      obtain ⟨st, hst, hat⟩ := w4.get hx
      replace hst : sts[i]? = some st := hst
      have hi2 := (List.getElem?_eq_some_iff.mp hst).1
      have hfs := WP.fine_get hall hst
      have ckE : M.Ck (M.chE se wh (sts.take i) []) := M.ck_all M.ck_nil (M.fine_take i hall)
      have eN : M.chE se wh (sts.take (i + 1)) [] = M.nxC se wh (M.chE se wh (sts.take i) []) st := by
        rw [take_snoc hst, M.chE_snoc]
      have ckN := M.ck_nx (se := se) ckE hfs
      have ln := M.chE_len (se := se) (h := wh) (sts.take i) []
      have lxs := hcs.len
      rw [List.length_take, M.chB_len] at lxs
      replace hat := hat.mono s4
      first | dsimp only | skip
      refine if_then (fun σ' G' => Same H G' ∧ ∃ (cx : Addr), σ' = [some (.ref a), some (.bl se), some (.ref cx), some (.ref D), some v] ∧ ChAt C G' (M.chE se wh (sts.take (i + 1)) []) cx ∧ G' D = some (.lst xs) ∧ CsAt C G' ((M.chB se wh sts []).take (i + 1)) xs) ?rest (fun kk => ?_)
      case rest =>
        rintro σ' G' ⟨s5, cx', rfl, hcx', hx5, hcs5⟩
        have kp := put_keepT (o := .lst (xs ++ [.ref cx'])) hx5
        refine ⟨_, rfl, .inl ⟨rfl, _, SqL.of hx5⟩, _, rfl, D, _, _, rfl, rfl, hx5, small1000 (by omega), add_upd hD0 s5, cx', _, _, rfl, hcx'.keep kp, upd_same, ?_⟩
        rw [take_snoc (M.chB_at se wh sts [] (i + 1) hi2)]
        exact (hcs5.keep kp).snoc (hcx'.keep kp)
      generalize M.chE se wh (sts.take i) [] = cs at hcx ckE ckN eN ln
      have kq : ∀ {cs2 : List Nat} {Gq : Hp} {b : Addr}, M.nxC se wh cs st = cs2 → ChAt C Gq cs2 b → ChAt C Gq (M.chE se wh (sts.take (i + 1)) []) b := by
        intro cs2 Gq b e h
        rw [eN, e]
        exact h
      have z0 : ∀ {y0 : V} {ys : List V}, atI (y0 :: ys) (0 : Int) = some y0 := fun {y0 ys} => by exact atI_nat (xs := y0 :: ys) (j := 0) rfl
      cases st with
      | join most =>
        unfold WP.StepAt at hat
        obtain ⟨t, rfl, ht⟩ := hat
        refine ⟨_, rfl, t, _, _, _, rfl, rfl, SqT.of ht, z0, rfl, _, rfl, ?_⟩
        rw [decide_eq_true rfl]
        refine iteT ⟨line2.2.2.2, fun e1 f1 => fun x1 dx1 hx1 hdx1 ne1 => made_ch (cs := []) hx1 hdx1 ne1 (.inr upd_same) cuts0 fun G5 s5 hc5 => ⟨rfl, ?_⟩⟩
        have s6 := (of_upd (o := .tup []) f1).trans s5
        exact kk _ _ ⟨s4.trans s6, x1, rfl, kq rfl hc5, s6 _ _ hx4, hcs.mono s6⟩
      | tunnel wi most tw =>
        unfold WP.StepAt at hat
        obtain ⟨t, ai, rfl, ht, _⟩ := hat
        refine ⟨_, rfl, t, _, _, _, rfl, rfl, SqT.of ht, z0, rfl, _, rfl, ?_⟩
        rw [decide_eq_false nks.2.2.2.2.2.1]
        refine iteF ⟨_, rfl, t, _, _, _, rfl, rfl, SqT.of ht, z0, rfl, _, rfl, ?_⟩
        rw [decide_eq_false nks.2.2.2.2.2.2.1]
        exact iteF (iteF (kk _ _ ⟨s4, cx, rfl, kq rfl hcx, hx4, hcs⟩))
      | road size ts lw =>
        unfold WP.StepAt at hat
        unfold M.Step.fine at hfs
        obtain ⟨t, rfl, ht⟩ := hat
        refine ⟨_, rfl, t, _, _, _, rfl, rfl, SqT.of ht, z0, rfl, _, rfl, ?_⟩
        rw [decide_eq_false nks.2.2.2.2.1]
        refine iteF ⟨_, rfl, t, _, _, _, rfl, rfl, SqT.of ht, z0, rfl, _, rfl, ?_⟩
        rw [decide_eq_true rfl]
        refine iteT ⟨_, rfl, _, rfl, t, se, ts, lw, size, rfl, ht, rfl, _, rfl, ?_⟩
        rw [word_cut]
        by_cases c : se = false ∧ lw = .cut
        · rw [decide_eq_true c]
          have en : M.nxC se wh cs (.road size ts lw) = N.add cs [size - wh] := by
            unfold M.nxC
            dsimp only
            rw [if_pos c]
          rw [en] at ckN
          have c1 : Cuts [size - wh] := ⟨⟨by omega, (fun d hd => by cases hd), trivial⟩, fun d hd => by rw [List.mem_singleton.mp hd]; omega, by simp⟩
          have i1 : atI [V.str "road", V.int (size : Int), V.str (WP.sdS ts), V.str (WP.lwS lw)] (1 : Int) = some (.int (size : Int)) := by exact atI_nat (j := 1) rfl
          have et : [V.int ((size : Int) - (wh : Int))] = ni [size - wh] := by
            show _ = [V.int ((size - wh : Nat) : Int)]
            rw [show ((size - wh : Nat) : Int) = (size : Int) - (wh : Int) by omega]
          refine iteT ⟨_, rfl, _, rfl, t, _, _, _, rfl, rfl, SqT.of ht, i1, _, rfl, a, CW, dh, fh, _, rfl, s4 _ _ v1, TW.cl, TW.nH, v2, _, _, rfl, rfl, line2.2.2.1, fun e1 f1 => fun x1 dx1 hx1 hdx1 ne1 => made_ch (cs := [size - wh]) hx1 hdx1 ne1 (.inr (by rw [← et]; exact upd_same)) c1 fun G5 s5 hc5 => ⟨rfl, ?_⟩⟩
          have s6 := (of_upd (o := .tup [V.int ((size : Int) - (wh : Int))]) f1).trans s5
          have hcx6 := hcx.mono s6
          refine ⟨cx, x1, rfl, rfl, ch_isC hcx6, ch_isC hc5, cx, x1, cs, [size - wh], rfl, hcx6, hc5, ck_cuts ckE, c1, ?_, fun x2 G6 s7 hc6 => ⟨x2, rfl, kk _ _ ⟨(s4.trans s6).trans s7, x2, rfl, kq en hc6, (s6.trans s7) _ _ hx4, hcs.mono (s6.trans s7)⟩⟩⟩
          have := List.length_take_le i sts
          simp at ln
          show cs.length + 1 ≤ 1000
          omega
        · rw [decide_eq_false c]
          have en : M.nxC se wh cs (.road size ts lw) = cs := by
            unfold M.nxC
            dsimp only
            rw [if_neg c]
          exact iteF (kk _ _ ⟨s4, cx, rfl, kq en hcx, hx4, hcs⟩)
    · rintro σ G ⟨s4, cx, xs, q4, rfl, hcx, hx4, hcs⟩
      rw [il, List.take_of_length_le (by rw [M.chB_len]; exact Nat.le_refl _)] at hcs
      exact ⟨_, rfl, k D xs G s4 hD0 hx4 hcs⟩
end
end CP

end
section
set_option autoImplicit false
set_option Elab.async false
set_option linter.all false
set_option maxRecDepth 100000
set_option maxHeartbeats 4000000
/-! ## gates, by depth -/
namespace M
def Step.dep : Step → Nat
  | .tunnel w _ _ => w.depth
  | .road _ _ _ => 0
  | .join _ => 0
theorem deep_cons : ∀ (s : Step) (r : List Step), Step.deepest (s :: r) = max (Step.dep s) (Step.deepest r)
  | .tunnel w a b, r => by
    conv => lhs; unfold Step.deepest
    rfl
  | .road a b c, r => by
    conv => lhs; unfold Step.deepest
    exact (Nat.zero_max _).symm
  | .join a, r => by
    conv => lhs; unfold Step.deepest
    exact (Nat.zero_max _).symm
theorem dep_le : ∀ {s : List Step} {i : Nat} {x : Step}, s[i]? = some x → Step.dep x ≤ Step.deepest s
  | [], i, x, h => by cases h
  | y :: r, 0, x, h => by
    have e : y = x := Option.some.inj h
    rw [deep_cons, e]
    omega
  | y :: r, i + 1, x, h => by
    have := dep_le (s := r) (i := i) (x := x) h
    rw [deep_cons]
    omega
theorem depth_pos (wy : Way) : 1 ≤ wy.depth := by
  obtain ⟨h, s⟩ := wy
  unfold Way.depth
  omega
theorem tun_app (h ih : Nat) (t : TW) (cs : List Nat) (l m : List Gate) : tunG h ih t cs (l ++ m) = tunG h ih t cs l ++ tunG h ih t cs m := by
  unfold tunG
  rw [List.flatMap_append]
theorem chB_last (se : Bool) (h : Nat) : ∀ (s : List Step) (cs : List Nat), ∃ X, chB se h s cs = X ++ [chE se h s cs]
  | [], cs => ⟨[], rfl⟩
  | x :: s, cs => by
    obtain ⟨X, e⟩ := chB_last se h s (nxC se h cs x)
    exact ⟨cs :: X, by show cs :: chB se h s (nxC se h cs x) = _; rw [e]; rfl⟩
theorem tun_mem {h ih : Nat} {t : TW} {cs : List Nat} {l : List Gate} {g : Gate} (m : g ∈ tunG h ih t cs l) : ∃ g0 ∈ l, g.place = g0.place := by
  unfold tunG at m
  obtain ⟨g0, h0, h1⟩ := List.mem_flatMap.mp m
  unfold tunG1 at h1
  split at h1
  · exact ⟨g0, h0, by rw [List.mem_singleton.mp h1]⟩
  · cases h1
theorem most_mem {m : Nat} {cs : List Nat} {g : Gate} (h : g ∈ mostG m cs) : g.place = [] := by
  unfold mostG at h
  split at h
  · cases h
  · rw [List.mem_singleton.mp h]
theorem road_mem {se : Bool} {h size : Nat} {ts : Bool} {lw : LW} {cs : List Nat} {g : Gate} (m : g ∈ roadG se h size ts lw cs) : g.place = [] := by
  unfold roadG at m
  split at m
  · cases m
  · rw [List.mem_singleton.mp m]
mutual
theorem Way.plen (se : Bool) : ∀ (w : Way), ∀ g ∈ Way.gates se w, g.place.length ≤ w.depth
  | .mk h s, g, m => by
    unfold Way.gates at m
    unfold Way.depth
    exact Step.plenAll se h s 0 [] g m
theorem Step.plenAll (se : Bool) (h : Nat) : ∀ (s : List Step) (i : Nat) (cs : List Nat), ∀ g ∈ Step.gatesAll se h s i cs, g.place.length ≤ 1 + Step.deepest s
  | [], i, cs, g, m => by
    unfold Step.gatesAll at m
    cases m
  | s :: r, i, cs, g, m => by
    rw [gatesAll_cons] at m
    rw [deep_cons]
    rcases List.mem_append.mp m with m | m
    · obtain ⟨g0, m0, rfl⟩ := List.mem_map.mp m
      have := Step.plen se h s cs g0 m0
      show g0.place.length + 1 ≤ _
      omega
    · have := Step.plenAll se h r (i + 1) _ g m
      omega
theorem Step.plen (se : Bool) (h : Nat) : ∀ (s : Step) (cs : List Nat), ∀ g ∈ Step.gates se h s cs, g.place.length ≤ Step.dep s
  | .road size ts lw, cs, g, m => by
    unfold Step.gates at m
    rw [road_mem m]
    exact Nat.zero_le _
  | .join most, cs, g, m => by
    unfold Step.gates at m
    rw [most_mem m]
    exact Nat.zero_le _
  | .tunnel w most t, cs, g, m => by
    unfold Step.gates at m
    obtain ⟨g0, m0, e⟩ := tun_mem m
    rw [e]
    unfold Step.dep
    rcases List.mem_append.mp m0 with m0 | m0
    · exact Way.plen se w g0 m0
    · rw [most_mem m0]
      exact Nat.zero_le _
end
end M
namespace CP
open PySem L2 G Y
abbrev sTunG : Stmt := S.top 34
abbrev sGAt : Stmt := S.top 30
abbrev sGates : Stmt := S.top 26
section
variable {α : Type}
def g11 : List α → List α → List α
  | [a], [c] => [a, c]
  | _, _ => []
end
theorem rel11 {vs : List V} {us : List Value} {zs : List V} {ws : List Value} (r : Vals vs us) (rz : Vals zs ws) : Vals (g11 vs zs) (g11 us ws) := by
  cases r with
  | nil => exact .nil
  | cons r1 r => cases r with
    | nil => cases rz with
      | nil => exact .nil
      | cons z1 rz => cases rz with
        | nil => exact .cons r1 (.cons z1 .nil)
        | cons _ _ => exact .nil
    | cons _ _ => cases rz <;> exact .nil
theorem CsAt.last {C : Addr} {H : Hp} {c : List Nat} : ∀ {l : List (List Nat)} {xs : List V}, CsAt C H (l ++ [c]) xs → ∃ r a, xs = r ++ [.ref a] ∧ ChAt C H c a
  | [], xs, h => by
    cases h with
    | cons e h2 =>
      cases h2
      exact ⟨[], _, rfl, e⟩
  | x :: l, xs, h => by
    cases h with
    | cons e h2 =>
      obtain ⟨r, a, rfl, h3⟩ := CsAt.last (l := l) h2
      exact ⟨_ :: r, a, rfl, h3⟩
section
variable {P : Program} {w : World} {K : PySem.W.Frag} {mg : Str → Option Value} {base : Heap} {C CW : Addr}
/-- a def called with one argument and one keyword -/
structure Dg (P : Program) (w : World) (K : PySem.W.Frag) (mg : Str → Option Value) (base : Heap) (k : Nat) (x : Str) (ps ks : List Str) (sp : Sp) : Prop where
  ex : ∃ (f : Addr) (fd : FuncData), FnOk P w K mg base CX0 k f fd ps sp ∧ mg x = some (.ref f) ∧ PySem.W.keepIn K (.ref f) = true ∧ KBinds K fd ps ks g11 g11
def spGates (CW : Addr) (n : Nat) : Sp := fun vs H Q _ => ∃ (a : Addr) (se : Bool) (wy : M.Way), vs = [.ref a, .bl se] ∧ WP.WayAt CW H wy a ∧ M.Way.fine wy ∧ wy.depth ≤ n ∧ ∀ D xs H', Same H H' → H D = none → H' D = some (.lst xs) → GsAt H' (M.Way.gates se wy) xs → Q (.ref D) H'
def spTunG (C CW : Addr) (n : Nat) : Sp := fun vs H Q _ => ∃ (t a ai : Addr) (h : Nat) (se : Bool) (wi : M.Way) (most : Nat) (tw : M.TW) (cs : List Nat), vs = [.int (h : Int), .ref t, .ref a, .bl se] ∧ H t = some (.tup [.str "tunnel", .ref ai, .int (most : Int), .str (WP.twS tw)]) ∧ ChAt C H cs a ∧ WP.WayAt CW H wi ai ∧ M.Way.fine wi ∧ wi.depth ≤ n ∧ 1 ≤ most ∧
  ∀ D xs H', Same H H' → H D = none → H' D = some (.lst xs) → GsAt H' (M.tunG h wi.head tw cs (M.Way.gates se wi ++ M.mostG most (M.chE se wi.head wi.steps []))) xs → Q (.ref D) H'
def spGsAt (C CW : Addr) (n : Nat) : Sp := fun vs H Q _ => ∃ (v : V) (a : Addr) (h : Nat) (se : Bool) (st : M.Step) (cs : List Nat), vs = [.int (h : Int), v, .ref a, .bl se] ∧ WP.StepAt CW H st v ∧ M.Step.fine h st ∧ M.Step.dep st ≤ n ∧ ChAt C H cs a ∧ Cuts cs ∧
  ∀ D xs H', Same H H' → H D = none → H' D = some (.lst xs) → GsAt H' (M.Step.gates se h st cs) xs → Q (.ref D) H'
abbrev NTn : List Str := ["head", "tunnel", "chain", "sealed", "_", "inner", "most", "tells", "inside", "found", "place", "threshold", "answer", "stretch"]
theorem scTn : FnScope NTn ["head", "tunnel", "chain", "sealed"] (defScope sTunG) := ⟨rfl, rfl, rfl, by decide +kernel, rfl, by decide +kernel, by decide +kernel⟩
theorem fine_all {wy : M.Way} (h : wy.fine) : M.Step.fineAll wy.head wy.steps ∧ wy.steps.length ≤ 12 ∧ wy.size ≤ 40 := by
  obtain ⟨wh, s⟩ := wy
  unfold M.Way.fine at h
  refine ⟨h.2.2.1, h.2.1.2, ?_⟩
  unfold M.Way.size
  exact h.2.2.2.2
theorem ok_tung {k n : Nat} {f : Addr} {fd : FuncData} (F : Fun K "_tunnel_gates" "_tunnel_gates" sTunG f fd) (hk : 8 ≤ k) (B : Bn mg) (TW : WP.Wt K mg CW) (nP : ∃ t, mg "NOTHING_PASSES" = some (.int (-1) t)) (DW : Dg P w K mg base k "gates" ["way", "sealed"] ["sealed"] (spGates CW n)) (DM : Df P w K mg base 4 "_most_gates" ["most", "chain"] (spMostG C))
    (DC : Df P w K mg base 7 "chains_before" ["way", "sealed"] (spChB C CW)) (DL : Df P w K mg base 1 "_leaves_more" ["chain", "stretch"] (spLeaves C)) (DT : Df P w K mg base 1 "_turned" ["answer", "inner_head", "tells"] spTurnG) : FnOk P w K mg base CX0 (k + 1) f fd ["head", "tunnel", "chain", "sealed"] (spTunG C CW n) := by
  obtain ⟨fW, fdW, GW, gW, kW, bW⟩ := DW.ex
  obtain ⟨fM, fdM, GM, gM, kM, bM⟩ := DM.ex
  obtain ⟨fC, fdC, GC, gC, kC, bC⟩ := DC.ex
  obtain ⟨fL, fdL, GL, gL, kL, bL⟩ := DL.ex
  obtain ⟨fT, fdT, GT, gT, kT, bT⟩ := DT.ex
  obtain ⟨tnP, nP⟩ := nP
  refine F.ok scTn (fun vs H Q E h => ?_) (fun cdv A outer s H vs Q E hr h => ?_)
  · obtain ⟨t, a, ai, h, se, wi, most, tw, cs, rfl, _⟩ := h
    rfl
  · obtain ⟨t, a, ai, h, se, wi, most, tw, cs, rfl, ht, hc, hw, hf, hd, hm, kk⟩ := h
    refine ⟨_, pss_cons (ps_asg (pv 1) (pg_tup (by rfl) (pgs_cons (pg_name (i := 4) scTn.nd rfl (Or.inl rfl)) (pgs_cons (pg_name (i := 5) scTn.nd rfl (Or.inl rfl)) (pgs_cons (pg_name (i := 6) scTn.nd rfl (Or.inl rfl)) (pgs_cons (pg_name (i := 7) scTn.nd rfl (Or.inl rfl)) pgs_nil))))))
      (pss_cons (ps_set (i := 8) scTn.nd rfl (Or.inl rfl) (pe_op op_cat (pe_callK GW (hr.mono (by omega)) rfl gW kW bW pass0 (pa_cons (pv 5) pa_nil) (pk_cons (pv 3) pk_nil)) (pe_call GM (hr.mono (by omega)) rfl gM kM bM .nil pass0 (pa_cons (pv 6) (pa_cons (pe_ix ix_list (pe_call GC (hr.mono (by omega)) rfl gC kC bC .nil pass0 (pa_cons (pv 5) (pa_cons (pv 3) pa_nil))) (pe_un un_neg pe_int) (fun _ _ => rfl)) pa_nil)))))
      (pss_cons (ps_set (i := 9) scTn.nd rfl (Or.inl rfl) (pe_lst pa_nil))
      (pss_cons (ps_for PassesOwn.never rfl (pi_list (pv 8)) (pg_tup (by rfl) (pgs_cons (pg_name (i := 10) scTn.nd rfl (Or.inl rfl)) (pgs_cons (pg_name (i := 11) scTn.nd rfl (Or.inl rfl)) (pgs_cons (pg_name (i := 12) scTn.nd rfl (Or.inl rfl)) pgs_nil)))) (pss_cons (ps_set (i := 13) scTn.nd rfl (Or.inl rfl) (pe_op op_sub (pv 11) (pv 0)))
      (pss_one (ps_if (pt_val (pe_call GL (hr.mono (by omega)) rfl gL kL bL .nil pass0 (pa_cons (pv 2) (pa_cons (pv 13) pa_nil)))) (pss_one (ps_expr (pe_bm PySem.F.plainAttrs_list PySem.F.slot_list_append PySem.F.type_list_append mt_append (pv 9) (pa_cons (pe_tup (pa_cons (pv 10) (pa_cons (pe_callB (call_max2 rfl) (by rfl) B.max (by decide +kernel) (pa_cons (pv 13) (pa_cons (pe_glob (v := .int (-1)) rfl nP ⟨_, rfl⟩) pa_nil))) (pa_cons (pe_call GT (hr.mono (by omega)) rfl gT kT bT .nil pass0 (pa_cons (pv 12) (pa_cons (pe_fld (pv 5) rfl) (pa_cons (pv 7) pa_nil)))) pa_nil)))) pa_nil)))) (pss_nil)))))
      (pss_one (ps_ret (pv 9)))))), ?_⟩
    obtain ⟨dh, fh, v1, v2⟩ := WP.head_fld hw
    obtain ⟨fa, fl, fz⟩ := fine_all hf
    have ckE : M.Ck (M.chE se wi.head wi.steps []) := M.ck_all M.ck_nil fa
    refine ⟨_, rfl, t, _, rfl, SqT.of ht, rfl, _, _, rfl, _, _, rfl, _, _, rfl, _, _, rfl, rfl, ?_⟩
    dsimp only
    refine set_then (i := 8) ⟨_, rfl, _, rfl, ai, se, wi, rfl, hw, hf, hd, fun D1 xs1 H1 s1 n1 e1 g1 => ?_⟩
    refine ⟨_, rfl, _, rfl, _, rfl, ai, se, wi, rfl, hw.mono s1, hf, fun D2 xs2 H2 s2 n2 e2 g2 => ?_⟩
    obtain ⟨X, eX⟩ := M.chB_last se wi.head wi.steps []
    rw [eX] at g2
    obtain ⟨r2, a2, rfl, hc2⟩ := g2.last
    refine ⟨_, rfl, D2, _, _, _, rfl, rfl, SqL.of e2, atI_last _ _, ?_⟩
    refine ⟨a2, most, _, rfl, hc2, ck_cuts ckE, hm, fun D3 xs3 H3 s3 n3 e3 g3 => ?_⟩
    have s13 := s2.trans s3
    have l1 := g1.len
    have l3 := g3.len
    have m1 := M.Way.gates_len se wi
    have m3 := M.most_len most (M.chE se wi.head wi.steps [])
    refine ⟨D1, D3, xs1, xs3, rfl, rfl, s13 _ _ e1, e3, Nat.le_trans (show xs1.length + xs3.length ≤ 1000 by omega) (by decide), fun D4 n4 => ?_⟩
    have s4 := of_upd (o := .lst (xs1 ++ xs3)) n4
    have s14 := s13.trans s4
    have s04 := s1.trans s14
    have gA : GsAt (upd H3 D4 (.lst (xs1 ++ xs3))) (M.Way.gates se wi ++ M.mostG most (M.chE se wi.head wi.steps [])) (xs1 ++ xs3) := (g1.mono s14).app (g3.mono s4)
    have lA : (M.Way.gates se wi ++ M.mostG most (M.chE se wi.head wi.steps [])).length ≤ 81 := by
      rw [List.length_append]
      omega
    have lX : (xs1 ++ xs3).length = (M.Way.gates se wi ++ M.mostG most (M.chE se wi.head wi.steps [])).length := gA.len
    generalize M.Way.gates se wi ++ M.mostG most (M.chE se wi.head wi.steps []) = gs at gA kk lA lX
    generalize xs1 ++ xs3 = xs at s4 s14 s04 gA lX
    have eI : upd H3 D4 (.lst xs) D4 = some (.lst xs) := upd_same
    generalize upd H3 D4 (.lst xs) = H4 at s4 s14 s04 gA eI
    refine set_then (i := 9) ⟨line2.2.2.2, fun D hD => ?_⟩
    have nD : H D = none := s04.free hD
    have nE : D4 ≠ D := fun z => by
      rw [z, hD] at eI
      cases eI
    have s5 := of_upd (o := .lst []) hD
    refine ⟨_, rfl, D4, rfl, ⟨_, SqL.of (s5 _ _ eI)⟩, ?_⟩
    refine for_it walk_list (fun i σ G => Same H G ∧ G D4 = some (.lst xs) ∧ GsAt G gs xs ∧ ∃ (ys : List V) (p q r o : Option V), σ = [some (.int (h : Int)), some (.ref t), some (.ref a), some (.bl se), some (.str "tunnel"), some (.ref ai), some (.int (most : Int)), some (.str (WP.twS tw)), some (.ref D4), some (.ref D), p, q, r, o] ∧ G D = some (.lst ys) ∧ GsAt G (M.tunG h wi.head tw cs (gs.take i)) ys)
      ⟨s04.trans s5, s5 _ _ eI, gA.mono s5, [], _, _, _, _, rfl, upd_same, .nil⟩ (fun i σ G _ z => SqL.of z.2.1) ?_ ?_
    · rintro i v σ G G' hi ⟨s6, e6, gG, ys, p, q, r, o, rfl, eD, gD⟩ ⟨rfl, hx⟩
      obtain ⟨g, hg, t1, q1, rfl, f1, f2⟩ := gG.get hx
      have eT : M.tunG h wi.head tw cs (gs.take (i + 1)) = M.tunG h wi.head tw cs (gs.take i) ++ M.tunG1 h wi.head tw cs g := by
        rw [take_snoc hg, M.tun_app]
        unfold M.tunG
        rw [List.flatMap_singleton]
      have lD := gD.len
      have lT := M.tun_len h wi.head tw cs (gs.take i)
      have lK := List.length_take_le i gs
      refine ⟨t1, _, rfl, SqT.of f1, rfl, _, _, rfl, _, _, rfl, _, _, rfl, rfl, ?_⟩
      refine set_then (i := 13) ⟨_, rfl, _, rfl, _, _, rfl, rfl, ?_⟩
      refine ⟨_, rfl, _, rfl, a, g.thr - (h : Int), cs, rfl, hc.mono s6, _, rfl, ?_⟩
      cases c2 : M.leaves cs (g.thr - (h : Int)) with
      | false =>
        refine iteF ⟨s6, e6, gG, ys, _, _, _, _, rfl, eD, ?_⟩
        rw [eT]
        unfold M.tunG1
        rw [if_neg (by rw [c2]; decide), List.append_nil]
        exact gD
      | true =>
        refine iteT ⟨_, rfl, .inl ⟨rfl, _, SqL.of eD⟩, ?_⟩
        refine ⟨_, rfl, _, rfl, _, _, rfl, ?_⟩
        have emx : (if (-1 : Int) > g.thr - (h : Int) then (-1 : Int) else g.thr - (h : Int)) = max (g.thr - (h : Int)) (-1) := by
          split <;> omega
        rw [emx]
        refine ⟨_, rfl, _, rfl, ai, CW, dh, fh, _, rfl, s6 _ _ v1, TW.cl, TW.nH, v2, _, rfl, g.ans, wi.head, tw, rfl, ?_⟩
        refine ⟨line2.2.1, fun t2 ht2 => ?_⟩
        have g2 := of_upd (o := .tup [V.ref q1, .int (max (g.thr - (h : Int)) (-1)), ansV (M.turnG g.ans wi.head tw)]) ht2
        have eD2 := g2 _ _ eD
        have kp := put_keepT (o := .lst (ys ++ [.ref t2])) eD2
        refine ⟨D, ys, _, rfl, rfl, eD2, small1000 (by omega), add_upd nD (s6.trans g2), ?_, (gG.mono g2).keep kp, _, _, _, _, _, rfl, upd_same, ?_⟩
        · rw [upd_ne nE]
          exact g2 _ _ e6
        · rw [eT]
          unfold M.tunG1
          rw [if_pos c2]
          exact ((gD.mono g2).keep kp).snoc ⟨t2, q1, rfl, kp _ _ (fun _ z => by cases z) upd_same, kp _ _ (fun _ z => by cases z) (g2 _ _ f2)⟩
    · rintro σ G ⟨s6, e6, gG, ys, p, q, r, o, rfl, eD, gD⟩
      rw [lX, List.take_length] at gD
      exact ⟨_, rfl, kk D ys G s6 nD eD gD⟩
theorem scGa : FnScope ["head", "step", "chain", "sealed"] ["head", "step", "chain", "sealed"] (defScope sGAt) := ⟨rfl, rfl, rfl, by decide +kernel, rfl, by decide +kernel, by decide +kernel⟩
theorem ok_gsat {k n : Nat} {f : Addr} {fd : FuncData} (F : Fun K "_gates_at" "_gates_at" sGAt f fd) (hk : 4 ≤ k) (DR : Df P w K mg base 2 "_road_gates" ["head", "road", "chain", "sealed"] (spRoadG C)) (DM : Df P w K mg base 4 "_most_gates" ["most", "chain"] (spMostG C))
    (DU : Df P w K mg base k "_tunnel_gates" ["head", "tunnel", "chain", "sealed"] (spTunG C CW n)) : FnOk P w K mg base CX0 (k + 1) f fd ["head", "step", "chain", "sealed"] (spGsAt C CW n) := by
  obtain ⟨fR, fdR, GR, gR, kR, bR⟩ := DR.ex
  obtain ⟨fM, fdM, GM, gM, kM, bM⟩ := DM.ex
  obtain ⟨fU, fdU, GU, gU, kU, bU⟩ := DU.ex
  refine F.ok scGa (fun vs H Q E h => ?_) (fun cdv A outer s H vs Q E hr h => ?_)
  · obtain ⟨v, a, h, se, st, cs, rfl, _⟩ := h
    rfl
  · obtain ⟨v, a, h, se, st, cs, rfl, hat, hf, hd, hc, hl, kk⟩ := h
    refine ⟨_, pss_cons (ps_if (pt_cmpR (op_eq) (pe_ix ix_tup (pv 1) (pe_int) (fun _ _ => rfl)) (pe_str) (nomark _)) (pss_one (ps_ret (pe_call GR (hr.mono (by omega)) rfl gR kR bR .nil pass0 (pa_cons (pv 0) (pa_cons (pv 1) (pa_cons (pv 2) (pa_cons (pv 3) pa_nil))))))) (pss_nil))
      (pss_cons (ps_if (pt_cmpR (op_eq) (pe_ix ix_tup (pv 1) (pe_int) (fun _ _ => rfl)) (pe_str) (nomark _)) (pss_one (ps_ret (pe_call GM (hr.mono (by omega)) rfl gM kM bM .nil pass0 (pa_cons (pe_ix ix_tup (pv 1) (pe_int) (fun _ _ => rfl)) (pa_cons (pv 2) pa_nil))))) (pss_nil))
      (pss_one (ps_ret (pe_call GU (hr.mono (by omega)) rfl gU kU bU .nil pass0 (pa_cons (pv 0) (pa_cons (pv 1) (pa_cons (pv 2) (pa_cons (pv 3) pa_nil)))))))), ?_⟩
    have z0 : ∀ {y0 : V} {ys : List V}, atI (y0 :: ys) (0 : Int) = some y0 := fun {y0 ys} => by exact atI_nat (xs := y0 :: ys) (j := 0) rfl
    unfold M.Step.gates at kk
    cases st with
    | road size ts lw =>
      unfold WP.StepAt at hat
      obtain ⟨t, rfl, ht⟩ := hat
      refine ⟨_, rfl, t, _, _, _, rfl, rfl, SqT.of ht, z0, rfl, _, rfl, ?_⟩
      rw [decide_eq_true rfl]
      exact iteT ⟨_, rfl, _, rfl, _, rfl, _, rfl, t, a, h, size, se, ts, lw, cs, rfl, ht, hc, kk⟩
    | join most =>
      unfold WP.StepAt at hat
      unfold M.Step.fine at hf
      obtain ⟨t, rfl, ht⟩ := hat
      have i1 : atI [V.str "join", V.int (most : Int)] (1 : Int) = some (.int (most : Int)) := by exact atI_nat (j := 1) rfl
      refine ⟨_, rfl, t, _, _, _, rfl, rfl, SqT.of ht, z0, rfl, _, rfl, ?_⟩
      rw [decide_eq_false nks.2.2.2.2.2.2.2.1]
      refine iteF ⟨_, rfl, t, _, _, _, rfl, rfl, SqT.of ht, z0, rfl, _, rfl, ?_⟩
      rw [decide_eq_true rfl]
      exact iteT ⟨_, rfl, t, _, _, _, rfl, rfl, SqT.of ht, i1, _, rfl, a, most, cs, rfl, hc, hl, hf.1, kk⟩
    | tunnel wi most tw =>
      unfold WP.StepAt at hat
      unfold M.Step.fine at hf
      obtain ⟨t, ai, rfl, ht, hwi⟩ := hat
      refine ⟨_, rfl, t, _, _, _, rfl, rfl, SqT.of ht, z0, rfl, _, rfl, ?_⟩
      rw [decide_eq_false nks.2.2.2.2.2.2.1]
      refine iteF ⟨_, rfl, t, _, _, _, rfl, rfl, SqT.of ht, z0, rfl, _, rfl, ?_⟩
      rw [decide_eq_false nks.2.2.2.2.2.1]
      exact iteF ⟨_, rfl, _, rfl, _, rfl, _, rfl, t, a, ai, h, se, wi, most, tw, cs, rfl, ht, hc, hwi, hf.1, hd, hf.2.1, kk⟩
abbrev NGt : List Str := ["way", "sealed", "found", "chains", "position", "step", "place", "threshold", "answer"]
theorem scGt : FnScope NGt ["way", "sealed"] (defScope sGates) := ⟨rfl, rfl, rfl, by decide +kernel, rfl, by decide +kernel, by decide +kernel⟩
theorem ok_gates {k n : Nat} {f : Addr} {fd : FuncData} (F : Fun K "gates" "gates" sGates f fd) (hk : 7 ≤ k) (hn : n ≤ 10) (B : Bn mg) (TW : WP.Wt K mg CW) (DC : Df P w K mg base 7 "chains_before" ["way", "sealed"] (spChB C CW)) (DA : Df P w K mg base k "_gates_at" ["head", "step", "chain", "sealed"] (spGsAt C CW n)) :
    FnOk P w K mg base CX0 (k + 1) f fd ["way", "sealed"] (spGates CW (n + 1)) := by
  obtain ⟨fC, fdC, GC, gC, kC, bC⟩ := DC.ex
  obtain ⟨fA, fdA, GA, gA, kA, bA⟩ := DA.ex
  refine F.ok scGt (fun vs H Q E h => ?_) (fun cdv A outer s H vs Q E hr h => ?_)
  · obtain ⟨a, se, wy, rfl, _⟩ := h
    rfl
  · obtain ⟨a, se, wy, rfl, hw, hf, hd, kk⟩ := h
    refine ⟨_, pss_cons (ps_set (i := 2) scGt.nd rfl (Or.inl rfl) (pe_lst pa_nil))
      (pss_cons (ps_set (i := 3) scGt.nd rfl (Or.inl rfl) (pe_call GC (hr.mono (by omega)) rfl gC kC bC .nil pass0 (pa_cons (pv 0) (pa_cons (pv 1) pa_nil))))
      (pss_cons (ps_for PassesOwn.never rfl (WP.pi_et (by rfl) B.enum (pa_cons (pe_fld (pv 0) rfl) pa_nil)) (pg_tup (by rfl) (pgs_cons (pg_name (i := 4) scGt.nd rfl (Or.inl rfl)) (pgs_cons (pg_name (i := 5) scGt.nd rfl (Or.inl rfl)) pgs_nil))) (pss_one (ps_for PassesOwn.never rfl (pi_list (pe_call GA (hr.mono (by omega)) rfl gA kA bA .nil pass0 (pa_cons (pe_fld (pv 0) rfl) (pa_cons (pv 5) (pa_cons (pe_ix ix_list (pv 3) (pv 4) (fun _ _ => rfl)) (pa_cons (pv 1) pa_nil)))))) (pg_tup (by rfl) (pgs_cons (pg_name (i := 6) scGt.nd rfl (Or.inl rfl)) (pgs_cons (pg_name (i := 7) scGt.nd rfl (Or.inl rfl)) (pgs_cons (pg_name (i := 8) scGt.nd rfl (Or.inl rfl)) pgs_nil)))) (pss_one (ps_expr (pe_bm PySem.F.plainAttrs_list PySem.F.slot_list_append PySem.F.type_list_append mt_append (pv 2) (pa_cons (pe_tup (pa_cons (pe_tup (pa_cons (pv 4) (StX.pa_star (pv 6) pa_nil))) (pa_cons (pv 7) (pa_cons (pv 8) pa_nil)))) pa_nil)))))))
      (pss_one (ps_ret (pv 2))))), ?_⟩
    obtain ⟨dx, fs, t0, xs0, w1, w2, w3, w4⟩ := WP.steps_fld hw
    obtain ⟨dh, fh, v1, v2⟩ := WP.head_fld hw
    have gl := M.Way.gates_len se wy
    obtain ⟨fall, fl12, fz⟩ := fine_all hf
    obtain ⟨wh, sts⟩ := wy
    have ckE : ∀ i, M.Ck (M.chE se wh (sts.take i) []) := fun i => M.ck_all M.ck_nil (M.fine_take i fall)
    have il : xs0.length = sts.length := w4.len
    unfold M.Way.depth at hd
    unfold M.Way.gates at kk gl
    refine set_then (i := 2) ⟨line2.2.2.2, fun D hD => ?_⟩
    have s1 := of_upd (o := .lst []) hD
    have eD0 : upd H D (.lst []) D = some (.lst []) := upd_same
    refine set_then (i := 3) ⟨_, rfl, _, rfl, a, se, .mk wh sts, rfl, hw.mono s1, hf, fun D2 xs2 H2 s2 n2 e2 g2 => ?_⟩
    have nE : D2 ≠ D := fun z => by
      rw [z, eD0] at n2
      cases n2
    have s3 := s1.trans s2
    refine ⟨_, rfl, a, CW, dx, fs, _, rfl, s3 _ _ w1, TW.cl, TW.nS, w2, t0, xs0, rfl, SqT.of (s3 _ _ w3), ?_⟩
    refine for_it WP.walk_et (fun i σ G => Same H G ∧ G D2 = some (.lst xs2) ∧ CsAt C G (M.chB se wh sts []) xs2 ∧ ∃ (ys : List V) (done : List M.Gate) (p q r o u : Option V), σ = [some (.ref a), some (.bl se), some (.ref D), some (.ref D2), p, q, r, o, u] ∧ G D = some (.lst ys) ∧ GsAt G done ys ∧ M.Step.gatesAll se wh sts 0 [] = done ++ M.Step.gatesAll se wh (sts.drop i) i (M.chE se wh (sts.take i) []))
      ⟨s3, e2, g2, [], [], _, _, _, _, _, rfl, s2 _ _ eD0, .nil, rfl⟩ (fun i σ G _ z => SqT.of (z.1 _ _ w3)) ?_ ?_
    · rintro i v σ G G' hi ⟨s4, e4, c4, ys, done, p, q, r, o, u, rfl, eD, gD, eq⟩ ⟨tt, x1, x2, rfl, nt, rfl, e1, hx⟩
      cases e1
      obtain ⟨st, hst, hat⟩ := w4.get hx
      have hst2 : sts[i]? = some st := hst
      have hi2 := (List.getElem?_eq_some_iff.mp hst2).1
      have hat : WP.StepAt CW H st x2 := hat
      have g5 := of_upd (o := .tup [V.int (i : Nat), x2]) nt
      have s5 : Same H (upd G tt (.tup [V.int (i : Nat), x2])) := s4.trans g5
      refine ⟨tt, _, rfl, SqT.of upd_same, rfl, _, _, rfl, _, _, rfl, rfl, ?_⟩
      have ed : sts.drop i = st :: sts.drop (i + 1) := by
        obtain ⟨hi3, ex⟩ := List.getElem?_eq_some_iff.mp hst2
        rw [← ex, ← List.drop_eq_getElem_cons hi3]
      have eC : M.chE se wh (sts.take (i + 1)) [] = M.nxC se wh (M.chE se wh (sts.take i) []) st := by
        rw [take_snoc hst2, M.chE_snoc]
      rw [ed, M.gatesAll_cons, ← eC] at eq
      obtain ⟨ac, hac, hch⟩ := c4.get (M.chB_at se wh sts [] i (by omega))
      have c5 := c4.mono g5
      have gD5 := gD.mono g5
      have e5 := g5 _ _ e4
      have eD5 := g5 _ _ eD
      have ch5 := hch.mono g5
      have dl := M.dep_le hst2
      have fst := WP.fine_get fall hst2
      generalize upd G tt (.tup [V.int (i : Nat), x2]) = G5 at s5 c5 gD5 e5 eD5 ch5
      refine ⟨_, rfl, a, CW, dh, fh, _, rfl, s5 _ _ v1, TW.cl, TW.nH, v2, _, rfl, _, rfl, _, rfl, D2, _, _, _, rfl, rfl, SqL.of e5, atI_nat hac, _, rfl, ?_⟩
      refine ⟨x2, ac, wh, se, st, _, rfl, hat.mono s5, fst, by omega, ch5, ck_cuts (ckE i), fun E xsE G6 s6 nE6 eE gE => ?_⟩
      have pl := M.Step.plen se wh st (M.chE se wh (sts.take i) [])
      have lt : done.length + (M.Step.gates se wh st (M.chE se wh (sts.take i) [])).length ≤ 80 := by
        have := congrArg List.length eq
        rw [List.length_append, List.length_append, List.length_map] at this
        omega
      generalize M.Step.gates se wh st (M.chE se wh (sts.take i) []) = gs at gE pl lt eq
      have lE := gE.len
      have nED : E ≠ D := fun z => by
        rw [z, eD5] at nE6
        cases nE6
      refine ⟨E, rfl, ⟨_, SqL.of eE⟩, ?_⟩
      refine for_it walk_list (fun j σ G => Same H G ∧ G D2 = some (.lst xs2) ∧ CsAt C G (M.chB se wh sts []) xs2 ∧ G E = some (.lst xsE) ∧ GsAt G gs xsE ∧ ∃ (ys : List V) (r o u : Option V), σ = [some (.ref a), some (.bl se), some (.ref D), some (.ref D2), some (.int ((i : Nat) : Int)), some x2, r, o, u] ∧ G D = some (.lst ys) ∧ GsAt G (done ++ (gs.take j).map (M.at_ i)) ys)
        ⟨s5.trans s6, s6 _ _ e5, c5.mono s6, eE, gE, ys, _, _, _, rfl, s6 _ _ eD5, by rw [List.take_zero, List.map_nil, List.append_nil]; exact gD5.mono s6⟩ (fun j σ G _ z => SqL.of z.2.2.2.1) ?_ ?_
      · rintro j v σ G7 G' hj ⟨s7, e7, c7, eE7, gE7, ys7, r, o, u, rfl, eD7, gD7⟩ ⟨rfl, hx7⟩
        obtain ⟨g, hg, t1, q1, rfl, f1, f2⟩ := gE7.get hx7
        have lD := gD7.len
        rw [List.length_append, List.length_map] at lD
        have lK := List.length_take_le j gs
        have pg := pl g (List.mem_of_getElem? hg)
        refine ⟨t1, _, rfl, SqT.of f1, rfl, _, _, rfl, _, _, rfl, _, _, rfl, rfl, ?_⟩
        refine ⟨_, rfl, .inl ⟨rfl, _, SqL.of eD7⟩, ?_⟩
        refine ⟨_, rfl, _, rfl, q1, ni g.place, rfl, .inl (SqT.of f2), small1000 ?_, fun p1 hp1 => ?_⟩
        · simp [ni]
          omega
        have ep : ∀ (Gz : Hp) (z : List V), upd Gz p1 (.tup z) p1 = some (.tup z) := fun Gz z => upd_same
        have m1 := of_upd (o := .tup (V.int ((i : Nat) : Int) :: (ni g.place ++ []))) hp1
        refine ⟨_, rfl, _, rfl, line2.2.1, fun t2 ht2 => ?_⟩
        have m2 := of_upd (o := .tup [V.ref p1, .int g.thr, ansV g.ans]) ht2
        have m12 := m1.trans m2
        have eD8 := m12 _ _ eD7
        have kp := put_keepT (o := .lst (ys7 ++ [.ref t2])) eD8
        refine ⟨D, ys7, _, rfl, rfl, eD8, small1000 (by omega), add_upd hD (s7.trans m12), ?_, (c7.mono m12).keep kp, ?_, (gE7.mono m12).keep kp, _, _, _, _, rfl, upd_same, ?_⟩
        · rw [upd_ne nE]
          exact m12 _ _ e7
        · rw [upd_ne nED]
          exact m12 _ _ eE7
        · rw [take_snoc hg, List.map_append, ← List.append_assoc]
          refine ((gD7.mono m12).keep kp).snoc ⟨t2, p1, rfl, kp _ _ (fun _ z => by cases z) upd_same, kp _ _ (fun _ z => by cases z) ?_⟩
          have := m2 _ _ (ep _ (V.int ((i : Nat) : Int) :: (ni g.place ++ [])))
          exact this.trans (by rw [List.append_nil]; rfl)
      · rintro σ G7 ⟨s7, e7, c7, eE7, gE7, ys7, r, o, u, rfl, eD7, gD7⟩
        rw [lE, List.take_length] at gD7
        refine ⟨s7, e7, c7, ys7, _, _, _, _, _, _, rfl, eD7, gD7, ?_⟩
        rw [eq, List.append_assoc]
    · rintro σ G ⟨s4, e4, c4, ys, done, p, q, r, o, u, rfl, eD, gD, eq⟩
      have e0 : sts.drop xs0.length = [] := by
        rw [il]
        exact List.drop_length
      rw [e0] at eq
      unfold M.Step.gatesAll at eq
      rw [List.append_nil] at eq
      refine ⟨_, rfl, kk D ys G s4 hD eD ?_⟩
      conv => arg 2; unfold M.Step.gatesAll
      rw [eq]
      exact gD
end
end CP

end
section
set_option autoImplicit false
set_option Elab.async false
set_option linter.all false
set_option maxRecDepth 100000
set_option maxHeartbeats 4000000
/-! ## a tuple, the other way round -/
namespace QR
open PySem PySem.Spec PyProof.Rows L2
section
variable {prog : Program} {w : World} {A : Around} {E : Value → Shared → Prop} {s : Shared}
theorem applied_back {sl : Addr} {vs : Value} {n : Nat} {Q : Int × Int × Nat → Shared → Prop} (hs : s.heap.IsSliceOf sl .none .none vs) (ps : IsPart vs (some (-1)))
    (h : Q ((n : Int) - 1, -1, n) s) : wpAny (model prog w) A (Builtin.Slice.sliceApplied (.ref sl) (pure (n : Int))) Q E s := by
  obtain ⟨os, hos, hcs, hds⟩ := id hs
  unfold Builtin.Slice.sliceApplied Builtin.Slice.sliceFields
  refine wpAny_bind (wpAny_bind (wpAny_field hos hds (x := .none) rfl (wpAny_bind (wpAny_field hos hds (x := .none) rfl (wpAny_bind (wpAny_field hos hds (x := vs) rfl (wpAny_pure ?_)))))))
  refine wpAny_bind (HT.slicePart_ ps ?_)
  show wpAny _ _ (if ((-1 : Int) == 0) = true then _ else _) _ _ s
  rw [if_neg (by decide)]
  refine wpAny_bind (HT.slicePart_ .none (wpAny_bind (HT.slicePart_ .none (wpAny_bind (wpAny_pure ?_)))))
  have e1 : Builtin.Slice.sliceAdjust none none (-1) (n : Int) = ((n : Int) - 1, -1) := by
    unfold Builtin.Slice.sliceAdjust
    simp
  have e2 : Builtin.Slice.slicePlaces ((n : Int) - 1) (-1) (-1) = n := by
    unfold Builtin.Slice.slicePlaces
    simp
    omega
  show wpAny _ _ (match Builtin.Slice.sliceAdjust none none (-1) (n : Int) with | (lo, hi) => pure (lo, (-1 : Int), Builtin.Slice.slicePlaces lo hi (-1))) _ _ s
  rw [e1]
  show wpAny _ _ (pure ((n : Int) - 1, (-1 : Int), Builtin.Slice.slicePlaces ((n : Int) - 1) (-1) (-1))) _ _ s
  rw [e2]
  exact wpAny_pure h
theorem fm_congr {f g : Nat → Option Value} : ∀ {l : List Nat}, (∀ m ∈ l, f m = g m) → l.filterMap f = l.filterMap g
  | [], _ => rfl
  | x :: l, h => by
    have e := fm_congr (f := f) (g := g) (l := l) fun m hm => h m (List.mem_cons_of_mem _ hm)
    rw [List.filterMap_cons, List.filterMap_cons, h x List.mem_cons_self, e]
theorem pick_back (xs : Array Value) : ((List.range xs.size).filterMap fun (m : Nat) => xs[(((xs.size : Int) - 1) + (m : Int) * (-1)).toNat]?).toArray = xs.toList.reverse.toArray := by
  have e : (List.range xs.size).filterMap (fun (m : Nat) => xs[(((xs.size : Int) - 1) + (m : Int) * (-1)).toNat]?) = ((List.range xs.size).map fun k => xs.size - 1 - k).filterMap (xs[·]?) := by
    rw [List.filterMap_map]
    refine fm_congr fun m hm => ?_
    have := List.mem_range.mp hm
    show xs[_]? = xs[xs.size - 1 - m]?
    rw [show (((xs.size : Int) - 1) + (m : Int) * (-1)).toNat = xs.size - 1 - m by omega]
  rw [e, PySem.W.krv_range, List.filterMap_reverse, PySem.W.krv_all]
theorem get_back {t sl : Addr} {items : Array Value} {vs : Value} {Q : Value → Shared → Prop} (ht : IsTup s.heap t items) (hs : s.heap.IsSliceOf sl .none .none vs) (ps : IsPart vs (some (-1)))
    (h : Q (.ref s.heap.objs.size) { s with heap := s.heap.push { cls := .type "tuple", data := .seq items.toList.reverse.toArray } }) (hsz : items.size ≤ sizeLine) : wpAny (model prog w) A (getItem (.ref t) (.ref sl)) Q E s := by
  have fits : sizeOk (.seq items.toList.reverse.toArray) := by
    show items.toList.reverse.toArray.size ≤ sizeLine
    simpa using hsz
  obtain ⟨os, hos, hcs, hds⟩ := id hs
  have hT : s.TypeIs (.ref sl) "slice" := ⟨os, hos, hcs⟩
  unfold getItem
  try with_reducible refine wpAny_holding ?_
  first | refine wpAny_bind (wpAny_pure ?_) | skip
  refine wpAny_bind (wpAny_sequenceKey ht.typeIs (by decide) (wpAny_bind (wpAny_callSpecial?_slot (name := Str.ofString "__getitem__") ht.typeIs PyProof.Rows.slot_tuple_getitem
    (wpAny_call_entry PyProof.Rows.slot_tuple_getitem ht.typeIs PyProof.Rows.entry_tuple_getitem ?_ (PyProof.Rows.args_tuple_getitem _ _)))))
  show wpAny _ _ (Builtin.Tuple.tupleItemsOf (.ref t) >>= _) _ _ s
  refine wpAny_bind (tupleItemsOf_ ht (wpAny_bind (wpAny_typeOf hT ?_)))
  rw [if_pos (by decide)]
  refine wpAny_bind (applied_back hs ps ?_)
  have no : ¬ ((((items.size : Int) - 1) == 0 && (-1 : Int) == 1 && items.size == items.size) = true) := by simp
  show wpAny _ _ (if ((((items.size : Int) - 1) == 0 && (-1 : Int) == 1 && items.size == items.size) = true) then _ else _) _ _ s
  rw [if_neg no, pick_back]
  first
    | exact wpAny_bind (m := Builtin.Tuple.tupleExact _) (wpAny_newObj_type (wpAny_pure ⟨_, rfl, wpAny_pure h⟩) fits)
    | exact wpAny_bind (wpAny_bind (m := Builtin.Tuple.tupleExact _) (wpAny_newObj_type (wpAny_pure ⟨_, rfl, wpAny_pure h⟩) fits))
end
section
variable {X : Cx}
/-- t[::-1] of a tuple -/
def tRevT (K : PySem.W.Frag) (te : TE) : TE := fun σ H Q => te σ H fun x H1 => ∃ a xs, x = .ref a ∧ SqT K H1 a xs ∧ ∀ p, H1 p = none → Q (.ref p) (upd H1 p (.tup xs.reverse))
theorem pe_revT {e : Expr} {te : TE} {k : Nat} {p1 p2 p3 pos : Pos} (he : PE X e te) : PE X (.Subscript e (.Slice none none (some (.UnaryOp .USub (.Constant (.int 1) k p1) p2)) p3) pos) (tRevT X.K te) := by
  refine ⟨fun pins s σ H Q I h => Subscript_ (thn (he.run pins s σ H _ I h) fun v s1 ⟨x, H1, I1, r1, q1⟩ => ?_)⟩
  obtain ⟨a, xs, ex, hx, q⟩ := q1
  subst ex
  cases r1
  have st : PO X (some (.UnaryOp .USub (.Constant (.int 1) k p1) p2)) (tPart (tUn (rU fun i => .int (-i)) (tC (.int 1)))) := po_some (pe_un un_neg pe_int)
  refine wpAny_Slice (thn (po_none.run pins s1 σ H1 (fun o H2 => o = none ∧ H2 = H1) I1 ⟨rfl, rfl⟩) fun vl s2 hl => ?_)
  obtain ⟨l, H2, I2, pl, el, e2⟩ := hl
  subst el e2
  refine thn (po_none.run pins s2 σ H2 (fun o H3 => o = none ∧ H3 = H2) I2 ⟨rfl, rfl⟩) fun vu s3 hu => ?_
  obtain ⟨u, H3, I3, pu, eu, e3⟩ := hu
  subst eu e3
  refine thn (st.run pins s3 σ H3 (fun o H4 => o = some (-1) ∧ H4 = H3) I3 ⟨1, rfl, -1, rfl, rfl, rfl⟩) fun vs s4 hs4 => ?_
  obtain ⟨o, H4, I4, ps, eo, e4⟩ := hs4
  subst eo e4
  cases pl
  cases pu
  have I5 : Inv X pins σ H4 { s4 with heap := s4.heap.push { cls := .type "slice", data := .fields #[.none, .none, vs] } } := I4.kept (t' := s4.toks) fun b ob q => Heap.get?_push_of_some _ q
  obtain ⟨its, r, ht, hz⟩ := I5.tuple hx
  have hlen := r.length
  show wpAny (model X.prog X.w) X.A (subscriptTail e (.Slice none none (some (.UnaryOp .USub (.Constant (.int 1) k p1) p2)) p3) (.ref a) (.ref s4.heap.objs.size)) (EP X pins σ Q) X.xe { s4 with heap := s4.heap.push { cls := .type "slice", data := .fields #[.none, .none, vs] } }
  refine tail_any (ops := [.ref a, .ref s4.heap.objs.size]) ht.typeIs PyProof.Rows.slot_tuple_getitem.lookup ?_ (by with_unfolding_all rfl)
  refine get_back ht (Heap.IsSliceOf.new _ .none .none vs) ps ?_ (by rw [List.size_toArray]; omega)
  refine ⟨.ref _, _, I5.laid (t' := s4.toks) (o := .tup xs.reverse) (fun b ob q => Heap.get?_push_of_some _ q) (Nat.le_refl _) ?_, rfl, q _ (I5.hok.fresh (Nat.le_refl _))⟩
  exact ⟨by rw [List.length_reverse]; exact hz, _, r.reverse, IsTup.new _ _⟩
end
end QR

end
section
set_option autoImplicit false
set_option Elab.async false
set_option linter.all false
set_option maxRecDepth 100000
set_option maxHeartbeats 4000000
/-! ## the marks of a chain -/
namespace CP
open PySem L2 G Y
abbrev sMarks : Stmt := S.top 43
def mv (l : List Nat) (n : Nat) : List V := (List.range n).map fun p => V.bl (decide (N.rem l p = 0))
theorem mv_len (l : List Nat) (n : Nat) : (mv l n).length = n := by
  unfold mv
  rw [List.length_map, List.length_range]
theorem mv_at (l : List Nat) {n p : Nat} (h : p < n) : (mv l n)[p]? = some (V.bl (decide (N.rem l p = 0))) := by
  unfold mv
  rw [List.getElem?_map, List.getElem?_range h]
  rfl
theorem rep_at (xs : List V) : ∀ k i, i < k * xs.length → (List.replicate k xs).flatten[i]? = xs[i % xs.length]?
  | 0, i, h => by omega
  | k + 1, i, h => by
    rw [List.replicate_succ, List.flatten_cons]
    by_cases hi : i < xs.length
    · rw [List.getElem?_append_left hi, Nat.mod_eq_of_lt hi]
    · rw [Nat.succ_mul] at h
      rw [List.getElem?_append_right (by omega), rep_at xs k (i - xs.length) (by omega), ← Nat.mod_eq_sub_mod (by omega)]
theorem tile {l : List Nat} {m n k : Nat} (hm : 0 < m) (per : ∀ p, N.rem l p = N.rem l (p % m)) (h : n ≤ k * m) : ((List.replicate k (mv l m)).flatten).take n = mv l n := by
  apply List.ext_getElem?
  intro i
  by_cases hi : i < n
  · rw [List.getElem?_take_of_lt hi, rep_at _ _ _ (by rw [mv_len]; omega), mv_len, mv_at l (Nat.mod_lt _ hm), mv_at l hi, ← per]
  · rw [List.getElem?_eq_none (by rw [List.length_take]; omega), List.getElem?_eq_none (by rw [mv_len]; omega)]
theorem mv_cons (m : Nat) (l : List Nat) : mv (m :: l) m = mv l m := by
  unfold mv
  refine List.map_congr_left fun p hp => ?_
  rw [N.rem_cons, Nat.mod_eq_of_lt (List.mem_range.mp hp)]
theorem per_cons (m : Nat) (l : List Nat) (p : Nat) : N.rem (m :: l) p = N.rem (m :: l) (p % m) := by
  rw [N.rem_cons, N.rem_cons, Nat.mod_mod]
theorem mv_first {m : Nat} (h : 0 < m) : [V.bl true] ++ (List.replicate (m - 1) [V.bl false]).flatten = mv [m] m := by
  rw [mv_cons]
  apply List.ext_getElem?
  intro i
  have e : (List.replicate (m - 1) [V.bl false]).flatten = List.replicate (m - 1) (V.bl false) := by
    induction (m - 1) with
    | zero => rfl
    | succ k ih => rw [List.replicate_succ, List.flatten_cons, ih, List.replicate_succ]; rfl
  rw [e]
  by_cases hi : i < m
  · rw [mv_at [] hi]
    cases i with
    | zero => rfl
    | succ i =>
      rw [List.singleton_append, List.getElem?_cons_succ, List.getElem?_replicate_of_lt (by omega)]
      rfl
  · rw [List.getElem?_eq_none (by simp; omega), List.getElem?_eq_none (by rw [mv_len]; omega)]
theorem mv_first0 (n : Nat) : [V.bl true] ++ (List.replicate (n - 1) [V.bl false]).flatten = mv [] (max n 1) := by
  cases n with
  | zero => rfl
  | succ n =>
    rw [mv_first (Nat.succ_pos n), mv_cons, show max (n + 1) 1 = n + 1 by omega]
theorem tile0 {l : List Nat} {m n k : Nat} (h : n ≤ m) : ((List.replicate (k + 1) (mv l m)).flatten).take n = mv l n := by
  apply List.ext_getElem?
  intro i
  rw [List.replicate_succ, List.flatten_cons]
  by_cases hi : i < n
  · rw [List.getElem?_take_of_lt hi, List.getElem?_append_left (by rw [mv_len]; omega), mv_at l (by omega), mv_at l hi]
  · rw [List.getElem?_eq_none (by rw [List.length_take]; omega), List.getElem?_eq_none (by rw [mv_len]; omega)]
theorem cut_to (xs : List V) (k : Nat) : cutV xs none (some (k : Int)) = xs.take k := by
  unfold cutV
  rw [HT.sIx_none, HT.sIx_nat, List.drop_zero, Nat.sub_zero]
  by_cases h : k ≤ xs.length
  · rw [Nat.min_eq_left h]
  · rw [Nat.min_eq_right (by omega), List.take_of_length_le (Nat.le_refl _), List.take_of_length_le (by omega)]
section
variable {P : Program} {w : World} {K : PySem.W.Frag} {mg : Str → Option Value} {base : Heap} {C : Addr}
def spMarks (C : Addr) : Sp := fun vs H Q _ => ∃ (a : Addr) (n : Nat) (cs : List Nat), vs = [.ref a, .int (n : Int)] ∧ ChAt C H cs a ∧ Cuts cs ∧ n ≤ 5000 ∧ ∀ D H', Same H H' → H' D = some (.lst (mv cs n)) → Q (.ref D) H'
abbrev NMk : List Str := ["chain", "length", "lengths", "marks", "many"]
theorem scMk : FnScope NMk ["chain", "length"] (defScope sMarks) := ⟨rfl, rfl, rfl, by decide +kernel, rfl, by decide +kernel, by decide +kernel⟩
theorem ok_marks {f : Addr} {fd : FuncData} (F : Fun K "_marks" "_marks" sMarks f fd) (B : Bn mg) (T : Ct K mg C) : FnOk P w K mg base CX0 1 f fd ["chain", "length"] (spMarks C) := by
  refine F.ok scMk (fun vs H Q E h => ?_) (fun cdv A outer s H vs Q E hr h => ?_)
  · obtain ⟨a, n, cs, rfl, _⟩ := h
    rfl
  · obtain ⟨a, n, cs, rfl, hc, hl, hn, k⟩ := h
    refine ⟨_, pss_cons (ps_set (i := 2) scMk.nd rfl (Or.inl rfl) (pe_tup (StX.pa_star (QR.pe_revT (pe_fld (pv 0) rfl)) (pa_cons (pv 1) pa_nil))))
      (pss_cons (ps_set (i := 3) scMk.nd rfl (Or.inl rfl) (pe_op op_cat (pe_lst (pa_cons pe_bl pa_nil)) (pe_op op_rep (pe_lst (pa_cons pe_bl pa_nil)) (pe_op op_sub (pe_ix ix_tup (pv 2) pe_int (fun _ _ => rfl)) pe_int))))
      (pss_cons (ps_for PassesOwn.never rfl (pi_tup (pv 2)) (pg_name (i := 4) scMk.nd rfl (Or.inl rfl))
        (pss_one (ps_set (i := 3) scMk.nd rfl (Or.inl rfl) (pe_slice sl_list (pe_op op_rep (pv 3) (pe_op op_add (pe_op op_fdiv (pv 4) (pe_callB call_len_seq (by rfl) B.len PySem.boot_len (pa_cons (pv 3) pa_nil))) pe_int)) po_none (po_some (pv 4))))))
      (pss_one (ps_ret (pv 3))))), ?_⟩
    obtain ⟨dx, t, u, h1, h2, h3⟩ := id hc
    have lc := hl.len
    refine ⟨_, rfl, a, C, dx, _, _, rfl, h1, T.cl, T.nC, cfl_cuts t u, t, _, rfl, SqT.of h2, fun r hr1 => ?_⟩
    refine ⟨r, _, rfl, .inl (SqT.of upd_same), _, rfl, ?_, fun v hv => ?_⟩
    · rw [List.length_append, List.length_reverse, ni_len]
      exact Nat.le_trans (show cs.length + 1 ≤ 1001 by omega) (by decide)
    have eL : (ni cs).reverse ++ [V.int (n : Int)] = ni (cs.reverse ++ [n]) := by
      rw [ni_app]
      unfold ni
      rw [List.map_reverse, List.map_reverse]
      rfl
    have s1 : Same H (upd H r (.tup (ni cs).reverse)) := of_upd hr1
    have s2 := s1.trans (of_upd (o := .tup ((ni cs).reverse ++ [V.int (n : Int)])) hv)
    have hv2 : (upd (upd H r (.tup (ni cs).reverse)) v (.tup ((ni cs).reverse ++ [V.int (n : Int)]))) v = some (.tup (ni (cs.reverse ++ [n]))) := by rw [upd_same, eL]
    generalize upd (upd H r (.tup (ni cs).reverse)) v (.tup ((ni cs).reverse ++ [V.int (n : Int)])) = G1 at s2 hv2 ⊢
    clear hv hr1 s1
    by_cases ne : cs = []
    · subst ne
      dsimp only
      refine set_then (i := 3) ⟨line2.2.2.1, fun b1 hb1 => ⟨line2.2.2.1, fun b2 hb2 => ?_⟩⟩
      have s3 : Same G1 (upd G1 b1 (.lst [.bl true])) := of_upd hb1
      have s4 : Same (upd G1 b1 (.lst [.bl true])) (upd (upd G1 b1 (.lst [.bl true])) b2 (.lst [.bl false])) := of_upd hb2
      refine ⟨_, rfl, v, _, _, .int (n : Int), rfl, rfl, SqT.of (s4 _ _ (s3 _ _ hv2)), atI_nat (j := 0) (ni_at (l := [] ++ [n]) rfl), _, _, rfl, rfl, b2, _, _, rfl, rfl, upd_same, by omega, by omega, ?_, fun b3 hb3 => ?_⟩
      · show 1 * _ ≤ sizeLine
        exact Nat.le_trans (show 1 * ((n : Int) - 1).toNat ≤ 5000 by omega) (by decide)
      rw [show ((n : Int) - 1).toNat = n - 1 by omega]
      have s5 : Same (upd (upd G1 b1 (.lst [.bl true])) b2 (.lst [.bl false])) _ := of_upd (o := .lst (List.replicate (n - 1) [V.bl false]).flatten) hb3
      have l5 := congrArg List.length (mv_first0 n)
      rw [mv_len] at l5
      refine ⟨b1, b3, _, _, rfl, rfl, s5 _ _ (s4 _ _ upd_same), upd_same, ?_, fun D hD => ?_⟩
      · rw [List.length_append] at l5
        rw [l5]
        exact Nat.le_trans (show max n 1 ≤ 5001 by omega) (by decide)
      rw [mv_first0]
      have s6 := ((s3.trans s4).trans s5).trans (of_upd (o := .lst (mv [] (max n 1))) hD)
      have s7 := s2.trans s6
      have hv3 := s6 _ _ hv2
      clear s3 s4 s5 s6 hb1 hb2 hb3
      refine ⟨_, rfl, v, rfl, ⟨_, SqT.of hv3⟩, for_it walk_tup (fun i σ G => Same H G ∧ G v = some (.tup (ni ([] ++ [n]))) ∧ ∃ (D : Addr) (q : Option V), σ = [some (.ref a), some (.int (n : Int)), some (.ref v), some (.ref D), q] ∧
          (i = 0 → G D = some (.lst (mv [] (max n 1)))) ∧ (i = 1 → G D = some (.lst (mv [] n))))
        ⟨s7, hv3, D, _, rfl, fun _ => upd_same, fun h => by omega⟩ (fun i σ G _ z => SqT.of z.2.1) ?_ ?_⟩
      · rintro i x σ G G' hi ⟨s8, hv4, D, q, rfl, hD1, _⟩ ⟨rfl, hx⟩
        have hi0 : i = 0 := by
          have : (ni ([] ++ [n])).length = 1 := rfl
          have hi' : i < (ni ([] ++ [n])).length := hi
          omega
        subst hi0
        obtain rfl : x = .int (n : Int) := (Option.some.inj hx).symm
        have hD2 := hD1 rfl
        refine ⟨_, rfl, _, rfl, _, rfl, D, _, rfl, .inl (SqL.of hD2), ?_⟩
        rw [mv_len]
        have m1 : 0 < max n 1 := by omega
        have eq : (n : Int) / ((max n 1 : Nat) : Int) = ((n / max n 1 : Nat) : Int) := rfl
        have q0 : (0 : Int) ≤ (n : Int) / ((max n 1 : Nat) : Int) := by rw [eq]; exact Int.natCast_nonneg _
        have q2 : n / max n 1 ≤ 1 := by
          have := Nat.div_le_div_right (c := max n 1) (show n ≤ max n 1 by omega)
          rw [Nat.div_self m1] at this
          exact this
        have q1 : (n : Int) / ((max n 1 : Nat) : Int) ≤ 1 := by rw [eq]; exact Int.ofNat_le.mpr q2
        have kn : ((n : Int) / ((max n 1 : Nat) : Int) + 1).toNat = n / max n 1 + 1 := by rw [eq]; exact Int.toNat_natCast (n / max n 1 + 1)
        refine ⟨_, _, rfl, rfl, ⟨by omega, by omega⟩, _, _, rfl, rfl, D, _, _, rfl, rfl, hD2, by omega, by omega, ?_, fun D3 h3 => ⟨_, rfl, _, rfl, D3, _, rfl, SqL.of upd_same, fun D4 h4 => ?_⟩⟩
        · rw [mv_len, kn]
          exact Nat.le_trans (Nat.mul_le_mul (show max n 1 ≤ 5001 by omega) (show n / max n 1 + 1 ≤ 2 by omega)) (by decide)
        have s9 := (of_upd (o := .lst (List.replicate ((n : Int) / ((max n 1 : Nat) : Int) + 1).toNat (mv [] (max n 1))).flatten) h3)
        have et : cutV (List.replicate ((n : Int) / ((max n 1 : Nat) : Int) + 1).toNat (mv [] (max n 1))).flatten none (some (n : Int)) = mv [] n := by
          rw [cut_to, kn, tile0 (show n ≤ max n 1 by omega)]
        exact ⟨(s8.trans s9).trans (of_upd h4), (of_upd h4) _ _ (s9 _ _ hv4), D4, _, rfl, fun z => by omega, fun _ => by rw [upd_same, et]⟩
      · rintro σ G ⟨s8, hv4, D, q, rfl, _, hD1⟩
        exact ⟨_, rfl, k D G s8 (hD1 rfl)⟩
    have lk : 0 < cs.length := List.length_pos_iff.mpr ne
    have lenL : (cs.reverse ++ [n]).length = cs.length + 1 := by simp
    have at1 : ∀ i, i < cs.length → (cs.reverse ++ [n])[i]? = cs[cs.length - 1 - i]? := fun i hi => by
      rw [List.getElem?_append_left (by simpa using hi), List.getElem?_reverse hi]
    have at2 : (cs.reverse ++ [n])[cs.length]? = some n := by
      rw [List.getElem?_append_right (by simp), List.length_reverse, Nat.sub_self]
      rfl
    obtain ⟨ck, hck⟩ : ∃ c, cs[cs.length - 1]? = some c := ⟨_, List.getElem?_eq_getElem (by omega)⟩
    have pk := hl.at hck
    have hdk : cs.drop (cs.length - 1) = [ck] := by
      rw [drop_at hck, show cs.length - 1 + 1 = cs.length by omega, List.drop_length]
    dsimp only
    refine set_then (i := 3) ⟨line2.2.2.1, fun b1 hb1 => ⟨line2.2.2.1, fun b2 hb2 => ?_⟩⟩
    have s3 : Same G1 (upd G1 b1 (.lst [.bl true])) := of_upd hb1
    have s4 : Same (upd G1 b1 (.lst [.bl true])) (upd (upd G1 b1 (.lst [.bl true])) b2 (.lst [.bl false])) := of_upd hb2
    refine ⟨_, rfl, v, _, _, .int (ck : Int), rfl, rfl, SqT.of (s4 _ _ (s3 _ _ hv2)), ?_, _, _, rfl, rfl, b2, _, _, rfl, rfl, upd_same, by omega, by omega, ?_, fun b3 hb3 => ?_⟩
    · exact atI_nat (j := 0) (ni_at ((at1 0 lk).trans (by rw [Nat.sub_zero]; exact hck)))
    · show 1 * _ ≤ sizeLine
      exact Nat.le_trans (show 1 * ((ck : Int) - 1).toNat ≤ 1000 by omega) (by decide)
    have ek : ((ck : Int) - 1).toNat = ck - 1 := by omega
    rw [ek]
    have s5 : Same (upd (upd G1 b1 (.lst [.bl true])) b2 (.lst [.bl false])) _ := of_upd (o := .lst (List.replicate (ck - 1) [V.bl false]).flatten) hb3
    refine ⟨b1, b3, _, _, rfl, rfl, s5 _ _ (s4 _ _ upd_same), upd_same, ?_, fun D hD => ?_⟩
    · have := congrArg List.length (mv_first pk.1)
      rw [mv_len, List.length_append] at this
      rw [this]
      exact Nat.le_trans pk.2 (by decide)
    rw [mv_first pk.1]
    have s6 := ((s3.trans s4).trans s5).trans (of_upd (o := .lst (mv [ck] ck)) hD)
    have s7 := s2.trans s6
    have hv3 := s6 _ _ hv2
    clear s3 s4 s5 s6 hb1 hb2 hb3
    refine ⟨_, rfl, v, rfl, ⟨_, SqT.of hv3⟩, for_it walk_tup (fun i σ G => Same H G ∧ G v = some (.tup (ni (cs.reverse ++ [n]))) ∧ ∃ (D : Addr) (q : Option V), σ = [some (.ref a), some (.int (n : Int)), some (.ref v), some (.ref D), q] ∧
        (i ≤ cs.length → ∃ m, cs[cs.length - max i 1]? = some m ∧ G D = some (.lst (mv (cs.drop (cs.length - max i 1)) m))) ∧ (i = cs.length + 1 → G D = some (.lst (mv cs n))))
      ⟨s7, hv3, D, _, rfl, fun _ => ⟨ck, by rw [show max 0 1 = 1 from rfl]; exact hck, by rw [show max 0 1 = 1 from rfl, hdk]; exact upd_same⟩, fun h => by omega⟩ (fun i σ G _ z => SqT.of z.2.1) ?_ ?_⟩
    · rintro i x σ G G' hi ⟨s8, hv4, D, q, rfl, hD1, _⟩ ⟨rfl, hx⟩
      obtain ⟨y, hy, rfl⟩ := ni_get hx
      rw [ni_len, lenL] at hi
      obtain ⟨m, hm, hD2⟩ := hD1 (by omega)
      have pm := hl.at hm
      have y5 : y ≤ 5000 := by
        by_cases hik : i < cs.length
        · rw [at1 i hik] at hy
          have := (hl.at hy).2
          omega
        · have e : i = cs.length := by omega
          rw [e, at2] at hy
          cases hy
          exact hn
      refine ⟨_, rfl, _, rfl, _, rfl, D, _, rfl, .inl (SqL.of hD2), ?_⟩
      rw [mv_len]
      have eq : (y : Int) / (m : Int) = ((y / m : Nat) : Int) := rfl
      have q0 : (0 : Int) ≤ (y : Int) / (m : Int) := by rw [eq]; exact Int.natCast_nonneg _
      have q1 : (y : Int) / (m : Int) ≤ 5000 := by rw [eq]; exact Int.ofNat_le.mpr (Nat.le_trans (Nat.div_le_self _ _) y5)
      have kn : ((y : Int) / (m : Int) + 1).toNat = y / m + 1 := by rw [eq]; exact Int.toNat_natCast (y / m + 1)
      have dm := Nat.div_add_mod y m
      have dl := Nat.mod_lt y pm.1
      have bm : m * (y / m + 1) = m * (y / m) + m := Nat.mul_succ _ _
      have ym : y / m ≤ y := Nat.div_le_self _ _
      refine ⟨_, _, rfl, rfl, ⟨by omega, by omega⟩, _, _, rfl, rfl, D, _, _, rfl, rfl, hD2, by omega, by omega, ?_, fun D3 h3 => ⟨_, rfl, _, rfl, D3, _, rfl, SqL.of upd_same, fun D4 h4 => ?_⟩⟩
      · rw [mv_len, kn, bm]
        exact Nat.le_trans (show _ ≤ 6000 by omega) (by decide)
      have s9 := (of_upd (o := .lst (List.replicate ((y : Int) / (m : Int) + 1).toNat (mv (cs.drop (cs.length - max i 1)) m)).flatten) h3)
      have per : ∀ p, N.rem (cs.drop (cs.length - max i 1)) p = N.rem (cs.drop (cs.length - max i 1)) (p % m) := by
        rw [drop_at hm]
        exact per_cons m _
      have et : cutV (List.replicate ((y : Int) / (m : Int) + 1).toNat (mv (cs.drop (cs.length - max i 1)) m)).flatten none (some (y : Int)) = mv (cs.drop (cs.length - max i 1)) y := by
        rw [cut_to, kn, tile pm.1 per (by rw [Nat.mul_comm, bm]; omega)]
      refine ⟨(s8.trans s9).trans (of_upd h4), (of_upd h4) _ _ (s9 _ _ hv4), D4, _, rfl, fun hi2 => ?_, fun hi2 => ?_⟩
      · have hik : i < cs.length := by omega
        rw [at1 i hik] at hy
        refine ⟨y, ?_, ?_⟩
        · rw [show cs.length - max (i + 1) 1 = cs.length - 1 - i by omega]
          exact hy
        · rw [upd_same, et, show cs.length - max (i + 1) 1 = cs.length - 1 - i by omega]
          by_cases h0 : i = 0
          · subst h0
            rw [show cs.length - max 0 1 = cs.length - 1 - 0 by omega]
          · rw [drop_at hy, mv_cons, show cs.length - 1 - i + 1 = cs.length - max i 1 by omega]
      · have e : i = cs.length := by omega
        rw [e, at2] at hy
        cases hy
        rw [upd_same, et, show cs.length - max i 1 = 0 by omega, List.drop_zero]
    · rintro σ G ⟨s8, hv4, D, q, rfl, _, hD1⟩
      rw [ni_len, lenL] at hD1
      exact ⟨_, rfl, k D G s8 (hD1 rfl)⟩
end
end CP

end
section
set_option autoImplicit false
set_option Elab.async false
set_option linter.all false
set_option maxRecDepth 100000
set_option maxHeartbeats 4000000
/-! ## borders, least_periods -/
namespace CP
open PySem L2 G Y
abbrev sLeastP : Stmt := S.top 39
abbrev sBorders : Stmt := S.top 40
/-- the borders of the first n - 1 places -/
def bl (f : Nat → Bool) (n : Nat) : List V := (List.range n).map fun k => V.int (N.bd f k)
theorem bl_len (f : Nat → Bool) (n : Nat) : (bl f n).length = n := by
  unfold bl
  rw [List.length_map, List.length_range]
theorem bl_snoc (f : Nat → Bool) (n : Nat) : bl f (n + 1) = bl f n ++ [.int (N.bd f n)] := by
  unfold bl
  rw [List.range_succ, List.map_append]
  rfl
theorem bl_at {f : Nat → Bool} {n k : Nat} (h : k < n) : (bl f n)[k]? = some (.int (N.bd f k)) := by
  unfold bl
  rw [List.getElem?_map, List.getElem?_range h]
  rfl
theorem mv_fm {l : List Nat} {n p : Nat} (h : p < n) : (mv l n)[p]? = some (V.bl (N.fm l p)) := mv_at l h
theorem bl_beq (x y : Bool) : decide (V.bl x = V.bl y) = decide (x = y) := by
  cases x <;> cases y <;> rfl
theorem app_run {K : PySem.W.Frag} {σ : L2.St} {H : Hp} {D : Ends} {R : Addr} {xs : List V} {b : Int} (h1 : σ[1]? = some (some (.ref R))) (h3 : σ[3]? = some (some (.int b))) (hR : H R = some (.lst xs)) (hz : xs.length < sizeLine) (k : D.nx σ (upd H R (.lst (xs ++ [.int (b + 1)])))) :
    tDrop (tBM K "list" rAppend (tVar 1) (tCons (tOp (rI0 fun i j => .int (i + j)) (tVar 3) (tC (.int 1))) tNil)) D σ H :=
  ⟨_, h1, .inl ⟨rfl, _, SqL.of hR⟩, _, h3, _, _, rfl, rfl, R, _, _, rfl, rfl, hR, hz, k⟩
section
variable {P : Program} {w : World} {K : PySem.W.Frag} {mg : Str → Option Value} {base : Heap} {C : Addr}
def spBorders : Sp := fun vs H Q _ => ∃ (D : Addr) (n : Nat) (cs : List Nat), vs = [.ref D] ∧ H D = some (.lst (mv cs n)) ∧ n ≤ 5000 ∧ ∀ E H', Same H H' → H' E = some (.lst (bl (N.fm cs) (n + 1))) → Q (.ref E) H'
theorem scBo : FnScope ["marks", "found", "mark", "border"] ["marks"] (defScope sBorders) := ⟨rfl, rfl, rfl, by decide +kernel, rfl, by decide +kernel, by decide +kernel⟩
theorem ok_borders {f : Addr} {fd : FuncData} (F : Fun K "borders" "borders" sBorders f fd) : FnOk P w K mg base CX0 1 f fd ["marks"] spBorders := by
  refine F.ok scBo (fun vs H Q E h => ?_) (fun cdv A outer s H vs Q E hr h => ?_)
  · obtain ⟨D, n, cs, rfl, _⟩ := h
    rfl
  · obtain ⟨D, n, cs, rfl, hD, hn, k⟩ := h
    refine ⟨_, pss_cons (ps_set (i := 1) scBo.nd rfl (Or.inl rfl) (pe_lst (pa_cons (pe_un un_neg pe_int) pa_nil)))
      (pss_cons (ps_for PassesOwn.never rfl (pi_list (pv 0)) (pg_name (i := 2) scBo.nd rfl (Or.inl rfl))
        (pss_cons (ps_set (i := 3) scBo.nd rfl (Or.inl rfl) (pe_ix ix_list (pv 1) (pe_un un_neg pe_int) (fun _ _ => rfl)))
        (pss_cons (ps_while PassesOwn.never (PW.pt (pw_and (pt_cmpR op_ge (pv 3) pe_int (nomark _)) (pw_and1 (pt_cmpR op_ne (pe_ix ix_list (pv 0) (pv 3) (fun _ _ => rfl)) (pv 2) (nomark _)))))
          (pss_one (ps_set (i := 3) scBo.nd rfl (Or.inl rfl) (pe_ix ix_list (pv 1) (pv 3) (fun _ _ => rfl)))))
        (pss_one (ps_expr (pe_bm PySem.F.plainAttrs_list PySem.F.slot_list_append PySem.F.type_list_append mt_append (pv 1) (pa_cons (pe_op op_add (pv 3) pe_int) pa_nil)))))))
      (pss_one (ps_ret (pv 1)))), ?_⟩
    refine set_then (i := 1) ⟨_, rfl, line2.2.2.1, fun R hR => ?_⟩
    have s0 : Same H (upd H R (.lst [.int (-1)])) := of_upd hR
    refine ⟨_, rfl, D, rfl, ⟨_, SqL.of (s0 _ _ hD)⟩, for_list (K := K) (a := D) (xs := mv cs n) (fun i σ G => Same H G ∧ G R = some (.lst (bl (N.fm cs) (i + 1))) ∧ ∃ q2 q3, σ = [some (.ref D), some (.ref R), q2, q3])
      ⟨s0, upd_same, _, _, rfl⟩ (fun i σ G _ z => SqL.of (z.1 _ _ hD)) ?_ ?_⟩
    · rintro i x σ G hx ⟨s1, hG, q2, q3, rfl⟩
      have hi : i < n := by
        have := (List.getElem?_eq_some_iff.mp hx).1
        rw [mv_len] at this
        exact this
      obtain rfl : x = .bl (N.fm cs i) := Option.some.inj (hx.symm.trans (mv_fm hi))
      have hD1 := s1 _ _ hD
      refine set_then (i := 3) ⟨_, rfl, _, rfl, R, _, _, .int (N.bd (N.fm cs) i), rfl, rfl, SqL.of hG, by rw [bl_snoc]; exact atI_last _ _, ?_⟩
      refine ⟨fun m σ G' => G' = G ∧ ∃ b : Int, σ = [some (.ref D), some (.ref R), some (.bl (N.fm cs i)), some (.int b)] ∧ N.Cand (N.fm cs) i b ∧ m = (b + 1).toNat, ⟨_, rfl, _, rfl, N.cand_first _ _, rfl⟩, ?_⟩
      rintro m σ G' ⟨rfl, b, rfl, hb, rfl⟩
      have fin : b + 1 = N.bd (N.fm cs) (i + 1) → Same H (upd G' R (.lst (bl (N.fm cs) (i + 1) ++ [.int (b + 1)]))) ∧ (upd G' R (.lst (bl (N.fm cs) (i + 1) ++ [.int (b + 1)]))) R = some (.lst (bl (N.fm cs) (i + 1 + 1))) ∧ ∃ q2 q3, [some (V.ref D), some (.ref R), some (.bl (N.fm cs i)), some (.int b)] = [some (.ref D), some (.ref R), q2, q3] := fun e => by
        refine ⟨add_upd hR s1, ?_, _, _, rfl⟩
        rw [upd_same, bl_snoc _ (i + 1), e]
      have sz : (bl (N.fm cs) (i + 1)).length < sizeLine := by
        rw [bl_len]
        exact Nat.lt_of_le_of_lt (show i + 1 ≤ 5001 by omega) (by decide)
      refine ⟨_, rfl, _, _, rfl, rfl, _, rfl, ite2 (fun c => ?_) (fun c => ?_)⟩
      · have c2 : 0 ≤ b := of_decide_eq_true c
        obtain ⟨j, rfl⟩ := Int.eq_ofNat_of_zero_le c2
        have hj : j < i := by
          rcases hb.ok with h | ⟨j', e, h, _⟩
          · omega
          · omega
        refine ⟨_, rfl, _, rfl, D, _, _, .bl (N.fm cs j), rfl, rfl, SqL.of hD1, atI_nat (mv_fm (by omega)), _, rfl, rfl, _, rfl, ?_⟩
        rw [bl_beq]
        by_cases e : N.fm cs j = N.fm cs i
        · rw [decide_eq_true e]
          exact iteF (app_run rfl rfl hG sz (fin (N.cand_end hb (.inr ⟨j, rfl, e⟩))))
        · rw [decide_eq_false e]
          obtain ⟨_, hb2⟩ := N.cand_next hb e
          refine iteT ⟨fun σ' G2 => G2 = G' ∧ σ' = [some (.ref D), some (.ref R), some (.bl (N.fm cs i)), some (.int (N.bd (N.fm cs) j))], fun σ' G2 z => ⟨(N.bd (N.fm cs) j + 1).toNat, ?_, z.1, _, z.2, hb2, rfl⟩, ?_⟩
          · by_cases z : j = 0
            · subst z
              unfold N.bd
              rw [N.lp_zero]
              decide
            · have := (N.lp_spec (f := N.fm cs) (k := j) (by omega)).1
              unfold N.bd
              omega
          · exact ⟨_, rfl, _, rfl, R, _, _, .int (N.bd (N.fm cs) j), rfl, rfl, SqL.of hG, atI_nat (bl_at (by omega)), rfl, rfl⟩
      · have c2 : ¬ 0 ≤ b := fun z => c (decide_eq_true z)
        exact iteF (app_run rfl rfl hG sz (fin (N.cand_end hb (.inl (by omega)))))
    · rintro σ G ⟨s1, hG, q2, q3, rfl⟩
      rw [mv_len] at hG
      exact ⟨_, rfl, k R G s1 hG⟩
def spLeastP : Sp := fun vs H Q _ => ∃ (D : Addr) (n : Nat) (cs : List Nat), vs = [.ref D] ∧ H D = some (.lst (mv cs n)) ∧ n ≤ 5000 ∧ ∀ E H', Same H H' → H' E = some (.lst (ni (N.nrm (N.fm cs) n))) → Q (.ref E) H'
theorem scLp : FnScope ["marks", "found_borders", "length", "found"] ["marks"] (defScope sLeastP) := ⟨rfl, rfl, rfl, by decide +kernel, rfl, by decide +kernel, by decide +kernel⟩
theorem ok_leastp {f : Addr} {fd : FuncData} (F : Fun K "least_periods" "least_periods" sLeastP f fd) (B : Bn mg) (DB : Df P w K mg base 1 "borders" ["marks"] spBorders) : FnOk P w K mg base CX0 2 f fd ["marks"] spLeastP := by
  obtain ⟨fB, fdB, GB, gB, kB, bB⟩ := DB.ex
  refine F.ok scLp (fun vs H Q E h => ?_) (fun cdv A outer s H vs Q E hr h => ?_)
  · obtain ⟨D, n, cs, rfl, _⟩ := h
    rfl
  · obtain ⟨D, n, cs, rfl, hD, hn, k⟩ := h
    refine ⟨_, pss_cons (ps_set (i := 1) scLp.nd rfl (Or.inl rfl) (pe_call GB hr rfl gB kB bB .nil pass0 (pa_cons (pv 0) pa_nil)))
      (pss_cons (ps_set (i := 2) scLp.nd rfl (Or.inl rfl) (pe_callB call_len_seq (by rfl) B.len PySem.boot_len (pa_cons (pv 0) pa_nil)))
      (pss_cons (ps_set (i := 3) scLp.nd rfl (Or.inl rfl) (pe_lst pa_nil))
      (pss_cons (ps_while PassesOwn.never (pt_cmpR op_gt (pe_ix ix_list (pv 1) (pv 2) (fun _ _ => rfl)) pe_int (nomark _))
        (pss_cons (ps_set (i := 2) scLp.nd rfl (Or.inl rfl) (pe_op op_sub (pv 2) (pe_ix ix_list (pv 1) (pv 2) (fun _ _ => rfl))))
        (pss_one (ps_expr (pe_bm PySem.F.plainAttrs_list PySem.F.slot_list_append PySem.F.type_list_append mt_append (pv 3) (pa_cons (pv 2) pa_nil))))))
      (pss_one (ps_ret (pv 3)))))), ?_⟩
    refine set_then (i := 1) ⟨_, rfl, D, n, cs, rfl, hD, hn, fun R G s1 hR => ?_⟩
    refine set_then (i := 2) ⟨_, rfl, D, _, rfl, .inl (SqL.of (s1 _ _ hD)), ?_⟩
    rw [mv_len]
    refine set_then (i := 3) ⟨line2.2.2.2, fun R2 hR2 => ?_⟩
    have s2 : Same G (upd G R2 (.lst [])) := of_upd hR2
    refine ⟨fun m σ G2 => Same G G2 ∧ m ≤ n ∧ ∃ l : List Nat, σ = [some (.ref D), some (.ref R), some (.int (m : Int)), some (.ref R2)] ∧ G2 R2 = some (.lst (ni l)) ∧ l.length + m ≤ n ∧ N.nrm (N.fm cs) n = l ++ N.nrm (N.fm cs) m, ⟨n, s2, Nat.le_refl _, [], rfl, upd_same, by simp, rfl⟩, ?_⟩
    rintro m σ G2 ⟨s3, hm, l, rfl, hl, hlm, e⟩
    have hR3 := s3 _ _ hR
    have at1 : atI (bl (N.fm cs) (n + 1)) (m : Int) = some (.int (N.bd (N.fm cs) m)) := atI_nat (bl_at (by omega))
    refine ⟨_, rfl, _, rfl, R, _, _, .int (N.bd (N.fm cs) m), rfl, rfl, SqL.of hR3, at1, _, _, rfl, rfl, _, rfl, ?_⟩
    rw [N.nrm_step (N.fm cs) m] at e
    by_cases c : N.lp (N.fm cs) m < m
    · rw [if_pos c] at e
      rw [decide_eq_true (show (0 : Int) < N.bd (N.fm cs) m by unfold N.bd; omega)]
      refine iteT ⟨fun σ' G' => Same G G' ∧ N.lp (N.fm cs) m ≤ n ∧ ∃ l : List Nat, σ' = [some (.ref D), some (.ref R), some (.int ((N.lp (N.fm cs) m : Nat) : Int)), some (.ref R2)] ∧ G' R2 = some (.lst (ni l)) ∧ l.length + N.lp (N.fm cs) m ≤ n ∧ N.nrm (N.fm cs) n = l ++ N.nrm (N.fm cs) (N.lp (N.fm cs) m), fun σ' G' z => ⟨_, c, z⟩, ?_⟩
      refine set_then (i := 2) ⟨_, rfl, _, rfl, _, rfl, R, _, _, .int (N.bd (N.fm cs) m), rfl, rfl, SqL.of hR3, at1, _, _, rfl, rfl, ?_⟩
      have e2 : (m : Int) - N.bd (N.fm cs) m = ((N.lp (N.fm cs) m : Nat) : Int) := by unfold N.bd; omega
      dsimp only
      rw [e2]
      refine ⟨_, rfl, .inl ⟨rfl, _, SqL.of hl⟩, _, rfl, R2, _, _, rfl, rfl, hl, ?_, add_upd hR2 s3, by omega, l ++ [N.lp (N.fm cs) m], rfl, ?_, ?_, ?_⟩
      · rw [ni_len]
        exact Nat.lt_of_le_of_lt (show l.length ≤ 5000 by omega) (by decide)
      · rw [upd_same, ni_app]
        rfl
      · rw [List.length_append, List.length_singleton]
        omega
      · rw [e, List.append_assoc]
        rfl
    · rw [if_neg c] at e
      rw [decide_eq_false (show ¬ (0 : Int) < N.bd (N.fm cs) m by unfold N.bd; omega)]
      rw [List.append_nil] at e
      refine iteF ⟨_, rfl, k R2 G2 (s1.trans s3) ?_⟩
      rw [e]
      exact hl
end
end CP

end
section
set_option autoImplicit false
set_option Elab.async false
set_option linter.all false
set_option maxRecDepth 100000
set_option maxHeartbeats 4000000
/-! ## normal -/
namespace CP
open PySem L2 G Y
abbrev sNormal : Stmt := S.top 37
abbrev sFirstCut : Stmt := S.top 41
abbrev sLength : Stmt := S.top 42
def lmV : Option Int → V
  | none => .non
  | some L => .int L
/-- so many places, below a limit -/
def nl (n : Nat) : Option Int → Nat
  | none => n
  | some z => min n z.toNat
section
variable {P : Program} {w : World} {K : PySem.W.Frag} {mg : Str → Option Value} {base : Heap} {C : Addr}
def spFirst (C : Addr) : Sp := fun vs H Q _ => ∃ (a : Addr) (cs : List Nat), vs = [.ref a] ∧ ChAt C H cs a ∧ Q (.int ((N.hd cs : Nat) : Int)) H
theorem scFc : FnScope ["chain"] ["chain"] (defScope sFirstCut) := ⟨rfl, rfl, rfl, by decide +kernel, rfl, by decide +kernel, by decide +kernel⟩
theorem ok_first {f : Addr} {fd : FuncData} (F : Fun K "_first_cut" "_first_cut" sFirstCut f fd) (B : Bn mg) (T : Ct K mg C) : FnOk P w K mg base CX0 1 f fd ["chain"] (spFirst C) := by
  refine F.ok scFc (fun vs H Q E h => ?_) (fun cdv A outer s H vs Q E hr h => ?_)
  · obtain ⟨a, cs, rfl, _⟩ := h
    rfl
  · obtain ⟨a, cs, rfl, hc, k⟩ := h
    refine ⟨_, pss_one (ps_ret (pe_ifExp (pt_cmpR op_gt (pe_callB call_len_seq (by rfl) B.len PySem.boot_len (pa_cons (pe_fld (pv 0) rfl) pa_nil)) pe_int (nomark _)) (pe_ix ix_tup (pe_fld (pv 0) rfl) pe_int (fun _ _ => rfl)) pe_int)), ?_⟩
    obtain ⟨dx, t, u, h1, h2, h3⟩ := id hc
    refine ⟨_, rfl, a, C, dx, _, _, rfl, h1, T.cl, T.nC, cfl_cuts t u, t, _, rfl, .inr (SqT.of h2), _, _, rfl, rfl, _, rfl, ?_⟩
    rw [ni_len]
    cases cs with
    | nil => exact iteF k
    | cons c l =>
      rw [decide_eq_true (by rw [List.length_cons]; omega)]
      exact iteT ⟨_, rfl, a, C, dx, _, _, rfl, h1, T.cl, T.nC, cfl_cuts t u, t, _, _, .int (c : Int), rfl, rfl, SqT.of h2, at0, k⟩
def spLen : Sp := fun vs H Q _ => ∃ (n : Nat) (L : Option Int), vs = [.int (n : Int), lmV L] ∧ (∀ z, L = some z → 0 ≤ z) ∧ Q (.int ((nl n L : Nat) : Int)) H
theorem scLn : FnScope ["places", "limit"] ["places", "limit"] (defScope sLength) := ⟨rfl, rfl, rfl, by decide +kernel, rfl, by decide +kernel, by decide +kernel⟩
theorem ok_length {f : Addr} {fd : FuncData} (F : Fun K "_length" "_length" sLength f fd) (B : Bn mg) : FnOk P w K mg base CX0 1 f fd ["places", "limit"] spLen := by
  refine F.ok scLn (fun vs H Q E h => ?_) (fun cdv A outer s H vs Q E hr h => ?_)
  · obtain ⟨n, L, rfl, _⟩ := h
    rfl
  · obtain ⟨n, L, rfl, hL, k⟩ := h
    refine ⟨_, pss_one (ps_ret (pe_ifExp (pt_cmp (pc_isN (pv 1))) (pv 0) (pe_callB (call_min2 rfl) (by rfl) B.min (by decide +kernel) (pa_cons (pv 0) (pa_cons (pv 1) pa_nil))))), ?_⟩
    cases L with
    | none => exact ⟨_, rfl, _, rfl, iteT ⟨_, rfl, k⟩⟩
    | some z =>
      have hz := hL z rfl
      refine ⟨_, rfl, _, rfl, iteF ⟨_, rfl, _, rfl, _, _, rfl, ?_⟩⟩
      have e : (if z < (n : Int) then z else (n : Int)) = ((nl n (some z) : Nat) : Int) := by
        unfold nl
        dsimp only
        split <;> omega
      rw [e]
      exact k
theorem nl_le (n : Nat) (L : Option Int) : nl n L ≤ n := by
  cases L with
  | none => exact Nat.le_refl _
  | some z => exact Nat.min_le_left _ _
/-- how many places normal looks at -/
def nn (cs : List Nat) (L : Option Int) : Nat := nl (2 * N.hd cs) L
theorem hd_le {cs : List Nat} (h : Cuts cs) : N.hd cs ≤ 1000 := by
  cases cs with
  | nil => exact Nat.zero_le _
  | cons c l => exact h.le c List.mem_cons_self
theorem cuts_nrm {cs : List Nat} (h : Cuts cs) (L : Option Int) : Cuts (N.nrm (N.fm cs) (nn cs L)) := by
  obtain ⟨a, b, c⟩ := N.nrm_fall (f := N.fm cs) (nn cs L)
  have d := N.nrm_cuts h.fall h.le (nl_le (2 * N.hd cs) L)
  exact ⟨a, d, N.fall_len a d⟩
def spNormal (C : Addr) : Sp := fun vs H Q _ => ∃ (a : Addr) (L : Option Int) (cs : List Nat), vs = [.ref a, lmV L] ∧ ChAt C H cs a ∧ Cuts cs ∧ (∀ z, L = some z → 0 ≤ z) ∧ ∀ r H', Same H H' → ChAt C H' (N.nrm (N.fm cs) (nn cs L)) r → Q (.ref r) H'
theorem scNo : FnScope ["chain", "limit", "length"] ["chain", "limit"] (defScope sNormal) := ⟨rfl, rfl, rfl, by decide +kernel, rfl, by decide +kernel, by decide +kernel⟩
theorem ok_normal {f : Addr} {fd : FuncData} (F : Fun K "normal" "normal" sNormal f fd) (B : Bn mg) (T : Ct K mg C) (MW : Mw P w K mg base C) (DF : Df P w K mg base 1 "_first_cut" ["chain"] (spFirst C)) (DL : Df P w K mg base 1 "_length" ["places", "limit"] spLen)
    (DM : Df P w K mg base 1 "_marks" ["chain", "length"] (spMarks C)) (DP : Df P w K mg base 2 "least_periods" ["marks"] spLeastP) : FnOk P w K mg base CX0 6 f fd ["chain", "limit"] (spNormal C) := by
  obtain ⟨fI, fdI, GI, MK, bI⟩ := MW.ex
  obtain ⟨fF, fdF, GF, gF, kF, bF⟩ := DF.ex
  obtain ⟨fL, fdL, GL, gL, kL, bL⟩ := DL.ex
  obtain ⟨fM, fdM, GM, gM, kM, bM⟩ := DM.ex
  obtain ⟨fP, fdP, GP, gP, kP, bP⟩ := DP.ex
  refine F.ok scNo (fun vs H Q E h => ?_) (fun cdv A outer s H vs Q E hr h => ?_)
  · obtain ⟨a, L, cs, rfl, _⟩ := h
    rfl
  · obtain ⟨a, L, cs, rfl, hc, hl, hL, k⟩ := h
    refine ⟨_, pss_cons (ps_set (i := 2) scNo.nd rfl (Or.inl rfl) (pe_call GL (hr.mono (by decide)) rfl gL kL bL .nil pass0 (pa_cons (pe_op op_mul pe_int (pe_call GF (hr.mono (by decide)) rfl gF kF bF .nil pass0 (pa_cons (pv 0) pa_nil))) (pa_cons (pv 1) pa_nil))))
      (pss_one (ps_ret (pe_make MK GI (hr.mono (by decide)) rfl T.g bI .nil pass0 (pa_cons (pe_call GP (hr.mono (by decide)) rfl gP kP bP .nil pass0 (pa_cons (pe_call GM (hr.mono (by decide)) rfl gM kM bM .nil pass0 (pa_cons (pv 0) (pa_cons (pv 2) pa_nil))) pa_nil)) pa_nil)))), ?_⟩
    have h1 := hd_le hl
    refine set_then (i := 2) ⟨_, rfl, a, cs, rfl, hc, _, _, rfl, rfl, .inl ⟨by omega, by omega⟩, _, rfl, 2 * N.hd cs, L, rfl, hL, ?_⟩
    have h2 : nn cs L ≤ 2000 := Nat.le_trans (nl_le _ _) (by omega)
    refine ⟨_, rfl, _, rfl, a, nn cs L, cs, rfl, hc, hl, by omega, fun D G s1 hD => ⟨D, nn cs L, cs, rfl, hD, by omega, fun R G2 s2 hR => ?_⟩⟩
    exact fun x dx hx hdx ne => made_ch hx hdx ne (.inl hR) (cuts_nrm hl L) fun G3 s3 hr3 => ⟨rfl, k x G3 ((s1.trans s2).trans s3) hr3⟩
end
end CP

end
section
set_option autoImplicit false
set_option Elab.async false
set_option linter.all false
set_option maxRecDepth 100000
set_option maxHeartbeats 4000000
/-! ## lows, stairs, forms, fates: a mirror -/
namespace M
def lastT (acc : List Gate) : Int := match acc.getLast? with
  | some g => g.thr
  | none => 0
def lowStep (acc : List Gate) (g : Gate) : List Gate := if acc = [] ∨ g.thr < lastT acc then acc ++ [g] else acc
def lowsOf (l : List Gate) : List Gate := l.foldl lowStep []
theorem foldl_snoc {α β : Type} (f : β → α → β) (b : β) {l : List α} {i : Nat} {x : α} (h : l[i]? = some x) : (l.take (i + 1)).foldl f b = f ((l.take i).foldl f b) x := by
  rw [show l.take (i + 1) = l.take i ++ [x] by rw [List.take_add_one, h]; rfl, List.foldl_append]
  rfl
theorem lows_len : ∀ (l acc : List Gate), (l.foldl lowStep acc).length ≤ acc.length + l.length
  | [], acc => Nat.le_refl _
  | g :: l, acc => by
    have a := lows_len l (lowStep acc g)
    have b : (lowStep acc g).length ≤ acc.length + 1 := by
      unfold lowStep
      split
      · rw [List.length_append]
        exact Nat.le_refl _
      · omega
    rw [List.foldl_cons, List.length_cons]
    omega
def over (L : Option Int) (z : Int) : Bool := match L with
  | some u => decide (z ≥ u)
  | none => false
abbrev Stair := Int × Option Int
def stStep (L : Option Int) (acc : List Stair) (g : Gate) : List Stair :=
  if over L g.thr = true then acc else (if acc.getLast?.map (·.2) = some g.ans then acc.dropLast else acc) ++ [(g.thr, g.ans)]
def stairsOf (L : Option Int) (l : List Gate) : List Stair := l.foldl (stStep L) []
theorem stairs_len (L : Option Int) : ∀ (l : List Gate) (acc : List Stair), (l.foldl (stStep L) acc).length ≤ acc.length + l.length
  | [], acc => Nat.le_refl _
  | g :: l, acc => by
    have a := stairs_len L l (stStep L acc g)
    have b : (stStep L acc g).length ≤ acc.length + 1 := by
      unfold stStep
      split
      · omega
      · split
        · rw [List.length_append, List.length_dropLast]
          simp
        · rw [List.length_append]
          exact Nat.le_refl _
    rw [List.foldl_cons, List.length_cons]
    omega
def Way.lows (se : Bool) (w : Way) : List Gate := lowsOf (Way.gates se w)
theorem Way.lows_len (se : Bool) {w : Way} (h : w.size ≤ 40) : (Way.lows se w).length ≤ 80 := by
  have a := M.lows_len (Way.gates se w) []
  have b := Way.gates_len se w
  unfold Way.lows lowsOf
  simp only [List.length_nil] at a
  omega
theorem lows_mem : ∀ (l acc : List Gate), ∀ g ∈ l.foldl lowStep acc, g ∈ acc ∨ g ∈ l
  | [], acc, g, h => .inl h
  | x :: l, acc, g, h => by
    rcases lows_mem l (lowStep acc x) g h with h | h
    · unfold lowStep at h
      split at h
      · rcases List.mem_append.mp h with h | h
        · exact .inl h
        · rw [List.mem_singleton.mp h]
          exact .inr List.mem_cons_self
      · exact .inl h
    · exact .inr (List.mem_cons_of_mem _ h)
theorem Way.lows_mem {se : Bool} {w : Way} {g : Gate} (h : g ∈ Way.lows se w) : g ∈ Way.gates se w := by
  rcases M.lows_mem _ _ g h with h | h
  · cases h
  · exact h
def Way.stairs (se : Bool) (L : Option Int) (w : Way) : List Stair := stairsOf L (Way.lows se w)
def limOf (s : List Stair) (L : Option Int) : Option Int := match s.getLast? with
  | some x => some (max x.1 0)
  | none => L
inductive FateA where
  | silent (place : List Nat)
  | told (ans : Int) (place : List Nat)
  | comes (pieces : Nat) (last : Int)
end M
namespace CP
open PySem L2 G Y
abbrev sLows : Stmt := S.top 27
abbrev sChainOf : Stmt := S.top 45
abbrev sStairs : Stmt := S.top 48
abbrev sForm : Stmt := S.top 46
abbrev sFate : Stmt := S.top 47
theorem GsAt.last {H : Hp} {c : M.Gate} : ∀ {l : List M.Gate} {xs : List V}, GsAt H (l ++ [c]) xs → ∃ r v, xs = r ++ [v] ∧ GsAt H l r ∧ GAt H c v
  | [], xs, h => by
    cases h with
    | cons e h2 =>
      cases h2
      exact ⟨[], _, rfl, .nil, e⟩
  | x :: l, xs, h => by
    cases h with
    | cons e h2 =>
      obtain ⟨r, v, rfl, h3, h4⟩ := GsAt.last (l := l) h2
      exact ⟨_ :: r, v, rfl, .cons e h3, h4⟩
/-- a stair stands at a value -/
def SAt (H : Hp) (s : M.Stair) (v : V) : Prop := ∃ t, v = .ref t ∧ H t = some (.tup [.int s.1, ansV s.2])
inductive SsAt (H : Hp) : List M.Stair → List V → Prop
  | nil : SsAt H [] []
  | cons {g : M.Stair} {l : List M.Stair} {v : V} {xs : List V} : SAt H g v → SsAt H l xs → SsAt H (g :: l) (v :: xs)
theorem SsAt.mono {H H' : Hp} (s : Same H H') {l : List M.Stair} {xs : List V} (h : SsAt H l xs) : SsAt H' l xs := by
  induction h with
  | nil => exact .nil
  | cons e _ ih =>
    obtain ⟨t, e, h1⟩ := e
    exact .cons ⟨t, e, s _ _ h1⟩ ih
theorem SsAt.keep {H H' : Hp} (s : KeepT H H') {l : List M.Stair} {xs : List V} (h : SsAt H l xs) : SsAt H' l xs := by
  induction h with
  | nil => exact .nil
  | cons e _ ih =>
    obtain ⟨t, e, h1⟩ := e
    exact .cons ⟨t, e, s _ _ (fun _ z => by cases z) h1⟩ ih
theorem SsAt.snoc {H : Hp} {l : List M.Stair} {xs : List V} {g : M.Stair} {v : V} (h : SsAt H l xs) (e : SAt H g v) : SsAt H (l ++ [g]) (xs ++ [v]) := by
  induction h with
  | nil => exact .cons e .nil
  | cons e2 _ ih => exact .cons e2 ih
theorem SsAt.len {H : Hp} {l : List M.Stair} {xs : List V} (h : SsAt H l xs) : xs.length = l.length := by
  induction h with
  | nil => rfl
  | cons _ _ ih => rw [List.length_cons, List.length_cons, ih]
theorem SsAt.last {H : Hp} {c : M.Stair} : ∀ {l : List M.Stair} {xs : List V}, SsAt H (l ++ [c]) xs → ∃ r v, xs = r ++ [v] ∧ SsAt H l r ∧ SAt H c v
  | [], xs, h => by
    cases h with
    | cons e h2 =>
      cases h2
      exact ⟨[], _, rfl, .nil, e⟩
  | x :: l, xs, h => by
    cases h with
    | cons e h2 =>
      obtain ⟨r, v, rfl, h3, h4⟩ := SsAt.last (l := l) h2
      exact ⟨_ :: r, v, rfl, .cons e h3, h4⟩
theorem iteP {p : Prop} [Decidable p] {A B : Prop} (h : p) (a : A) : if decide p = true then A else B := by
  rw [decide_eq_true h]
  exact a
theorem iteN {p : Prop} [Decidable p] {A B : Prop} (h : ¬ p) (b : B) : if decide p = true then A else B := by
  rw [decide_eq_false h]
  exact b
theorem set_k {te : TE} {i : Nat} {t2 : TS} {D : Ends} {σ : L2.St} {H : Hp} (Z : V → Hp → Prop) (k : ∀ v H', Z v H' → t2 D (σ.set i (some v)) H') (h : (∀ v H', Z v H' → t2 D (σ.set i (some v)) H') → te σ H fun v H1 => t2 D (σ.set i (some v)) H1) : tSeq (tAsg te (gName i)) t2 D σ H := h k
theorem ans_eq (a b : Option Int) : scal (ansV a) (ansV b) = true ∧ decide (ansV a = ansV b) = decide (a = b) := by
  cases a with
  | none => cases b with
    | none => exact ⟨rfl, rfl⟩
    | some y => exact ⟨rfl, (decide_eq_false (fun h => by cases h)).trans (decide_eq_false (fun h => by cases h)).symm⟩
  | some x => cases b with
    | none => exact ⟨rfl, (decide_eq_false (fun h => by cases h)).trans (decide_eq_false (fun h => by cases h)).symm⟩
    | some y =>
      refine ⟨rfl, ?_⟩
      by_cases h : x = y
      · subst h
        exact (decide_eq_true rfl).trans (decide_eq_true rfl).symm
      · exact (decide_eq_false (fun z => h (V.int.inj z))).trans (decide_eq_false (fun z => h (Option.some.inj z))).symm
section
variable {P : Program} {w : World} {K : PySem.W.Frag} {mg : Str → Option Value} {base : Heap} {C CW : Addr}
/-! ### lows -/
def spLows (CW : Addr) (n : Nat) : Sp := fun vs H Q _ => ∃ (a : Addr) (se : Bool) (wy : M.Way), vs = [.ref a, .bl se] ∧ WP.WayAt CW H wy a ∧ M.Way.fine wy ∧ wy.depth ≤ n ∧ ∀ D xs H', Same H H' → H D = none → H' D = some (.lst xs) → GsAt H' (M.Way.lows se wy) xs → Q (.ref D) H'
theorem scLo : FnScope ["way", "sealed", "found", "gate"] ["way", "sealed"] (defScope sLows) := ⟨rfl, rfl, rfl, by decide +kernel, rfl, by decide +kernel, by decide +kernel⟩
theorem ok_lows {k n : Nat} {f : Addr} {fd : FuncData} (F : Fun K "lows" "lows" sLows f fd) (B : Bn mg) (DG : Dg P w K mg base k "gates" ["way", "sealed"] ["sealed"] (spGates CW n)) : FnOk P w K mg base CX0 (k + 1) f fd ["way", "sealed"] (spLows CW n) := by
  obtain ⟨fG, fdG, GG, gG, kG, bG⟩ := DG.ex
  refine F.ok scLo (fun vs H Q E h => ?_) (fun cdv A outer s H vs Q E hr h => ?_)
  · obtain ⟨a, se, wy, rfl, _⟩ := h
    rfl
  · obtain ⟨a, se, wy, rfl, hw, hf, hd, kk⟩ := h
    refine ⟨_, pss_cons (ps_set (i := 2) scLo.nd rfl (Or.inl rfl) (pe_lst pa_nil))
      (pss_cons (ps_for PassesOwn.never rfl (pi_list (pe_callK GG (hr.mono (by omega)) rfl gG kG bG pass0 (pa_cons (pv 0) pa_nil) (pk_cons (pv 1) pk_nil))) (pg_name (i := 3) scLo.nd rfl (Or.inl rfl)) (pss_one (ps_if (PW.pt (pw_or (pt_cmpR (op_eq) (pe_callB call_len_seq (by rfl) B.len PySem.boot_len (pa_cons (pv 2) pa_nil)) (pe_int) (nomark _)) (pw_or1 (pt_cmpR (op_lt) (pe_ix ix_tup (pv 3) (pe_int) (fun _ _ => rfl)) (pe_ix ix_tup (pe_ix ix_list (pv 2) (pe_un un_neg pe_int) (fun _ _ => rfl)) (pe_int) (fun _ _ => rfl)) (nomark _))))) (pss_one (ps_expr (pe_bm PySem.F.plainAttrs_list PySem.F.slot_list_append PySem.F.type_list_append mt_append (pv 2) (pa_cons (pv 3) pa_nil)))) (pss_nil))))
      (pss_one (ps_ret (pv 2)))), ?_⟩
    have gl := M.Way.gates_len se wy
    have fz := (fine_all hf).2.2
    refine set_then (i := 2) ⟨line2.2.2.2, fun D hD => ?_⟩
    have s1 := of_upd (o := .lst []) hD
    have eD0 : upd H D (.lst []) D = some (.lst []) := upd_same
    refine ⟨_, rfl, _, rfl, a, se, wy, rfl, hw.mono s1, hf, hd, fun E xsE H2 s2 nE eE gE => ?_⟩
    have s3 := s1.trans s2
    have nED : E ≠ D := fun z => by
      rw [z, eD0] at nE
      cases nE
    unfold M.Way.lows M.lowsOf at kk
    generalize M.Way.gates se wy = gs at gE gl kk
    have lE := gE.len
    refine ⟨E, rfl, ⟨_, SqL.of eE⟩, ?_⟩
    refine for_it walk_list (fun j σ G => Same H G ∧ G E = some (.lst xsE) ∧ GsAt G gs xsE ∧ ∃ (ys : List V) (u : Option V), σ = [some (.ref a), some (.bl se), some (.ref D), u] ∧ G D = some (.lst ys) ∧ GsAt G ((gs.take j).foldl M.lowStep []) ys)
      ⟨s3, eE, gE, [], _, rfl, s2 _ _ eD0, .nil⟩ (fun j σ G _ z => SqL.of z.2.1) ?_ ?_
    · rintro j v σ G G' hj ⟨s4, e4, g4, ys, u, rfl, eD, gD⟩ ⟨rfl, hx⟩
      obtain ⟨g, hg, hgat⟩ := g4.get hx
      have lD := gD.len
      have lL := M.lows_len (gs.take j) []
      have lK := List.length_take_le j gs
      simp only [List.length_nil] at lL
      have nx := M.foldl_snoc M.lowStep [] hg
      generalize (gs.take j).foldl M.lowStep [] = acc at gD lD lL nx
      have app : M.lowStep acc g = acc ++ [g] → Same H (upd G' D (.lst (ys ++ [v]))) ∧ upd G' D (.lst (ys ++ [v])) E = some (.lst xsE) ∧ GsAt (upd G' D (.lst (ys ++ [v]))) gs xsE ∧ ∃ (ys2 : List V) (u : Option V), [some (V.ref a), some (.bl se), some (.ref D), some v] = [some (.ref a), some (.bl se), some (.ref D), u] ∧ upd G' D (.lst (ys ++ [v])) D = some (.lst ys2) ∧ GsAt (upd G' D (.lst (ys ++ [v]))) ((gs.take (j + 1)).foldl M.lowStep []) ys2 := fun h => by
        have kp := put_keepT (o := .lst (ys ++ [v])) eD
        refine ⟨add_upd hD s4, ?_, g4.keep kp, _, _, rfl, upd_same, ?_⟩
        · rw [upd_ne nED]
          exact e4
        · rw [nx, h]
          obtain ⟨t, q, rfl, f1, f2⟩ := hgat
          exact (gD.keep kp).snoc ⟨t, q, rfl, kp _ _ (fun _ z => by cases z) f1, kp _ _ (fun _ z => by cases z) f2⟩
      refine ⟨_, rfl, D, _, rfl, .inl (SqL.of eD), rfl, _, rfl, ?_⟩
      rcases List.eq_nil_or_concat acc with e | ⟨r, y, e⟩
      · subst e
        have e0 : ys.length = 0 := lD
        refine iteP (by rw [e0]; rfl) (iteT ⟨_, rfl, .inl ⟨rfl, _, SqL.of eD⟩, _, rfl, D, ys, _, rfl, rfl, eD, small1000 (by omega), app ?_⟩)
        unfold M.lowStep
        rw [if_pos (.inl rfl)]
      · rw [List.concat_eq_append] at e
        subst e
        obtain ⟨ry, vy, rfl, _, hy⟩ := gD.last
        obtain ⟨t, q, rfl, f1, f2⟩ := id hgat
        obtain ⟨ty, qy, rfl, y1, y2⟩ := hy
        have i1 : ∀ {q : Addr} {z : Int} {o : V}, atI [V.ref q, .int z, o] (1 : Int) = some (.int z) := fun {q z o} => by exact atI_nat (j := 1) rfl
        refine iteN (fun z => by injection z with z; simp at z; omega) ⟨_, rfl, t, _, _, _, rfl, rfl, SqT.of f1, i1, _, rfl, _, rfl, D, _, _, _, rfl, rfl, SqL.of eD, atI_last _ _, ty, _, _, _, rfl, rfl, SqT.of y1, i1, _, _, rfl, rfl, _, rfl, ?_⟩
        have eL : M.lastT (r ++ [y]) = y.thr := by
          unfold M.lastT
          rw [List.getLast?_append]
          rfl
        refine ite2 (fun c => ?_) (fun c => ?_)
        · have c2 : g.thr < y.thr := of_decide_eq_true c
          refine ⟨_, rfl, .inl ⟨rfl, _, SqL.of eD⟩, _, rfl, D, _, _, rfl, rfl, eD, small1000 (by omega), app ?_⟩
          unfold M.lowStep
          rw [if_pos (.inr (by rw [eL]; exact c2))]
        · have c2 : ¬ g.thr < y.thr := fun z => c (decide_eq_true z)
          refine ⟨s4, e4, g4, _, _, rfl, eD, ?_⟩
          rw [nx]
          unfold M.lowStep
          rw [if_neg (by rintro (z | z); exact absurd z (by simp); rw [eL] at z; exact c2 z)]
          exact gD
    · rintro σ G ⟨s4, e4, g4, ys, u, rfl, eD, gD⟩
      rw [lE, List.take_length] at gD
      exact ⟨_, rfl, kk D ys G s4 hD eD gD⟩
/-! ### chain_of -/
def spChainOf (C CW : Addr) : Sp := fun vs H Q _ => ∃ (a : Addr) (wy : M.Way), vs = [.ref a] ∧ WP.WayAt CW H wy a ∧ M.Way.fine wy ∧ ∀ c H', Same H H' → ChAt C H' (M.chE false wy.head wy.steps []) c → Q (.ref c) H'
theorem scCo : FnScope ["way"] ["way"] (defScope sChainOf) := ⟨rfl, rfl, rfl, by decide +kernel, rfl, by decide +kernel, by decide +kernel⟩
theorem ok_chainof {f : Addr} {fd : FuncData} (F : Fun K "chain_of" "chain_of" sChainOf f fd) (DC : Df P w K mg base 7 "chains_before" ["way", "sealed"] (spChB C CW)) : FnOk P w K mg base CX0 8 f fd ["way"] (spChainOf C CW) := by
  obtain ⟨fC, fdC, GC, gC, kC, bC⟩ := DC.ex
  refine F.ok scCo (fun vs H Q E h => ?_) (fun cdv A outer s H vs Q E hr h => ?_)
  · obtain ⟨a, wy, rfl, _⟩ := h
    rfl
  · obtain ⟨a, wy, rfl, hw, hf, kk⟩ := h
    refine ⟨_, pss_one (ps_ret (pe_ix ix_list (pe_call GC (hr.mono (by omega)) rfl gC kC bC .nil pass0 (pa_cons (pv 0) (pa_cons (pe_bl) pa_nil))) (pe_un un_neg pe_int) (fun _ _ => rfl))), ?_⟩
    refine ⟨_, rfl, a, false, wy, rfl, hw, hf, fun D2 xs2 H2 s2 n2 e2 g2 => ?_⟩
    obtain ⟨X, eX⟩ := M.chB_last false wy.head wy.steps []
    rw [eX] at g2
    obtain ⟨r2, a2, rfl, hc2⟩ := g2.last
    exact ⟨_, rfl, D2, _, _, _, rfl, rfl, SqL.of e2, atI_last _ _, kk a2 H2 s2 hc2⟩
/-! ### stairs -/
def spStairs (CW : Addr) (n : Nat) : Sp := fun vs H Q _ => ∃ (a : Addr) (se : Bool) (wy : M.Way) (L : Option Int), vs = [.ref a, .bl se, lmV L] ∧ WP.WayAt CW H wy a ∧ M.Way.fine wy ∧ wy.depth ≤ n ∧ ∀ T xs H', Same H H' → H' T = some (.tup xs) → SsAt H' (M.Way.stairs se L wy) xs → Q (.ref T) H'
abbrev NSr : List Str := ["way", "sealed", "upto", "stairs", "_", "threshold", "answer"]
theorem scSr : FnScope NSr ["way", "sealed", "upto"] (defScope sStairs) := ⟨rfl, rfl, rfl, by decide +kernel, rfl, by decide +kernel, by decide +kernel⟩
theorem ok_stairs {k n : Nat} {f : Addr} {fd : FuncData} (F : Fun K "_stairs" "_stairs" sStairs f fd) (B : Bn mg) (DG : Dg P w K mg base k "lows" ["way", "sealed"] ["sealed"] (spLows CW n)) : FnOk P w K mg base CX0 (k + 1) f fd ["way", "sealed", "upto"] (spStairs CW n) := by
  obtain ⟨fG, fdG, GG, gG, kG, bG⟩ := DG.ex
  refine F.ok scSr (fun vs H Q E h => ?_) (fun cdv A outer s H vs Q E hr h => ?_)
  · obtain ⟨a, se, wy, L, rfl, _⟩ := h
    rfl
  · obtain ⟨a, se, wy, L, rfl, hw, hf, hd, kk⟩ := h
    refine ⟨_, pss_cons (ps_set (i := 3) scSr.nd rfl (Or.inl rfl) (pe_lst pa_nil))
      (pss_cons (ps_for PassesOwn.never rfl (pi_list (pe_callK GG (hr.mono (by omega)) rfl gG kG bG pass0 (pa_cons (pv 0) pa_nil) (pk_cons (pv 1) pk_nil))) (pg_tup (by rfl) (pgs_cons (pg_name (i := 4) scSr.nd rfl (Or.inl rfl)) (pgs_cons (pg_name (i := 5) scSr.nd rfl (Or.inl rfl)) (pgs_cons (pg_name (i := 6) scSr.nd rfl (Or.inl rfl)) pgs_nil)))) (pss_cons (ps_if (PW.pt (pw_and (pt_cmp (pc_notN (pv 2))) (pw_and1 (pt_cmpR (op_ge) (pv 5) (pv 2) (nomark _))))) (pss_one (ps_continue)) (pss_nil))
      (pss_cons (ps_if (PW.pt (pw_and (pt_cmpR (op_gt) (pe_callB call_len_seq (by rfl) B.len PySem.boot_len (pa_cons (pv 3) pa_nil)) (pe_int) (nomark _)) (pw_and1 (pt_cmpR (op_eq) (pe_ix ix_tup (pe_ix ix_list (pv 3) (pe_un un_neg pe_int) (fun _ _ => rfl)) (pe_int) (fun _ _ => rfl)) (pv 6) (nomark _))))) (pss_one (ps_expr (pe_bm0 PySem.F.plainAttrs_list PySem.F.slot_list_pop PySem.F.type_list_pop mt_pop (pv 3)))) (pss_nil))
      (pss_one (ps_expr (pe_bm PySem.F.plainAttrs_list PySem.F.slot_list_append PySem.F.type_list_append mt_append (pv 3) (pa_cons (pe_tup (pa_cons (pv 5) (pa_cons (pv 6) pa_nil))) pa_nil)))))))
      (pss_one (ps_ret (pe_callTy call_tuple_of (by rfl) B.tuple (by decide +kernel) (pa_cons (pv 3) pa_nil))))), ?_⟩
    have fz := (fine_all hf).2.2
    have gl := M.Way.lows_len se fz
    refine set_then (i := 3) ⟨line2.2.2.2, fun D hD => ?_⟩
    have s1 := of_upd (o := .lst []) hD
    have eD0 : upd H D (.lst []) D = some (.lst []) := upd_same
    refine ⟨_, rfl, _, rfl, a, se, wy, rfl, hw.mono s1, hf, hd, fun E xsE H2 s2 nE eE gE => ?_⟩
    have s3 := s1.trans s2
    have nED : E ≠ D := fun z => by
      rw [z, eD0] at nE
      cases nE
    unfold M.Way.stairs M.stairsOf at kk
    generalize M.Way.lows se wy = gs at gE gl kk
    have lE := gE.len
    refine ⟨E, rfl, ⟨_, SqL.of eE⟩, ?_⟩
    refine for_it walk_list (fun j σ G => Same H G ∧ G E = some (.lst xsE) ∧ GsAt G gs xsE ∧ ∃ (ys : List V) (p q r : Option V), σ = [some (.ref a), some (.bl se), some (lmV L), some (.ref D), p, q, r] ∧ G D = some (.lst ys) ∧ SsAt G ((gs.take j).foldl (M.stStep L) []) ys)
      ⟨s3, eE, gE, [], _, _, _, rfl, s2 _ _ eD0, .nil⟩ (fun j σ G _ z => SqL.of z.2.1) ?_ ?_
    · rintro j v σ G G' hj ⟨s4, e4, g4, ys, p, q, r, rfl, eD, gD⟩ ⟨rfl, hx⟩
      obtain ⟨g, hg, t, qp, rfl, f1, f2⟩ := g4.get hx
      have lD := gD.len
      have lL := M.stairs_len L (gs.take j) []
      have lK := List.length_take_le j gs
      simp only [List.length_nil] at lL
      have nx := M.foldl_snoc (M.stStep L) [] hg
      generalize (gs.take j).foldl (M.stStep L) [] = acc at gD lD lL nx
      refine ⟨t, _, rfl, SqT.of f1, rfl, _, _, rfl, _, _, rfl, _, _, rfl, rfl, ?_⟩
      have i1 : ∀ {z o : V}, atI [z, o] (1 : Int) = some o := fun {z o} => by exact atI_nat (j := 1) rfl
      refine if_then (fun σ' G5 => M.over L g.thr = false ∧ G5 = G' ∧ σ' = [some (V.ref a), some (.bl se), some (lmV L), some (.ref D), some (.ref qp), some (.int g.thr), some (ansV g.ans)]) ?r1 (fun k1 => ?_)
      case r1 =>
        rintro σ' G5 ⟨h0, eG, eσ⟩
        rw [eG, eσ]
        have e0 : M.stStep L acc g = (if acc.getLast?.map (·.2) = some g.ans then acc.dropLast else acc) ++ [(g.thr, g.ans)] := by
          unfold M.stStep
          rw [if_neg (by rw [h0]; decide)]
        refine if_then (fun σ' G5 => ∃ (ys5 : List V) (acc5 : List M.Stair), σ' = [some (V.ref a), some (.bl se), some (lmV L), some (.ref D), some (.ref qp), some (.int g.thr), some (ansV g.ans)] ∧ Same H G5 ∧ G5 E = some (.lst xsE) ∧ GsAt G5 gs xsE ∧ G5 D = some (.lst ys5) ∧ SsAt G5 acc5 ys5 ∧ ys5.length ≤ 80 ∧ M.stStep L acc g = acc5 ++ [(g.thr, g.ans)]) ?r2 (fun k2 => ?_)
        case r2 =>
          rintro σ' G6 ⟨ys5, acc5, rfl, s5, e5, g5, eD5, gD5, l5, h5⟩
          refine ⟨_, rfl, .inl ⟨rfl, _, SqL.of eD5⟩, _, rfl, _, rfl, line2.1, fun t2 ht2 => ?_⟩
          have m2 := of_upd (o := .tup [V.int g.thr, ansV g.ans]) ht2
          have eD6 := m2 _ _ eD5
          have kp := put_keepT (o := .lst (ys5 ++ [.ref t2])) eD6
          refine ⟨D, ys5, _, rfl, rfl, eD6, small1000 (by omega), add_upd hD (s5.trans m2), ?_, (g5.mono m2).keep kp, _, _, _, _, rfl, upd_same, ?_⟩
          · rw [upd_ne nED]
            exact m2 _ _ e5
          · rw [nx, h5]
            exact ((gD5.mono m2).keep kp).snoc ⟨t2, rfl, kp _ _ (fun _ z => by cases z) upd_same⟩
        refine ⟨_, rfl, D, _, rfl, .inl (SqL.of eD), _, _, rfl, rfl, _, rfl, ?_⟩
        rcases List.eq_nil_or_concat acc with e | ⟨ra, y, e⟩
        · subst e
          have e1 : ys.length = 0 := lD
          exact iteN (by rw [e1]; decide) (iteF (k2 _ _ ⟨ys, [], rfl, s4, e4, g4, eD, gD, by omega, e0⟩))
        · rw [List.concat_eq_append] at e
          subst e
          obtain ⟨ry, vy, rfl, gr, ty, rfl, y1⟩ := gD.last
          rw [List.getLast?_append, List.dropLast_concat] at e0
          refine iteP (by simp) ⟨_, rfl, _, rfl, D, _, _, _, rfl, rfl, SqL.of eD, atI_last _ _, ty, _, _, _, rfl, rfl, SqT.of y1, i1, _, rfl, (ans_eq y.2 g.ans).1, _, rfl, ?_⟩
          rw [(ans_eq y.2 g.ans).2]
          refine ite2 (fun c => ?_) (fun c => ?_)
          · have c2 : y.2 = g.ans := of_decide_eq_true c
            have kp := put_keepT (o := .lst ry) eD
            refine ⟨_, rfl, .inl ⟨rfl, _, SqL.of eD⟩, D, _, _, rfl, rfl, eD, (by show (ry ++ [V.ref ty])[(ry ++ [V.ref ty]).length - 1]? = some (V.ref ty); simp), ?_⟩
            rw [List.dropLast_concat]
            refine k2 _ _ ⟨ry, ra, rfl, add_upd hD s4, ?_, g4.keep kp, upd_same, gr.keep kp, ?_, ?_⟩
            · rw [upd_ne nED]
              exact e4
            · rw [List.length_append] at lD
              simp at lD lL
              omega
            · rw [e0, if_pos (by simp [c2])]
          · have c2 : ¬ y.2 = g.ans := fun z => c (decide_eq_true z)
            refine k2 _ _ ⟨_, _, rfl, s4, e4, g4, eD, gD, by omega, ?_⟩
            rw [e0, if_neg (by simp [c2])]
      cases L with
      | none => exact ⟨_, rfl, _, rfl, iteF (iteF (k1 _ _ ⟨rfl, rfl, rfl⟩))⟩
      | some u =>
        refine ⟨_, rfl, _, rfl, iteT ⟨_, rfl, _, rfl, _, _, rfl, rfl, _, rfl, ite2 (fun c => ?_) (fun c => ?_)⟩⟩
        · refine ⟨s4, e4, g4, ys, _, _, _, rfl, eD, ?_⟩
          rw [nx]
          unfold M.stStep M.over
          rw [if_pos c]
          exact gD
        · refine k1 _ _ ⟨?_, rfl, rfl⟩
          unfold M.over
          exact Bool.eq_false_iff.mpr c
    · rintro σ G ⟨s4, e4, g4, ys, p, q, r, rfl, eD, gD⟩
      rw [lE, List.take_length] at gD
      exact ⟨_, rfl, D, ys, rfl, .inl ⟨SqL.of eD, fun t2 ht2 => kk t2 ys _ (s4.trans (of_upd ht2)) upd_same (gD.mono (of_upd ht2))⟩⟩
/-! ### form -/
def FormAt (C : Addr) (H : Hp) (L : Option Int) (wy : M.Way) (t : Addr) : Prop := ∃ (s1 s2 c : Addr) (xs1 xs2 : List V), H t = some (.tup [.ref s1, .ref s2, .ref c]) ∧ H s1 = some (.tup xs1) ∧ SsAt H (M.Way.stairs true L wy) xs1 ∧ H s2 = some (.tup xs2) ∧ SsAt H (M.Way.stairs false L wy) xs2 ∧
  ChAt C H (N.nrm (N.fm (M.chE false wy.head wy.steps [])) (nn (M.chE false wy.head wy.steps []) (M.limOf (M.Way.stairs false L wy) L))) c
def spForm (C CW : Addr) (n : Nat) : Sp := fun vs H Q _ => ∃ (a : Addr) (wy : M.Way) (L : Option Int), vs = [.ref a, lmV L] ∧ WP.WayAt CW H wy a ∧ M.Way.fine wy ∧ wy.depth ≤ n ∧ (∀ z, L = some z → 0 ≤ z) ∧ ∀ t H', Same H H' → FormAt C H' L wy t → Q (.ref t) H'
abbrev NFm : List Str := ["way", "upto", "loose_stairs", "limit"]
theorem scFm : FnScope NFm ["way", "upto"] (defScope sForm) := ⟨rfl, rfl, rfl, by decide +kernel, rfl, by decide +kernel, by decide +kernel⟩
theorem ok_form {k n : Nat} {f : Addr} {fd : FuncData} (F : Fun K "form" "form" sForm f fd) (hk : 8 ≤ k) (B : Bn mg) (DS : Df P w K mg base k "_stairs" ["way", "sealed", "upto"] (spStairs CW n)) (DC : Df P w K mg base 8 "chain_of" ["way"] (spChainOf C CW)) (DN : Dg P w K mg base 6 "normal" ["chain", "limit"] ["limit"] (spNormal C)) :
    FnOk P w K mg base CX0 (k + 1) f fd ["way", "upto"] (spForm C CW n) := by
  obtain ⟨fS, fdS, GS, gS, kS, bS⟩ := DS.ex
  obtain ⟨fC, fdC, GC, gC, kC, bC⟩ := DC.ex
  obtain ⟨fN, fdN, GN, gN, kN, bN⟩ := DN.ex
  refine F.ok scFm (fun vs H Q E h => ?_) (fun cdv A outer s H vs Q E hr h => ?_)
  · obtain ⟨a, wy, L, rfl, _⟩ := h
    rfl
  · obtain ⟨a, wy, L, rfl, hw, hf, hd, hL, kk⟩ := h
    refine ⟨_, pss_cons (ps_set (i := 2) scFm.nd rfl (Or.inl rfl) (pe_call GS (hr.mono (by omega)) rfl gS kS bS .nil pass0 (pa_cons (pv 0) (pa_cons (pe_bl) (pa_cons (pv 1) pa_nil)))))
      (pss_cons (ps_set (i := 3) scFm.nd rfl (Or.inl rfl) (pe_ifExp (pt_cmpR (op_gt) (pe_callB call_len_seq (by rfl) B.len PySem.boot_len (pa_cons (pv 2) pa_nil)) (pe_int) (nomark _)) (pe_callB (call_max2 rfl) (by rfl) B.max (by decide +kernel) (pa_cons (pe_ix ix_tup (pe_ix ix_tup (pv 2) (pe_un un_neg pe_int) (fun _ _ => rfl)) (pe_int) (fun _ _ => rfl)) (pa_cons (pe_int) pa_nil))) (pv 1)))
      (pss_one (ps_ret (pe_tup (pa_cons (pe_call GS (hr.mono (by omega)) rfl gS kS bS .nil pass0 (pa_cons (pv 0) (pa_cons (pe_bl) (pa_cons (pv 1) pa_nil)))) (pa_cons (pv 2) (pa_cons (pe_callK GN (hr.mono (by omega)) rfl gN kN bN pass0 (pa_cons (pe_call GC (hr.mono (by omega)) rfl gC kC bC .nil pass0 (pa_cons (pv 0) pa_nil)) pa_nil) (pk_cons (pv 3) pk_nil)) pa_nil))))))), ?_⟩
    have ckE : M.Ck (M.chE false wy.head wy.steps []) := M.ck_all M.ck_nil (fine_all hf).1
    refine set_then (i := 2) ⟨_, rfl, _, rfl, a, false, wy, L, rfl, hw, hf, hd, fun T1 xs1 H1 s1 e1 g1 => ?_⟩
    refine set_k (fun v G => v = lmV (M.limOf (M.Way.stairs false L wy) L) ∧ G = H1) (fun v G hv => ?_) (fun k1 => ?_)
    · obtain ⟨rfl, rfl⟩ := hv
      refine ⟨_, rfl, _, rfl, a, true, wy, L, rfl, hw.mono s1, hf, hd, fun T2 xs2 H2 s2 e2 g2 => ?_⟩
      refine ⟨_, rfl, _, rfl, a, wy, rfl, (hw.mono s1).mono s2, hf, fun c H3 s3 hc => ?_⟩
      refine ⟨_, rfl, c, _, _, rfl, hc, ck_cuts ckE, ?_, fun r H4 s4 hr4 => ?_⟩
      · intro z hz
        unfold M.limOf at hz
        split at hz
        · cases hz
          omega
        · exact hL z hz
      · refine ⟨line2.2.1, fun t ht => kk t _ ?_ ?_⟩
        · exact (((s1.trans s2).trans s3).trans s4).trans (of_upd ht)
        · have s34 := (s3.trans s4).trans (of_upd (o := .tup [V.ref T2, .ref T1, .ref r]) ht)
          have s24 := s2.trans s34
          exact ⟨T2, T1, r, xs2, xs1, upd_same, s34 _ _ e2, g2.mono s34, s24 _ _ e1, g1.mono s24, hr4.mono (of_upd ht)⟩
    · have l1 := g1.len
      unfold M.limOf at k1
      generalize M.Way.stairs false L wy = st at g1 k1 l1
      refine ⟨_, rfl, T1, _, rfl, .inr (SqT.of e1), _, _, rfl, rfl, _, rfl, ?_⟩
      rcases List.eq_nil_or_concat st with e | ⟨ra, y, e⟩
      · subst e
        have e0 : xs1.length = 0 := l1
        exact iteN (by rw [e0]; decide) ⟨_, rfl, k1 _ _ ⟨rfl, rfl⟩⟩
      · rw [List.concat_eq_append] at e
        subst e
        obtain ⟨ry, vy, rfl, gr, ty, rfl, y1⟩ := g1.last
        have i0 : ∀ {z o : V}, atI [z, o] (0 : Int) = some z := fun {z o} => by exact atI_nat (xs := [z, o]) (j := 0) rfl
        refine iteP (by simp) ⟨_, rfl, _, rfl, T1, _, _, _, rfl, rfl, SqT.of e1, atI_last _ _, ty, _, _, _, rfl, rfl, SqT.of y1, i0, _, _, rfl, k1 _ _ ⟨?_, rfl⟩⟩
        rw [List.getLast?_append]
        show V.int (if 0 > y.1 then 0 else y.1) = V.int (max y.1 0)
        congr 1
        split <;> omega
/-! ### fate -/
def FAt (H : Hp) (fa : M.FateA) (v : V) : Prop := match fa with
  | .silent p => ∃ t q, v = .ref t ∧ H t = some (.tup [.str "silent", .ref q]) ∧ H q = some (.tup (ni p))
  | .told z p => ∃ t q, v = .ref t ∧ H t = some (.tup [.str "told", .int z, .ref q]) ∧ H q = some (.tup (ni p))
  | .comes n l => ∃ t, v = .ref t ∧ H t = some (.tup [.str "comes", .int (n : Int), .int l])
def fateG (g : M.Gate) : M.FateA := match g.ans with
  | none => .silent g.place
  | some z => .told z g.place
def fateOf (l : List M.Gate) (b : Nat) (cs : List Nat) : M.FateA := match l.find? (fun g => decide (g.thr < (b : Int))) with
  | some g => fateG g
  | none => .comes (N.PC cs b) (stretchZ cs b (N.PC cs b))
def spFate (C CW : Addr) (n : Nat) : Sp := fun vs H Q _ => ∃ (a : Addr) (b : Nat) (se : Bool) (wy : M.Way), vs = [.ref a, .int (b : Int), .bl se] ∧ WP.WayAt CW H wy a ∧ M.Way.fine wy ∧ wy.depth ≤ n ∧ b ≤ 1000000000000000000 ∧ ∀ v H', Same H H' → FAt H' (fateOf (M.Way.lows se wy) b (M.chE se wy.head wy.steps [])) v → Q v H'
abbrev NFt : List Str := ["way", "body", "sealed", "place", "threshold", "answer", "chain", "pieces"]
theorem scFt : FnScope NFt ["way", "body", "sealed"] (defScope sFate) := ⟨rfl, rfl, rfl, by decide +kernel, rfl, by decide +kernel, by decide +kernel⟩
theorem PC_pos {cs : List Nat} (f : N.Fall cs) (b : Nat) : 1 ≤ N.PC cs b := by
  unfold N.PC
  split
  · exact Nat.le_refl _
  · exact N.L_pos cs f b (by omega)
theorem ok_fate {k n : Nat} {f : Addr} {fd : FuncData} (F : Fun K "fate" "fate" sFate f fd) (hk : 7 ≤ k) (T : Ct K mg C) (DB : Df P w K mg base 3 "is_body" ["value"] (WP.spIn1 0 1000000000000000000)) (DG : Dg P w K mg base k "lows" ["way", "sealed"] ["sealed"] (spLows CW n)) (DC : Df P w K mg base 7 "chains_before" ["way", "sealed"] (spChB C CW))
    (MP : Me P w K mg base C 2 "pieces" ["self", "body"] (spCPieces C)) (MX : Me P w K mg base C 3 "stretch" ["self", "body", "number"] (spCStretch C)) : FnOk P w K mg base CX0 (k + 1) f fd ["way", "body", "sealed"] (spFate C CW n) := by
  obtain ⟨fB, fdB, GB, gB, kB, bB⟩ := DB.ex
  obtain ⟨fG, fdG, GG, gG, kG, bG⟩ := DG.ex
  obtain ⟨fC, fdC, GC, gC, kC, bC⟩ := DC.ex
  obtain ⟨fP, fdP, GP, mP, bP⟩ := MP.ex
  obtain ⟨fX, fdX, GX, mX, bX⟩ := MX.ex
  refine F.ok scFt (fun vs H Q E h => ?_) (fun cdv A outer s H vs Q E hr h => ?_)
  · obtain ⟨a, b, se, wy, rfl, _⟩ := h
    rfl
  · obtain ⟨a, b, se, wy, rfl, hw, hf, hd, hb, kk⟩ := h
    refine ⟨_, pss_cons (ps_if (pt_not (pt_val (pe_call GB (hr.mono (by omega)) rfl gB kB bB .nil pass0 (pa_cons (pv 1) pa_nil)))) (ps_dead) (pss_nil))
      (pss_cons (ps_for PassesOwn.never rfl (pi_list (pe_callK GG (hr.mono (by omega)) rfl gG kG bG pass0 (pa_cons (pv 0) pa_nil) (pk_cons (pv 2) pk_nil))) (pg_tup (by rfl) (pgs_cons (pg_name (i := 3) scFt.nd rfl (Or.inl rfl)) (pgs_cons (pg_name (i := 4) scFt.nd rfl (Or.inl rfl)) (pgs_cons (pg_name (i := 5) scFt.nd rfl (Or.inl rfl)) pgs_nil)))) (pss_one (ps_if (pt_cmpR (op_lt) (pv 4) (pv 1) (nomark _)) (pss_one (ps_ret (pe_ifExp (pt_cmp (pc_isN (pv 5))) (pe_tup (pa_cons (pe_str) (pa_cons (pv 3) pa_nil))) (pe_tup (pa_cons (pe_str) (pa_cons (pv 5) (pa_cons (pv 3) pa_nil))))))) (pss_nil))))
      (pss_cons (ps_set (i := 6) scFt.nd rfl (Or.inl rfl) (pe_ix ix_list (pe_call GC (hr.mono (by omega)) rfl gC kC bC .nil pass0 (pa_cons (pv 0) (pa_cons (pv 2) pa_nil))) (pe_un un_neg pe_int) (fun _ _ => rfl)))
      (pss_cons (ps_set (i := 7) scFt.nd rfl (Or.inl rfl) (pe_meth (pv 6) T.cl mP GP (hr.mono (by omega)) bP .nil pass0 (pa_cons (pv 1) pa_nil)))
      (pss_one (ps_ret (pe_tup (pa_cons (pe_str) (pa_cons (pv 7) (pa_cons (pe_meth (pv 6) T.cl mX GX (hr.mono (by omega)) bX .nil pass0 (pa_cons (pv 1) (pa_cons (pv 7) pa_nil))) pa_nil))))))))), ?_⟩
    have ckE : M.Ck (M.chE se wy.head wy.steps []) := M.ck_all M.ck_nil (fine_all hf).1
    refine ⟨_, rfl, (b : Int), rfl, ?_⟩
    rw [decide_eq_true (by omega)]
    refine ⟨_, rfl, iteF ?_⟩
    refine ⟨_, rfl, _, rfl, a, se, wy, rfl, hw, hf, hd, fun E xsE H2 s2 nE eE gE => ?_⟩
    generalize M.Way.lows se wy = gs at gE kk
    have lE := gE.len
    unfold fateOf at kk
    refine ⟨E, rfl, ⟨_, SqL.of eE⟩, ?_⟩
    refine for_it walk_list (fun j σ G => G = H2 ∧ (∃ (p q r o u : Option V), σ = [some (.ref a), some (.int (b : Int)), some (.bl se), p, q, r, o, u]) ∧ gs.find? (fun g => decide (g.thr < (b : Int))) = (gs.drop j).find? (fun g => decide (g.thr < (b : Int))))
      ⟨rfl, ⟨_, _, _, _, _, rfl⟩, rfl⟩ (fun j σ G _ z => by rw [z.1]; exact SqL.of eE) ?_ ?_
    · rintro j v σ G G' hj ⟨rfl, ⟨p, q, r, o, u, rfl⟩, eq⟩ ⟨rfl, hx⟩
      obtain ⟨g, hg, t, qp, rfl, f1, f2⟩ := gE.get hx
      refine ⟨t, _, rfl, SqT.of f1, rfl, _, _, rfl, _, _, rfl, _, _, rfl, rfl, ?_⟩
      have ed : gs.drop j = g :: gs.drop (j + 1) := by
        obtain ⟨hi3, ex⟩ := List.getElem?_eq_some_iff.mp hg
        rw [← ex, ← List.drop_eq_getElem_cons hi3]
      rw [ed] at eq
      refine ⟨_, rfl, _, rfl, _, _, rfl, rfl, _, rfl, ite2 (fun c => ?_) (fun c => ?_)⟩
      · rw [List.find?_cons_of_pos (p := fun (g : M.Gate) => decide (g.thr < (b : Int))) c] at eq
        have kk : ∀ v H', Same H H' → FAt H' (fateG g) v → Q v H' := by
          rw [eq] at kk
          exact kk
        unfold fateG at kk
        refine ⟨_, rfl, ?_⟩
        cases ea : g.ans with
        | none =>
          rw [ea] at kk
          refine ⟨_, rfl, iteT ⟨_, rfl, line2.1, fun t2 ht2 => kk _ _ (s2.trans (of_upd ht2)) ?_⟩⟩
          exact ⟨t2, qp, rfl, upd_same, of_upd ht2 _ _ f2⟩
        | some z =>
          rw [ea] at kk
          refine ⟨_, rfl, iteF ⟨_, rfl, _, rfl, line2.2.1, fun t2 ht2 => kk _ _ (s2.trans (of_upd ht2)) ?_⟩⟩
          exact ⟨t2, qp, rfl, upd_same, of_upd ht2 _ _ f2⟩
      · refine ⟨rfl, ⟨_, _, _, _, _, rfl⟩, ?_⟩
        rw [eq, List.find?_cons_of_neg (p := fun (g : M.Gate) => decide (g.thr < (b : Int))) c]
    · rintro σ G ⟨rfl, ⟨p, q, r, o, u, rfl⟩, eq⟩
      rw [lE, List.drop_length] at eq
      have kk : ∀ v H', Same H H' → FAt H' (.comes (N.PC (M.chE se wy.head wy.steps []) b) (stretchZ (M.chE se wy.head wy.steps []) b (N.PC (M.chE se wy.head wy.steps []) b))) v → Q v H' := by
        rw [eq] at kk
        exact kk
      dsimp only
      refine set_then (i := 6) ?_
      refine ⟨_, rfl, _, rfl, a, se, wy, rfl, hw.mono s2, hf, fun D3 xs3 H3 s3 n3 e3 g3 => ?_⟩
      obtain ⟨X, eX⟩ := M.chB_last se wy.head wy.steps []
      rw [eX] at g3
      obtain ⟨r3, a3, rfl, hc3⟩ := g3.last
      refine ⟨_, rfl, D3, _, _, _, rfl, rfl, SqL.of e3, atI_last _ _, ?_⟩
      have pp := PC_pos ckE.fall b
      obtain ⟨dx, fs, i1, i2⟩ := hc3.ins nk2.1
      refine set_then (i := 7) ⟨_, rfl, a3, dx, fs, rfl, i1, i2, _, rfl, a3, b, _, rfl, hc3, ck_cuts ckE, fun H4 s4 => ?_⟩
      have hc4 := hc3.mono s4
      obtain ⟨dx, fs, i1, i2⟩ := hc4.ins nk2.2.2.2
      refine ⟨_, rfl, _, rfl, a3, dx, fs, rfl, i1, i2, _, rfl, _, rfl, a3, b, _, _, rfl, hc4, ck_cuts ckE, pp, Nat.le_refl _, fun H5 s5 => ?_⟩
      refine ⟨line2.2.1, fun t ht => kk _ _ ((((s2.trans s3).trans s4).trans s5).trans (of_upd ht)) ⟨t, rfl, upd_same⟩⟩
end
end CP

end
section
set_option autoImplicit false
set_option Elab.async false
set_option linter.all false
set_option maxRecDepth 100000
set_option maxHeartbeats 4000000
/-! ## repr of small values; _law_same, _law_choose -/
namespace QR
open PySem PySem.Spec PyProof.Rows L2 G
theorem shown_fits20 {d : PyData} (h : d.leavesShort 20 = true) (hb : d.bulk ≤ 100000) : d.shown.length ≤ sizeLine := by
  have a := PyData.shown_le_bulk 20 (by decide) d h
  have b : (20 + 2) * d.bulk + 20 ≤ 3000000 := by omega
  exact Nat.le_trans (Nat.le_trans a b) (by decide)
inductive Sh (K : PySem.W.Frag) (H : Hp) : V → Str → Prop
  | non : Sh K H .non "None"
  | bl (b : Bool) : Sh K H (.bl b) (if b then "True" else "False")
  | int (i : Int) : i.natAbs.log2 < 1920 → Sh K H (.int i) (toString i)
  | ref {a : Addr} {d : PyData} : Dr K H true (.ref a) d → d.showable = true → d.depth ≤ 20 → d.leavesShort 20 = true → d.bulk ≤ 100000 → Sh K H (.ref a) d.shown
def rReprS (K : PySem.W.Frag) : List V → Hp → VK → Prop := fun xs H Q => ∃ x t, xs = [x] ∧ Sh K H x t ∧ Q (.str t) H
section
variable {X : Cx}
theorem call_reprS (hg : X.A.guards = some []) (hu : X.A.units + 64 < cLine) : CallR X (.builtin "repr") (rReprS X.K) := by
  intro pins s σ H xs us Q I r h
  obtain ⟨x, t, rfl, hs, q⟩ := h
  cases hs with
  | non => exact call_reprF pins s σ H _ us Q I r (.inl ⟨rfl, q⟩)
  | bl b => exact call_reprF pins s σ H _ us Q I r (.inr (.inl ⟨b, rfl, q⟩))
  | int i hi => exact call_reprF pins s σ H _ us Q I r (.inr (.inr ⟨i, rfl, hi, q⟩))
  | @ref a d hd h1 h2 h3 h4 =>
    cases r with
    | cons rx rr =>
      cases rr
      cases rx
      obtain ⟨as, hr, _⟩ := Dr.reads I d _ _ hd rfl
      refine repr_of_reads' hr h1 (fun z => ?_) hg (by omega) (fun _ _ e => e) (fun h' u tk k => ⟨.str d.shown, H, I.kept (t' := tk) k, ⟨u, rfl⟩, q⟩) (shown_fits20 h3 h4)
      rw [Dr.noDict d _ hd] at z
      cases z
theorem ix_or {r1 r2 : R2} (h1 : IxR X r1) (h2 : IxR X r2) : IxR X (fun x y H Q => r1 x y H Q ∨ r2 x y H Q) := fun value slice pins s σ H x y v u Q I rx ry h hs => h.elim (fun h => h1 value slice pins s σ H x y v u Q I rx ry h hs) fun h => h2 value slice pins s σ H x y v u Q I rx ry h hs
end
end QR
namespace S
open PySem L2 QR
section
variable {P : Program} {w : World} {K : PySem.W.Frag} {mg : Str → Option Value} {base : Heap}
def spChoose (K : PySem.W.Frag) : Sp := fun vs H Q _ => ∃ (p l : Addr) (r m : Int) (xs : List V), vs = [.ref p, .ref l] ∧ H p = some (.lst (Two r m)) ∧ Fine r m ∧ l ≠ p ∧ (SqL K H l xs ∨ SqT K H l xs) ∧ 1 ≤ xs.length ∧ xs.length ≤ 1000 ∧
  ∀ (j : Nat) (x : V) (r' m' : Int), Fine r' m' → xs[j]? = some x → Q x (upd H p (.lst (Two r' m')))
theorem scCh : FnScope ["stream", "items"] ["stream", "items"] (defScope sPick) := ⟨rfl, rfl, rfl, by decide +kernel, rfl, by decide +kernel, by decide +kernel⟩
theorem keepL {H : Hp} {p l : Addr} {o : HO} {xs : List V} (hne : l ≠ p) (h : SqL K H l xs) : SqL K (upd H p o) l xs := by
  rcases h with (h | ⟨o, h⟩) | h
  · exact .inl (.inl (by rw [upd_ne hne]; exact h))
  · exact .inl (.inr ⟨o, by rw [upd_ne hne]; exact h⟩)
  · exact .inr h
theorem keepS {H : Hp} {p l : Addr} {o : HO} {xs : List V} (hne : l ≠ p) (h : SqT K H l xs) : SqT K (upd H p o) l xs := by
  rcases h with (h | ⟨o, h⟩) | h
  · exact .inl (.inl (by rw [upd_ne hne]; exact h))
  · exact .inl (.inr ⟨o, by rw [upd_ne hne]; exact h⟩)
  · exact .inr h
theorem ok_choose {f : Addr} {fd : FuncData} (F : Fun K "_law_choose" "_law_choose" sPick f fd) (hlen : mg "len" = none) (DR : Y.Df P w K mg base 1 "_law_draw" ["stream", "size"] spDraw) : FnOk P w K mg base CX0 2 f fd ["stream", "items"] (spChoose K) := by
  obtain ⟨fD, fdD, GD, gD, kD, bD⟩ := DR.ex
  refine F.ok scCh (fun vs H Q E h => ?_) (fun cdv A outer s H vs Q E hr h => ?_)
  · obtain ⟨p, l, r, m, xs, rfl, _⟩ := h
    rfl
  · obtain ⟨p, l, r, m, xs, rfl, hp, hf, hne, hL, l1, l2, k⟩ := h
    refine ⟨_, pss_one (ps_ret (pe_ix (ix_or ix_list ix_tup) (pv 1) (pe_call GD hr rfl gD kD bD .nil pass0 (pa_cons (pv 0) (pa_cons (pe_callB call_len_seq (by rfl) hlen PySem.boot_len (pa_cons (pv 1) pa_nil)) pa_nil))) (fun _ _ => rfl))), ?_⟩
    refine ⟨_, rfl, _, rfl, _, rfl, l, xs, rfl, hL, p, r, m, _, rfl, hp, hf, by omega, ?_, fun j r' m' hf' h0 h1 => ?_⟩
    · exact PySem.Flt.log2_lt_of (k := 9000) (by decide) (Nat.lt_of_lt_of_le (by omega : _ < 1001) (Nat.le_trans (by decide : 1001 ≤ 2 ^ 10) (Nat.pow_le_pow_right (by decide) (by decide))))
    · obtain ⟨n, rfl⟩ := Int.eq_ofNat_of_zero_le h0
      have hn : n < xs.length := by omega
      have hit : xs[n]? = some xs[n] := List.getElem?_eq_getElem hn
      rcases hL with hL | hL
      · exact .inl ⟨l, xs, _, xs[n], rfl, rfl, keepL hne hL, atI_nat hit, k n _ r' m' hf' hit⟩
      · exact .inr ⟨l, xs, _, xs[n], rfl, rfl, keepS hne hL, atI_nat hit, k n _ r' m' hf' hit⟩
end
end S

end
section
set_option autoImplicit false
set_option Elab.async false
set_option linter.all false
set_option maxRecDepth 100000
set_option maxHeartbeats 4000000
/-! ## draws: what they leave -/
namespace Y
open PySem L2 G
/-- all but the source at p stays -/
def Bt (p : Addr) (H H' : Hp) : Prop := (∀ a o, a ≠ p → H a = some o → H' a = some o) ∧ S.At H' p
theorem Bt.trans {p : Addr} {H H1 H2 : Hp} (a : Bt p H H1) (b : Bt p H1 H2) : Bt p H H2 := ⟨fun x o n e => b.1 x o n (a.1 x o n e), b.2⟩
theorem Bt.same {p : Addr} {H H' : Hp} (s : Same H H') (h : S.At H p) : Bt p H H' := by
  obtain ⟨r, m, e, f⟩ := h
  exact ⟨fun a o _ e2 => s _ _ e2, r, m, s _ _ e, f⟩
theorem Bt.put {p : Addr} {H : Hp} {r m : Int} (f : S.Fine r m) : Bt p H (upd H p (.lst (S.Two r m))) := ⟨fun a o n e => by rw [upd_ne n]; exact e, r, m, upd_same, f⟩
theorem Bt.new {p u : Addr} {H : Hp} (o : HO) (h : S.At H p) (hu : H u = none) : Bt p H (upd H u o) := Bt.same (of_upd hu) h
theorem at_ne {H : Hp} {p L : Addr} (h : S.At H p) (hL : H L = none) : L ≠ p := fun e => by
  obtain ⟨r, m, e2, _⟩ := h
  rw [e, e2] at hL
  cases hL
theorem bt_lst {p L : Addr} {H H' : Hp} {o : HO} (b : Bt p H H') (ne : L ≠ p) (h : H L = some o) : H' L = some o := b.1 L _ ne h
theorem sameAt {p : Addr} {H H' : Hp} (s : Same H H') (h : S.At H p) : S.At H' p := by
  obtain ⟨r, m, e, f⟩ := h
  exact ⟨r, m, s _ _ e, f⟩
theorem sameBt {p : Addr} {H G G' : Hp} (s : Same H G) (n : H p = none) (b : Bt p G G') : Same H G' := fun a o e => b.1 a o (fun z => by rw [z, n] at e; cases e) (s a o e)
theorem draw_at {H : Hp} {Q : VK} {E : XK} {p : Addr} {n : Int} (h : S.At H p) (n1 : 1 ≤ n) (n2 : n.natAbs.log2 < 9000) (k : ∀ j H', 0 ≤ j → j < n → Bt p H H' → Q (.int j) H') : S.spDraw [.ref p, .int n] H Q E := by
  obtain ⟨r, m, hp, hf⟩ := h
  exact ⟨p, r, m, n, rfl, hp, hf, n1, n2, fun j r1 m1 f1 j0 j1 => k j _ j0 j1 (Bt.put f1)⟩
/-- a draw as it stands in an expression: below a written number, or below what a name holds -/
theorem draw_vv {σ : L2.St} {H : Hp} {Q : VK} {E : XK} {p : Addr} {i : Nat} {n : Int} (hσ : σ[i]? = some (some (.ref p))) (h : S.At H p) (n1 : 1 ≤ n) (n2 : n.natAbs.log2 < 9000) (k : ∀ j H', 0 ≤ j → j < n → Bt p H H' → Q (.int j) H') : tCall S.spDraw [] E (tCons (tVar i) (tCons (tC (.int n)) tNil)) σ H Q := ⟨_, hσ, draw_at (E := E) h n1 n2 k⟩
theorem draw_var {σ : L2.St} {H : Hp} {Q : VK} {E : XK} {p : Addr} {i j : Nat} {n : Int} (hσ : σ[i]? = some (some (.ref p))) (hj : σ[j]? = some (some (.int n))) (h : S.At H p) (n1 : 1 ≤ n) (n2 : n.natAbs.log2 < 9000) (k : ∀ j H', 0 ≤ j → j < n → Bt p H H' → Q (.int j) H') : tCall S.spDraw [] E (tCons (tVar i) (tCons (tVar j) tNil)) σ H Q := ⟨_, hσ, _, hj, draw_at (E := E) h n1 n2 k⟩
theorem draw_of {σ : L2.St} {H : Hp} {Q : VK} {p : Addr} {E : XK} {i : Nat} {c n : Int} (hσ : σ[i]? = some (some (.ref p))) (h : S.At H p) (n1 : 1 ≤ n) (n2 : n.natAbs.log2 < 9000) (k : ∀ j H', 0 ≤ j → j < n → Bt p H H' → Q (.int (c + j)) H') :
    tOp (rI0 fun i j => .int (i + j)) (tC (.int c)) (tCall S.spDraw [] E (tCons (tVar i) (tCons (tC (.int n)) tNil))) σ H Q := by
  obtain ⟨r, m, hp, hf⟩ := h
  exact ⟨_, hσ, p, r, m, n, rfl, hp, hf, n1, n2, fun j r1 m1 f1 j0 j1 => ⟨_, _, rfl, rfl, k j _ j0 j1 (Bt.put f1)⟩⟩
theorem draw_w {σ : L2.St} {H : Hp} {Q : VK} {E : XK} {p : Addr} {i j : Nat} {c n : Int} (hσ : σ[i]? = some (some (.ref p))) (hj : σ[j]? = some (some (.int n))) (h : S.At H p) (n1 : 1 ≤ n) (n2 : n.natAbs.log2 < 9000) (k : ∀ x H', 0 ≤ x → x < n → Bt p H H' → Q (.int (c + x)) H') :
    tOp (rI0 fun i j => .int (i + j)) (tC (.int c)) (tCall S.spDraw [] E (tCons (tVar i) (tCons (tVar j) tNil))) σ H Q := by
  obtain ⟨r, m, hp, hf⟩ := h
  exact ⟨_, hσ, _, hj, p, r, m, n, rfl, hp, hf, n1, n2, fun x r1 m1 f1 j0 j1 => ⟨_, _, rfl, rfl, k x _ j0 j1 (Bt.put f1)⟩⟩
/-- a pick from a list just made -/
theorem pick_at {K : PySem.W.Frag} {H : Hp} {Q : VK} {p l : Addr} {E : XK} {xs : List V} (h : S.At H p) (hl : H l = none) (h1 : 1 ≤ xs.length) (h2 : xs.length ≤ 1000) (k : ∀ x H', x ∈ xs → Bt p H H' → Q x H') : S.spPick K [.ref p, .ref l] (upd H l (.lst xs)) Q E := by
  obtain ⟨r, m, hp, hf⟩ := h
  have lp : l ≠ p := fun z => by
    rw [z, hp] at hl
    cases hl
  exact ⟨p, l, r, m, xs, rfl, by rw [upd_ne lp.symm]; exact hp, hf, lp, SqL.of upd_same, h1, h2, fun j x r2 m2 f2 hx => k x _ (List.mem_of_getElem? hx) ((Bt.same (of_upd hl) ⟨r, m, hp, hf⟩).trans (Bt.put f2))⟩
theorem pick_of {K : PySem.W.Frag} {σ : L2.St} {H : Hp} {Q : VK} {p : Addr} {E : XK} {i : Nat} {xs : List V} {ta : TA} (hσ : σ[i]? = some (some (.ref p))) (h : S.At H p) (h1 : 1 ≤ xs.length) (h2 : xs.length ≤ 1000) (ha : ∀ Q2 : List V → Hp → Prop, Q2 xs H → ta σ H Q2) (k : ∀ x H', x ∈ xs → Bt p H H' → Q x H') :
    tCall (S.spPick K) [] E (tCons (tVar i) (tCons (tLst ta) tNil)) σ H Q := ⟨_, hσ, ha _ ⟨Nat.le_trans h2 (by decide), fun l hl => pick_at (E := E) h hl h1 h2 k⟩⟩
end Y

end
section
set_option autoImplicit false
set_option Elab.async false
set_option linter.all false
set_option maxRecDepth 100000
set_option maxHeartbeats 4000000
/-! ## plans of ways, as the law draws them; their ways -/
namespace M
def isz : Step → Nat
  | .tunnel w _ _ => w.size
  | .road _ _ _ => 0
  | .join _ => 0
theorem inner_cons : ∀ (s : Step) (r : List Step), Step.inner (s :: r) = isz s + Step.inner r
  | .tunnel w a b, r => by
    conv => lhs; unfold Step.inner
    rfl
  | .road a b c, r => by
    conv => lhs; unfold Step.inner
    exact (Nat.zero_add _).symm
  | .join a, r => by
    conv => lhs; unfold Step.inner
    exact (Nat.zero_add _).symm
/-- how great inner ways of steps are, and ways, by the depth that is drawn -/
def bs : Nat → Nat
  | 0 => 0
  | 1 => 2
  | _ + 2 => 9
def zs : Nat → Nat
  | 0 => 2
  | 1 => 9
  | _ + 2 => 40
def SmStep (d h : Nat) (y : Step) : Prop := Step.fine h y ∧ Step.dep y ≤ d ∧ isz y ≤ bs d
structure Sm (d : Nat) (w : Way) : Prop where
  fine : w.fine
  dp : w.depth ≤ d + 1
  sz : w.size ≤ zs d
  ln : w.steps.length ≤ d + 2
theorem sm_all {d h : Nat} : ∀ {s : List Step}, (∀ y ∈ s, SmStep d h y) → Step.fineAll h s ∧ Step.deepest s ≤ d ∧ Step.inner s ≤ s.length * bs d
  | [], _ => ⟨by unfold Step.fineAll; trivial, by unfold Step.deepest; omega, by unfold Step.inner; omega⟩
  | y :: r, q => by
    obtain ⟨a, b, c⟩ := q y List.mem_cons_self
    obtain ⟨e, f, g⟩ := sm_all (s := r) fun z hz => q z (List.mem_cons_of_mem _ hz)
    refine ⟨by unfold Step.fineAll; exact ⟨a, e⟩, by rw [deep_cons]; omega, ?_⟩
    rw [inner_cons, List.length_cons, Nat.add_mul]
    omega
theorem sm_way {d h : Nat} {s : List Step} (hd : d ≤ 2) (h1 : 1 ≤ h) (h2 : h ≤ 40) (l1 : 1 ≤ s.length) (l2 : s.length ≤ d + 2) (q : ∀ y ∈ s, SmStep d h y) : Sm d (.mk h s) := by
  obtain ⟨a, b, c⟩ := sm_all q
  have c2 : s.length + Step.inner s ≤ zs d := by
    match d, hd, l2, c with
    | 0, _, l2, c =>
      have c : Step.inner s ≤ s.length * 0 := c
      show s.length + Step.inner s ≤ 2
      omega
    | 1, _, l2, c =>
      have c : Step.inner s ≤ s.length * 2 := c
      show s.length + Step.inner s ≤ 9
      omega
    | 2, _, l2, c =>
      have c : Step.inner s ≤ s.length * 9 := c
      show s.length + Step.inner s ≤ 40
      omega
  have c3 : zs d ≤ 40 := by
    match d with
    | 0 => decide
    | 1 => decide
    | _ + 2 => exact Nat.le_refl 40
  refine ⟨?_, by unfold Way.depth; omega, by unfold Way.size; exact c2, l2⟩
  unfold Way.fine
  exact ⟨by omega, by omega, a, by omega, by omega⟩
theorem zs_bs {d : Nat} (h : d ≠ 0) (hd : d ≤ 2) : zs (d - 1) ≤ bs d := by
  match d, hd with
  | 0, _ => exact absurd rfl h
  | 1, _ => decide
  | 2, _ => decide
end M
namespace CP
open PySem L2 G Y
abbrev sLPlan : Stmt := S.top 77
abbrev sLMost : Stmt := S.top 78
abbrev sLStep : Stmt := S.top 79
abbrev sLWay : Stmt := S.top 80
theorem choose_at {K : PySem.W.Frag} {H : Hp} {Q : VK} {p l : Addr} {E : XK} {xs : List V} (h : S.At H p) (ne : l ≠ p) (hl : SqL K H l xs ∨ SqT K H l xs) (h1 : 1 ≤ xs.length) (h2 : xs.length ≤ 1000) (k : ∀ x H', x ∈ xs → Bt p H H' → Q x H') : S.spChoose K [.ref p, .ref l] H Q E := by
  obtain ⟨r, m, hp, hf⟩ := h
  exact ⟨p, l, r, m, xs, rfl, hp, hf, ne, hl, h1, h2, fun j x r2 m2 f2 hx => k x _ (List.mem_of_getElem? hx) (Bt.put f2)⟩
theorem choose_new {K : PySem.W.Frag} {H : Hp} {Q : VK} {p l : Addr} {E : XK} {xs : List V} (h : S.At H p) (hl : H l = none) (h1 : 1 ≤ xs.length) (h2 : xs.length ≤ 1000) (k : ∀ x H', x ∈ xs → Bt p H H' → Q x H') : S.spChoose K [.ref p, .ref l] (upd H l (.lst xs)) Q E :=
  choose_at (sameAt (of_upd hl) h) (at_ne h hl) (.inl (SqL.of upd_same)) h1 h2 fun x H' hx b => k x H' hx ((Bt.same (of_upd hl) h).trans b)
theorem choose_of {K : PySem.W.Frag} {σ : L2.St} {H : Hp} {Q : VK} {p : Addr} {E : XK} {i : Nat} {xs : List V} {ta : TA} (hσ : σ[i]? = some (some (.ref p))) (h : S.At H p) (h1 : 1 ≤ xs.length) (h2 : xs.length ≤ 1000) (ha : ∀ Q2 : List V → Hp → Prop, Q2 xs H → ta σ H Q2) (k : ∀ x H', x ∈ xs → Bt p H H' → Q x H') :
    tCall (S.spChoose K) [] E (tCons (tVar i) (tCons (tLst ta) tNil)) σ H Q := ⟨_, hσ, ha _ ⟨Nat.le_trans h2 (by decide), fun l hl => choose_new (E := E) h hl h1 h2 k⟩⟩
theorem draw_te {σ : L2.St} {H : Hp} {Q : VK} {E : XK} {p : Addr} {i : Nat} {n : Int} {te : TE} (hσ : σ[i]? = some (some (.ref p))) (ht : ∀ Q2 : VK, Q2 (.int n) H → te σ H Q2) (h : S.At H p) (n1 : 1 ≤ n) (n2 : n.natAbs.log2 < 9000) (k : ∀ j H', 0 ≤ j → j < n → Bt p H H' → Q (.int j) H') : tCall S.spDraw [] E (tCons (tVar i) (tCons te tNil)) σ H Q := ⟨_, hσ, ht _ (draw_at (E := E) h n1 n2 k)⟩
theorem bt_keepT {p : Addr} {H H' : Hp} (b : Bt p H H') (h : S.At H p) : KeepT H H' := fun a o n e => b.1 a o (fun z => by
  obtain ⟨r, m, e2, _⟩ := h
  rw [z, e2] at e
  cases e
  exact n _ rfl) e
theorem KeepT.trans {H H1 H2 : Hp} (a : KeepT H H1) (b : KeepT H1 H2) : KeepT H H2 := fun x o n e => b x o n (a x o n e)
theorem KeepT.tup {H H' : Hp} {t : Addr} {xs : List V} (k : KeepT H H') (h : H t = some (.tup xs)) : H' t = some (.tup xs) := k _ _ (fun _ z => by cases z) h
mutual
/-- a plan of a way: a head, a tuple of its steps; ways in tunnels are plans, too -/
def PlanAt (H : Hp) : M.Way → V → Prop
  | .mk h s, v => ∃ t L xs, v = .ref t ∧ H t = some (.tup [.int (h : Int), .ref L]) ∧ H L = some (.tup xs) ∧ PlAll H s xs
def PlAll (H : Hp) : List M.Step → List V → Prop
  | [], xs => xs = []
  | s :: r, xs => ∃ x ys, xs = x :: ys ∧ PlStep H s x ∧ PlAll H r ys
def PlStep (H : Hp) : M.Step → V → Prop
  | .road size ts lw, x => ∃ t, x = .ref t ∧ H t = some (.tup [.str "road", .int (size : Int), .str (WP.sdS ts), .str (WP.lwS lw)])
  | .join most, x => ∃ t, x = .ref t ∧ H t = some (.tup [.str "join", .int (most : Int)])
  | .tunnel w most tw, x => ∃ t v, x = .ref t ∧ H t = some (.tup [.str "tunnel", v, .int (most : Int), .str (WP.twS tw)]) ∧ PlanAt H w v
end
mutual
theorem PlanAt.keep {H H' : Hp} (s : KeepT H H') : ∀ {w : M.Way} {v : V}, PlanAt H w v → PlanAt H' w v
  | .mk h st, v, x => by
    unfold PlanAt at x ⊢
    obtain ⟨t, L, xs, e, h1, h2, h3⟩ := x
    exact ⟨t, L, xs, e, s.tup h1, s.tup h2, PlAll.keep s h3⟩
theorem PlAll.keep {H H' : Hp} (s : KeepT H H') : ∀ {st : List M.Step} {xs : List V}, PlAll H st xs → PlAll H' st xs
  | [], xs, x => by
    unfold PlAll at x ⊢
    exact x
  | y :: r, xs, x => by
    unfold PlAll at x ⊢
    obtain ⟨u, ys, e, h1, h2⟩ := x
    exact ⟨u, ys, e, PlStep.keep s h1, PlAll.keep s h2⟩
theorem PlStep.keep {H H' : Hp} (s : KeepT H H') : ∀ {st : M.Step} {x : V}, PlStep H st x → PlStep H' st x
  | .road size ts lw, v, x => by
    unfold PlStep at x ⊢
    obtain ⟨t, e, h⟩ := x
    exact ⟨t, e, s.tup h⟩
  | .join most, v, x => by
    unfold PlStep at x ⊢
    obtain ⟨t, e, h⟩ := x
    exact ⟨t, e, s.tup h⟩
  | .tunnel w most tw, v, x => by
    unfold PlStep at x ⊢
    obtain ⟨t, u, e, h, h2⟩ := x
    exact ⟨t, u, e, s.tup h, PlanAt.keep s h2⟩
end
theorem PlAll.snoc {H : Hp} : ∀ {s : List M.Step} {xs : List V} {y : M.Step} {x : V}, PlAll H s xs → PlStep H y x → PlAll H (s ++ [y]) (xs ++ [x])
  | [], xs, y, x, h, h2 => by
    unfold PlAll at h
    subst h
    show PlAll H [y] [x]
    unfold PlAll
    exact ⟨x, [], rfl, h2, by unfold PlAll; rfl⟩
  | z :: s, xs, y, x, h, h2 => by
    unfold PlAll at h
    obtain ⟨u, ys, rfl, h3, h4⟩ := h
    show PlAll H (z :: (s ++ [y])) (u :: (ys ++ [x]))
    unfold PlAll
    exact ⟨u, ys ++ [x], rfl, h3, PlAll.snoc h4 h2⟩
theorem PlAll.len {H : Hp} : ∀ {s : List M.Step} {xs : List V}, PlAll H s xs → xs.length = s.length
  | [], xs, h => by
    unfold PlAll at h
    rw [h]
    rfl
  | z :: s, xs, h => by
    unfold PlAll at h
    obtain ⟨u, ys, rfl, _, h4⟩ := h
    rw [List.length_cons, List.length_cons, PlAll.len h4]
theorem PlAll.get {H : Hp} : ∀ {s : List M.Step} {xs : List V} {i : Nat} {x : V}, PlAll H s xs → xs[i]? = some x → ∃ y, s[i]? = some y ∧ PlStep H y x
  | [], xs, i, x, h, e => by
    unfold PlAll at h
    subst h
    cases e
  | z :: s, xs, i, x, h, e => by
    unfold PlAll at h
    obtain ⟨u, ys, rfl, h3, h4⟩ := h
    cases i with
    | zero =>
      cases e
      exact ⟨z, rfl, h3⟩
    | succ i => exact PlAll.get (i := i) h4 e
theorem sd_of {x : V} (h : x ∈ [V.str "tell", V.str "tell", V.str "drop"]) : ∃ ts, x = .str (WP.sdS ts) := by
  rcases List.mem_cons.mp h with e | h
  · exact ⟨true, e⟩
  rcases List.mem_cons.mp h with e | h
  · exact ⟨true, e⟩
  · have e : x = V.str "drop" := by simpa using h
    exact ⟨false, e⟩
theorem lw_of {x : V} (h : x ∈ [V.str "cut", V.str "cut", V.str "cut", V.str "tell", V.str "drop"]) : ∃ lw, x = .str (WP.lwS lw) := by
  rcases List.mem_cons.mp h with e | h
  · exact ⟨.cut, e⟩
  rcases List.mem_cons.mp h with e | h
  · exact ⟨.cut, e⟩
  rcases List.mem_cons.mp h with e | h
  · exact ⟨.cut, e⟩
  rcases List.mem_cons.mp h with e | h
  · exact ⟨.tell, e⟩
  · have e : x = V.str "drop" := by simpa using h
    exact ⟨.drop, e⟩
theorem tw_of {x : V} (h : x ∈ [V.str "turn", V.str "turn", V.str "keep", V.str "lose"]) : ∃ tw, x = .str (WP.twS tw) := by
  rcases List.mem_cons.mp h with e | h
  · exact ⟨.turn, e⟩
  rcases List.mem_cons.mp h with e | h
  · exact ⟨.turn, e⟩
  rcases List.mem_cons.mp h with e | h
  · exact ⟨.keep, e⟩
  · have e : x = V.str "lose" := by simpa using h
    exact ⟨.lose, e⟩
section
variable {P : Program} {w : World} {K : PySem.W.Frag} {mg : Str → Option Value} {base : Heap} {C CW : Addr}
def spLMost : Sp := fun vs H Q _ => ∃ p, vs = [.ref p] ∧ S.At H p ∧ ∀ (m : Nat) H', 1 ≤ m → m ≤ 1000000000000 → Bt p H H' → Q (.int (m : Int)) H'
theorem scLm : FnScope ["stream"] ["stream"] (defScope sLMost) := ⟨rfl, rfl, rfl, by decide +kernel, rfl, by decide +kernel, by decide +kernel⟩
theorem ok_lmost {f : Addr} {fd : FuncData} (F : Fun K "_law_most" "_law_most" sLMost f fd) (DD : Df P w K mg base 1 "_law_draw" ["stream", "size"] S.spDraw) (DP : Df P w K mg base 2 "_law_choose" ["stream", "items"] (S.spChoose K)) : FnOk P w K mg base CX0 3 f fd ["stream"] spLMost := by
  obtain ⟨fD, fdD, GD, gD, kD, bD⟩ := DD.ex
  obtain ⟨fP, fdP, GP, gP, kP, bP⟩ := DP.ex
  refine F.ok scLm (fun vs H Q E h => ?_) (fun cdv A outer s H vs Q E hr h => ?_)
  · obtain ⟨p, rfl, _⟩ := h
    rfl
  · obtain ⟨p, rfl, hp, kk⟩ := h
    refine ⟨_, pss_one (ps_ret (pe_call GP (hr.mono (by omega)) rfl gP kP bP .nil pass0 (pa_cons (pv 0) (pa_cons (pe_lst (pa_cons (pe_int) (pa_cons (pe_int) (pa_cons (pe_int) (pa_cons (pe_int) (pa_cons (pe_op op_add (pe_int) (pe_call GD (hr.mono (by omega)) rfl gD kD bD .nil pass0 (pa_cons (pv 0) (pa_cons (pe_int) pa_nil)))) (pa_cons (pe_op op_powN pe_int pe_int) (pa_cons (pe_op op_sub (pe_op op_powN pe_int pe_int) (pe_int)) pa_nil)))))))) pa_nil)))), ?_⟩
    refine ⟨_, rfl, draw_of rfl hp (by decide) (by decide +kernel) fun j H1 j0 j1 b1 => ⟨10, 12, rfl, rfl, ⟨by decide, by decide +kernel⟩, 10, 12, rfl, rfl, ⟨by decide, by decide +kernel⟩, _, _, rfl, rfl, (by show 7 ≤ sizeLine; decide), fun l hl => ?_⟩⟩
    refine choose_new (E := E0) b1.2 hl (by show 1 ≤ 7; decide) (by show 7 ≤ 1000; decide) fun x H2 hx b2 => ?_
    have bt := b1.trans b2
    have fin : ∀ n : Nat, x = .int (n : Int) → 1 ≤ n → n ≤ 1000000000000 → Q x H2 := fun n e a b => by
      subst e
      exact kk n _ a b bt
    simp only [List.append_nil, List.cons_append, List.nil_append, List.mem_cons, List.mem_nil_iff, or_false] at hx
    rcases hx with e | e | e | e | e | e | e
    · exact fin 1 e (by decide) (by decide)
    · exact fin 2 e (by decide) (by decide)
    · exact fin 3 e (by decide) (by decide)
    · exact fin 4 e (by decide) (by decide)
    · exact fin (1 + j).toNat (e.trans (congrArg V.int (by omega))) (by omega) (by omega)
    · exact fin 1000000000000 (e.trans (congrArg V.int (by decide +kernel))) (by decide) (by decide)
    · exact fin 999999999999 (e.trans (congrArg V.int (by decide +kernel))) (by decide) (by decide)
def spLPlan (n : Nat) : Sp := fun vs H Q _ => ∃ (p : Addr) (d b : Nat), vs = [.ref p, .int (d : Int), .int (b : Int)] ∧ S.At H p ∧ d < n ∧ d ≤ 2 ∧ b ≤ 40 ∧ ∀ wy v H', Bt p H H' → PlanAt H' wy v → M.Sm d wy → Q v H'
def spLStep (n : Nat) : Sp := fun vs H Q _ => ∃ (p : Addr) (d b h : Nat), vs = [.ref p, .int (d : Int), .int (b : Int), .int (h : Int)] ∧ S.At H p ∧ d ≤ n ∧ d ≤ 2 ∧ b ≤ 40 ∧ 1 ≤ h ∧ h ≤ 40 ∧ ∀ st v H', Bt p H H' → PlStep H' st v → M.SmStep d h st → Q v H'
abbrev NPs : List Str := ["stream", "depth", "base", "head", "sort", "cut", "word", "inner", "tells"]
theorem scPs : FnScope NPs ["stream", "depth", "base", "head"] (defScope sLStep) := ⟨rfl, rfl, rfl, by decide +kernel, rfl, by decide +kernel, by decide +kernel⟩
theorem ok_lstep {k n : Nat} {f : Addr} {fd : FuncData} (F : Fun K "_law_plan_step" "_law_plan_step" sLStep f fd) (hk : 3 ≤ k) (B : Bn mg) (DD : Df P w K mg base 1 "_law_draw" ["stream", "size"] S.spDraw) (DP : Df P w K mg base 2 "_law_choose" ["stream", "items"] (S.spChoose K)) (DM : Df P w K mg base 3 "_law_most" ["stream"] spLMost)
    (DL : Df P w K mg base k "_law_plan" ["stream", "depth", "base"] (spLPlan n)) : FnOk P w K mg base CX0 (k + 1) f fd ["stream", "depth", "base", "head"] (spLStep n) := by
  obtain ⟨fD, fdD, GD, gD, kD, bD⟩ := DD.ex
  obtain ⟨fP, fdP, GP, gP, kP, bP⟩ := DP.ex
  obtain ⟨fM, fdM, GM, gM, kM, bM⟩ := DM.ex
  obtain ⟨fL, fdL, GL, gL, kL, bL⟩ := DL.ex
  refine F.ok scPs (fun vs H Q E h => ?_) (fun cdv A outer s H vs Q E hr h => ?_)
  · obtain ⟨p, d, b, h, rfl, _⟩ := h
    rfl
  · obtain ⟨p, d, b, h, rfl, hp, hdn, hd, hb, h1, h2, kk⟩ := h
    refine ⟨_, pss_cons (ps_set (i := 4) scPs.nd rfl (Or.inl rfl) (pe_call GD (hr.mono (by omega)) rfl gD kD bD .nil pass0 (pa_cons (pv 0) (pa_cons (pe_int) pa_nil))))
      (pss_cons (ps_if (pt_cmpR (op_lt) (pv 4) (pe_int) (nomark _)) (pss_cons (ps_set (i := 5) scPs.nd rfl (Or.inl rfl) (pe_callB (call_max2 rfl) (by rfl) B.max (by decide +kernel) (pa_cons (pe_int) (pa_cons (pe_op op_sub (pe_op op_add (pv 2) (pe_call GD (hr.mono (by omega)) rfl gD kD bD .nil pass0 (pa_cons (pv 0) (pa_cons (pe_int) pa_nil)))) (pe_op op_mul (pe_int) (pe_callTy call_int1 (by rfl) B.int (by decide +kernel) (pa_cons (pe_cmpR (op_gt) (pv 2) (pe_int) (nomark _)) pa_nil)))) pa_nil))))
      (pss_cons (ps_if (pt_cmpR (op_eq) (pe_call GD (hr.mono (by omega)) rfl gD kD bD .nil pass0 (pa_cons (pv 0) (pa_cons (pe_int) pa_nil))) (pe_int) (nomark _)) (pss_one (ps_set (i := 5) scPs.nd rfl (Or.inl rfl) (pe_op op_sub (pe_op op_sub (pe_int) (pv 3)) (pe_call GD (hr.mono (by omega)) rfl gD kD bD .nil pass0 (pa_cons (pv 0) (pa_cons (pe_int) pa_nil)))))) (pss_nil))
      (pss_cons (ps_set (i := 6) scPs.nd rfl (Or.inl rfl) (pe_call GP (hr.mono (by omega)) rfl gP kP bP .nil pass0 (pa_cons (pv 0) (pa_cons (pe_lst (pa_cons (pe_str) (pa_cons (pe_str) (pa_cons (pe_str) pa_nil)))) pa_nil))))
      (pss_one (ps_ret (pe_tup (pa_cons (pe_str) (pa_cons (pe_op op_add (pv 3) (pv 5)) (pa_cons (pv 6) (pa_cons (pe_call GP (hr.mono (by omega)) rfl gP kP bP .nil pass0 (pa_cons (pv 0) (pa_cons (pe_lst (pa_cons (pe_str) (pa_cons (pe_str) (pa_cons (pe_str) (pa_cons (pe_str) (pa_cons (pe_str) pa_nil)))))) pa_nil))) pa_nil)))))))))) (pss_nil))
      (pss_cons (ps_if (PW.pt (pw_or (pt_cmpR (op_lt) (pv 4) (pe_int) (nomark _)) (pw_or1 (pt_cmpR (op_eq) (pv 1) (pe_int) (nomark _))))) (pss_one (ps_ret (pe_tup (pa_cons (pe_str) (pa_cons (pe_call GM (hr.mono (by omega)) rfl gM kM bM .nil pass0 (pa_cons (pv 0) pa_nil)) pa_nil))))) (pss_nil))
      (pss_cons (ps_par (i := 7) (j := 8) (by rfl) scPs.nd rfl rfl (by decide) rfl rfl (pa_cons (pe_call GL (hr.mono (by omega)) rfl gL kL bL .nil pass0 (pa_cons (pv 0) (pa_cons (pe_op op_sub (pv 1) (pe_int)) (pa_cons (pv 3) pa_nil)))) (pa_cons (pe_call GP (hr.mono (by omega)) rfl gP kP bP .nil pass0 (pa_cons (pv 0) (pa_cons (pe_lst (pa_cons (pe_str) (pa_cons (pe_str) (pa_cons (pe_str) (pa_cons (pe_str) pa_nil))))) pa_nil))) pa_nil)) (by rfl))
      (pss_one (ps_ret (pe_tup (pa_cons (pe_str) (pa_cons (pv 7) (pa_cons (pe_call GM (hr.mono (by omega)) rfl gM kM bM .nil pass0 (pa_cons (pv 0) pa_nil)) (pa_cons (pv 8) pa_nil)))))))))), ?_⟩
    refine set_then (i := 4) (draw_vv rfl hp (by decide) (by decide +kernel) fun j H1 a0 a1 b1 => ?_)
    refine ⟨_, rfl, _, _, rfl, rfl, _, rfl, ite2 (fun c => ?_) (fun c => ?_)⟩
    · refine set_then (i := 5) ⟨_, rfl, draw_vv rfl b1.2 (by decide) (by decide +kernel) fun j2 H2 c0 c1 b2 => ?_⟩
      refine ⟨_, _, rfl, rfl, _, rfl, _, _, rfl, rfl, .inr ⟨_, rfl, _, _, rfl, rfl, .inl ⟨?_, ?_⟩, _, _, rfl, rfl, _, _, rfl, ?_⟩⟩
      · decide
      · decide
      have mz : ∀ (t : Int), (t = 0 ∨ t = 1) → (b = 0 → t = 0) → ∃ c5 : Nat, V.int (if (b : Int) + j2 - 2 * t > 1 then (b : Int) + j2 - 2 * t else 1) = V.int (c5 : Int) ∧ 1 ≤ c5 ∧ c5 ≤ 60 := fun t ht hb0 => by
        split
        · exact ⟨((b : Int) + j2 - 2 * t).toNat, congrArg V.int (by omega), by omega, by omega⟩
        · exact ⟨1, rfl, by decide, by decide⟩
      obtain ⟨c5, e5, c6, c7⟩ := mz (if decide ((b : Int) > 0) = true then 1 else 0) (by split <;> simp) (fun e => by subst e; rfl)
      rw [e5]
      have b12 := b1.trans b2
      refine if_then (fun σ' G => Bt p H G ∧ ∃ (c8 : Nat) (q6 q7 q8 : Option V), 1 ≤ c8 ∧ h + c8 ≤ 1000 ∧ σ' = [some (.ref p), some (.int (d : Int)), some (.int (b : Int)), some (.int (h : Int)), some (.int j), some (.int (c8 : Int)), q6, q7, q8]) ?r1 (fun k1 => ?_)
      case r1 =>
        rintro σ' G ⟨bG, c8, q6, q7, q8, l1, l2, rfl⟩
        refine set_then (i := 6) (choose_of rfl bG.2 (by decide) (by decide) (fun Q2 q => q) fun x H3 hx b3 => ?_)
        obtain ⟨ts, rfl⟩ := sd_of hx
        refine ⟨_, rfl, _, rfl, _, _, rfl, rfl, _, rfl, ?_⟩
        refine choose_of rfl b3.2 (by decide) (by decide) (fun Q2 q => q) fun y H4 hy b4 => ⟨(by show 4 ≤ sizeLine; decide), fun t ht => ?_⟩
        obtain ⟨lw, rfl⟩ := lw_of hy
        refine kk (.road (h + c8) ts lw) _ _ ((bG.trans (b3.trans b4)).trans (Bt.new _ b4.2 ht)) ?_ ⟨by unfold M.Step.fine; omega, Nat.zero_le _, Nat.zero_le _⟩
        unfold PlStep
        refine ⟨t, rfl, ?_⟩
        rw [Int.natCast_add]
        exact upd_same
      refine draw_vv rfl b2.2 (by decide) (by decide +kernel) fun j3 H3 d0 d1 b3 => ⟨rfl, _, rfl, ite2 (fun c2 => ?_) (fun c2 => ?_)⟩
      · refine ⟨_, rfl, _, _, rfl, rfl, draw_vv rfl b3.2 (by decide) (by decide +kernel) fun j4 H4 f0 f1 b4 => ⟨_, _, rfl, rfl, ?_⟩⟩
        obtain ⟨c9, e9⟩ : ∃ c9 : Nat, 1000 - (h : Int) - j4 = (c9 : Int) := ⟨(1000 - (h : Int) - j4).toNat, by omega⟩
        refine k1 _ _ ⟨b12.trans (b3.trans b4), c9, none, none, none, by omega, by omega, ?_⟩
        show [some (V.ref p), some (V.int (d : Int)), some (V.int (b : Int)), some (V.int (h : Int)), some (V.int j), some (V.int (1000 - (h : Int) - j4)), none, none, none] = _
        rw [e9]
      · exact k1 _ _ ⟨b12.trans b3, c5, none, none, none, by omega, by omega, rfl⟩
    · have fj : ∀ (m : Nat) (H2 : Hp), 1 ≤ m → m ≤ 1000000000000 → Bt p H1 H2 → ∀ t, H2 t = none → Q (.ref t) (upd H2 t (.tup [.str "join", .int (m : Int)])) := fun m H2 m1 m2 b2 t ht => by
        refine kk (.join m) _ _ ((b1.trans b2).trans (Bt.new _ b2.2 ht)) ?_ ⟨by unfold M.Step.fine; exact ⟨m1, m2⟩, Nat.zero_le _, Nat.zero_le _⟩
        unfold PlStep
        exact ⟨t, rfl, upd_same⟩
      refine ⟨_, rfl, _, _, rfl, rfl, _, rfl, ite2 (fun c2 => ?_) (fun c2 => ?_)⟩
      · exact iteT ⟨_, rfl, p, rfl, b1.2, fun m H2 m1 m2 b2 => ⟨line2.1, fun t ht => fj m H2 m1 m2 b2 t ht⟩⟩
      · refine ⟨_, rfl, rfl, _, rfl, ite2 (fun c3 => ?_) (fun c3 => ?_)⟩
        · exact ⟨_, rfl, p, rfl, b1.2, fun m H2 m1 m2 b2 => ⟨line2.1, fun t ht => fj m H2 m1 m2 b2 t ht⟩⟩
        · have c4 : d ≠ 0 := fun e => c3 (by rw [e]; rfl)
          refine ⟨_, rfl, _, rfl, _, _, rfl, rfl, _, rfl, p, d - 1, h, ?_, b1.2, by omega, by omega, h2, fun wy v H2 b2 pl sm => ?_⟩
          · show [V.ref p, V.int ((d : Int) - 1), V.int (h : Int)] = _
            rw [show (d : Int) - 1 = ((d - 1 : Nat) : Int) by omega]
          refine choose_of rfl b2.2 (by decide) (by decide) (fun Q2 q => q) fun x H3 hx b3 => ⟨_, _, rfl, ?_⟩
          obtain ⟨tw, rfl⟩ := tw_of hx
          refine ⟨_, rfl, _, rfl, p, rfl, b3.2, fun m H4 m1 m2 b4 => ⟨_, rfl, (by show 4 ≤ sizeLine; decide), fun t ht => ?_⟩⟩
          have b5 := b4.trans (Bt.new (.tup [.str "tunnel", v, .int (m : Int), .str (WP.twS tw)]) b4.2 ht)
          refine kk (.tunnel wy m tw) _ _ (b1.trans (b2.trans (b3.trans b5))) ?_ ⟨by unfold M.Step.fine; exact ⟨sm.fine, m1, m2⟩, ?_, ?_⟩
          · unfold PlStep
            exact ⟨t, v, rfl, upd_same, (pl.keep (bt_keepT b3 b2.2)).keep (bt_keepT b5 b3.2)⟩
          · have := sm.dp
            show wy.depth ≤ d
            omega
          · have := sm.sz
            show wy.size ≤ M.bs d
            exact Nat.le_trans this (M.zs_bs c4 hd)
abbrev NPn : List Str := ["stream", "depth", "base", "head", "steps", "turn"]
theorem scPn : FnScope NPn ["stream", "depth", "base"] (defScope sLPlan) := ⟨rfl, rfl, rfl, by decide +kernel, rfl, by decide +kernel, by decide +kernel⟩
theorem ok_lplan {k n : Nat} {f : Addr} {fd : FuncData} (F : Fun K "_law_plan" "_law_plan" sLPlan f fd) (hk : 2 ≤ k) (B : Bn mg) (DD : Df P w K mg base 1 "_law_draw" ["stream", "size"] S.spDraw) (DP : Df P w K mg base 2 "_law_choose" ["stream", "items"] (S.spChoose K))
    (DS : Df P w K mg base k "_law_plan_step" ["stream", "depth", "base", "head"] (spLStep n)) : FnOk P w K mg base CX0 (k + 1) f fd ["stream", "depth", "base"] (spLPlan (n + 1)) := by
  obtain ⟨fD, fdD, GD, gD, kD, bD⟩ := DD.ex
  obtain ⟨fP, fdP, GP, gP, kP, bP⟩ := DP.ex
  obtain ⟨fS, fdS, GS, gS, kS, bS⟩ := DS.ex
  refine F.ok scPn (fun vs H Q E h => ?_) (fun cdv A outer s H vs Q E hr h => ?_)
  · obtain ⟨p, d, b, rfl, _⟩ := h
    rfl
  · obtain ⟨p, d, b, rfl, hp, hdn, hd, hb, kk⟩ := h
    refine ⟨_, pss_cons (ps_set (i := 3) scPn.nd rfl (Or.inr rfl) (pe_call GP (hr.mono (by omega)) rfl gP kP bP .nil pass0 (pa_cons (pv 0) (pa_cons (pe_lst (pa_cons (pe_int) (pa_cons (pe_int) (pa_cons (pe_int) (pa_cons (pe_int) (pa_cons (pe_int) (pa_cons (pe_op op_add (pe_int) (pe_call GD (hr.mono (by omega)) rfl gD kD bD .nil pass0 (pa_cons (pv 0) (pa_cons (pe_int) pa_nil)))) pa_nil))))))) pa_nil))))
      (pss_cons (ps_setLc (i := 4) (own := [("turn", 5)]) (g := gName 5) (tt := tYes) (te := tCall (spLStep n) [] E0 (tCons (tVar 0) (tCons (tVar 1) (tCons (tVar 2) (tCons (tVar 3) tNil))))) rfl scPn.nd rfl rfl (sw_true rfl rfl rfl (by decide +kernel)) (pi_range1 (by rfl) B.range (pa_cons (pe_op op_add (pe_int) (pe_call GD (hr.mono (by omega)) rfl gD kD bD .nil pass0 (pa_cons (pv 0) (pa_cons (pe_op op_add (pv 1) (pe_int)) pa_nil)))) pa_nil)) (blkOk_by (N := NPn) (sc := defScope sLPlan) (by decide +kernel))
          (fun _ _ _ _ _ => pg_name (i := 5) scPn.nd rfl (Or.inl rfl)) (fun _ _ _ _ _ => pts_nil) (fun _ _ _ _ _ => by exact pe_call GS (hr.mono (by omega)) rfl gS kS bS .nil pass0 (pa_cons (pv 0) (pa_cons (pv 1) (pa_cons (pv 2) (pa_cons (pv 3) pa_nil))))))
      (pss_one (ps_ret (pe_tup (pa_cons (pv 3) (pa_cons (pe_callTy call_tuple_of (by rfl) B.tuple (by decide +kernel) (pa_cons (pv 4) pa_nil)) pa_nil)))))), ?_⟩
    refine set_then (i := 3) ⟨_, rfl, draw_of rfl hp (by decide) (by decide +kernel) fun j H1 a0 a1 b1 => ⟨(by show 6 ≤ sizeLine; decide), fun l hl => ?_⟩⟩
    refine choose_new (E := E0) b1.2 hl (by show 1 ≤ 6; decide) (by show 6 ≤ 1000; decide) fun x H2 hx b2 => ?_
    obtain ⟨h, rfl, h1, h2⟩ : ∃ h : Nat, x = .int (h : Int) ∧ 1 ≤ h ∧ h ≤ 40 := by
      simp only [List.append_nil, List.cons_append, List.nil_append, List.mem_cons, List.mem_nil_iff, or_false] at hx
      rcases hx with e | e | e | e | e | e
      · exact ⟨1, e, by decide, by decide⟩
      · exact ⟨2, e, by decide, by decide⟩
      · exact ⟨5, e, by decide, by decide⟩
      · exact ⟨10, e, by decide, by decide⟩
      · exact ⟨3, e, by decide, by decide⟩
      · exact ⟨(1 + j).toNat, e.trans (congrArg V.int (by omega)), by omega, by omega⟩
    replace b2 := b1.trans b2
    have lg : ∀ z : Int, 1 ≤ z → z ≤ 3000 → z.natAbs.log2 < 9000 := fun z h1 h2 => PySem.Flt.log2_lt_of (k := 9000) (by decide) (Nat.lt_of_lt_of_le (by omega : _ < 2 ^ 60) (Nat.pow_le_pow_right (by decide) (by decide)))
    refine set_then (i := 4) (draw_te (n := (d : Int) + 2) rfl (fun Q2 q => ⟨_, rfl, _, _, rfl, rfl, q⟩) b2.2 (by omega) (lg _ (by omega) (by omega)) fun j3 H3 j0 j1 b3 => ⟨_, _, rfl, rfl, _, rfl, by omega, by omega, fun D0 nD => ?_⟩)
    replace b3 := b2.trans b3
    have ne := at_ne b3.2 nD
    refine lc_range (lo := 0) (n := (1 + j3).toNat) (fun i G => Bt p H3 G ∧ ∃ (xs : List V) (sts : List M.Step), G D0 = some (.lst xs) ∧ PlAll G sts xs ∧ sts.length = i ∧ ∀ y ∈ sts, M.SmStep d h y) ⟨Bt.new (.lst []) b3.2 nD, [], [], upd_same, by unfold PlAll; rfl, rfl, fun y hy => by cases hy⟩ ?_ ?_
    · rintro i G hi ⟨bG, xs, sts, hD, hP, hn, hS⟩
      have lx := hP.len
      refine ⟨rfl, _, rfl, _, rfl, _, rfl, _, rfl, p, d, b, h, rfl, bG.2, by omega, hd, hb, h1, h2, fun st v G1 b4 pl sm => ⟨xs, bt_lst b4 ne hD, small1000 (by omega), ?_, _, sts ++ [st], upd_same, ?_, by simp; exact hn, ?_⟩⟩
      · have b5 := bG.trans b4
        refine ⟨fun a o n e => ?_, ?_⟩
        · rw [upd_ne (fun z => by rw [z, nD] at e; cases e)]
          exact b5.1 a o n e
        · obtain ⟨r, m, e, f⟩ := b5.2
          exact ⟨r, m, by rw [upd_ne ne.symm]; exact e, f⟩
      · have kp := put_keepT (o := .lst (xs ++ [v])) (bt_lst b4 ne hD)
        exact ((hP.keep (bt_keepT b4 bG.2)).keep kp).snoc (pl.keep kp)
      · intro z hz
        rcases List.mem_append.mp hz with q | q
        · exact hS z q
        · rw [List.mem_singleton.mp q]
          exact sm
    · rintro G ⟨bG, xs, sts, hD, hP, hn, hS⟩
      refine ⟨_, rfl, _, rfl, D0, xs, rfl, .inl ⟨SqL.of hD, fun T hT => ⟨line2.1, fun t ht => ?_⟩⟩⟩
      have c1 := Bt.new (.tup xs) bG.2 hT
      have c2 := Bt.new (.tup [.int (h : Int), .ref T]) c1.2 ht
      refine kk (.mk h sts) _ _ ((b3.trans bG).trans (c1.trans c2)) ?_ (M.sm_way hd h1 h2 (by omega) (by omega) hS)
      unfold PlanAt
      exact ⟨t, T, xs, rfl, upd_same, of_upd ht _ _ upd_same, hP.keep (bt_keepT (c1.trans c2) bG.2)⟩
end
end CP

end
section
set_option autoImplicit false
set_option Elab.async false
set_option linter.all false
set_option maxRecDepth 100000
set_option maxHeartbeats 4000000
/-! ## how great gates are; gates and fates as data -/
namespace N
theorem B_top {cs : List Nat} : (∀ c ∈ cs, c ≤ 1000) → ∀ n, B cs n ≤ 1000 * n := by
  induction cs with
  | nil => intro _ n; exact Nat.zero_le _
  | cons c r ih =>
    intro h n
    rw [B_cons]
    have h1 := h c List.mem_cons_self
    have h2 := ih (fun d hd => h d (List.mem_cons_of_mem _ hd)) (n % L r c)
    have h3 := Nat.div_add_mod n (L r c)
    have h4 : n / L r c ≤ L r c * (n / L r c) := by
      rcases Nat.eq_zero_or_pos (L r c) with z | z
      · rw [z, Nat.div_zero]
        omega
      · exact Nat.le_mul_of_pos_left _ z
    have h5 : n / L r c * c ≤ n / L r c * 1000 := Nat.mul_le_mul_left _ h1
    omega
end N
namespace M
structure GB (D : Nat) (g : Gate) : Prop where
  lo : -1 ≤ g.thr
  hi : g.thr ≤ 1000000000000000
  an : ∀ z, g.ans = some z → -(40 * (D : Int)) ≤ z ∧ z ≤ 1000
  pl : ∀ i ∈ g.place, i < 12
theorem GB.up {D D' : Nat} {g : Gate} (b : GB D g) (h : D ≤ D') : GB D' g := ⟨b.lo, b.hi, fun z e => by have := b.an z e; omega, b.pl⟩
theorem most_gb {D m : Nat} {cs : List Nat} (c : Ck cs) (hm : m ≤ 1000000000000) {g : Gate} (h : g ∈ mostG m cs) : GB D g := by
  unfold mostG at h
  split at h
  · cases h
  · rw [List.mem_singleton.mp h]
    have := N.B_top c.le m
    refine ⟨?_, ?_, (fun z e => by cases e), (fun i hi => by cases hi)⟩
    · show (-1 : Int) ≤ ((N.B cs m : Nat) : Int)
      omega
    · show ((N.B cs m : Nat) : Int) ≤ 1000000000000000
      omega
theorem road_gb {D : Nat} {se : Bool} {h size : Nat} {ts : Bool} {lw : LW} {cs : List Nat} (h1 : h < size) (h2 : size ≤ 1000) {g : Gate} (m : g ∈ roadG se h size ts lw cs) : GB D g := by
  unfold roadG at m
  split at m
  · cases m
  · rw [List.mem_singleton.mp m]
    refine ⟨?_, ?_, fun z e => ?_, (fun i hi => by cases hi)⟩
    · show (-1 : Int) ≤ (size : Int) - (h : Int)
      omega
    · show (size : Int) - (h : Int) ≤ 1000000000000000
      omega
    · dsimp only at e
      split at e
      · cases e
        omega
      · cases e
theorem tun_gb {D h ih : Nat} {t : TW} {cs : List Nat} {l : List Gate} (hi : ih ≤ 40) (q : ∀ g ∈ l, GB D g) {g : Gate} (m : g ∈ tunG h ih t cs l) : GB (D + 1) g := by
  unfold tunG at m
  obtain ⟨g0, h0, h1⟩ := List.mem_flatMap.mp m
  have b := q g0 h0
  unfold tunG1 at h1
  split at h1
  · rw [List.mem_singleton.mp h1]
    have b1 := b.lo
    have b2 := b.hi
    refine ⟨?_, ?_, fun z e => ?_, b.pl⟩
    · show (-1 : Int) ≤ max (g0.thr - (h : Int)) (-1)
      omega
    · show max (g0.thr - (h : Int)) (-1) ≤ 1000000000000000
      omega
    · have e : turnG g0.ans ih t = some z := e
      unfold turnG at e
      cases ea : g0.ans with
      | none =>
        rw [ea] at e
        cases e
      | some y =>
        rw [ea] at e
        dsimp only at e
        split at e
        · cases e
          have := b.an y ea
          omega
        · cases e
  · cases h1
mutual
theorem Way.gb (se : Bool) : ∀ (w : Way), w.fine → ∀ g ∈ Way.gates se w, GB w.depth g
  | .mk h s, f, g, m => by
    unfold Way.gates at m
    unfold Way.fine at f
    unfold Way.depth
    exact Step.gbAll se h s 0 [] f.2.2.1 (by omega) ck_nil g m
theorem Step.gbAll (se : Bool) (h : Nat) : ∀ (s : List Step) (i : Nat) (cs : List Nat), Step.fineAll h s → i + s.length ≤ 12 → Ck cs → ∀ g ∈ Step.gatesAll se h s i cs, GB (1 + Step.deepest s) g
  | [], i, cs, f, hi, c, g, m => by
    unfold Step.gatesAll at m
    cases m
  | s :: r, i, cs, f, hi, c, g, m => by
    rw [gatesAll_cons] at m
    rw [deep_cons]
    unfold Step.fineAll at f
    rw [List.length_cons] at hi
    rcases List.mem_append.mp m with m | m
    · obtain ⟨g0, m0, rfl⟩ := List.mem_map.mp m
      have b := Step.gb se h s cs f.1 c g0 m0
      refine ⟨b.lo, b.hi, fun z e => ?_, fun j hj => ?_⟩
      · have := b.an z e
        omega
      · rcases List.mem_cons.mp hj with e | e
        · omega
        · exact b.pl j e
    · exact (Step.gbAll se h r (i + 1) _ f.2 (by omega) (ck_nx c f.1) g m).up (by omega)
theorem Step.gb (se : Bool) (h : Nat) : ∀ (s : Step) (cs : List Nat), Step.fine h s → Ck cs → ∀ g ∈ Step.gates se h s cs, GB (Step.dep s + 1) g
  | .road size ts lw, cs, f, c, g, m => by
    unfold Step.gates at m
    unfold Step.fine at f
    exact road_gb f.1 f.2 m
  | .join most, cs, f, c, g, m => by
    unfold Step.gates at m
    unfold Step.fine at f
    exact most_gb c f.2 m
  | .tunnel w most t, cs, f, c, g, m => by
    unfold Step.gates at m
    unfold Step.fine at f
    have f1 := f.1
    have hh : w.head ≤ 40 ∧ Step.fineAll w.head w.steps := by
      obtain ⟨wh, ws⟩ := w
      unfold Way.fine at f1
      exact ⟨f1.1.2, f1.2.2.1⟩
    refine tun_gb (D := w.depth) hh.1 (fun g0 m0 => ?_) m
    rcases List.mem_append.mp m0 with m0 | m0
    · exact Way.gb se w f1 g0 m0
    · exact most_gb (ck_all ck_nil hh.2) f.2.2 m0
end
end M
namespace CP
open PySem L2 G Y
/-- data that can be shown, with its depth and bulk -/
structure Nd (d : PyData) (k b : Nat) : Prop where
  sh : d.showable = true
  ls : d.leavesShort 20 = true
  dp : d.depth ≤ k
  bk : d.bulk ≤ b
theorem Nd.up {d : PyData} {k b k' b' : Nat} (h : Nd d k b) (h1 : k ≤ k') (h2 : b ≤ b') : Nd d k' b' := ⟨h.sh, h.ls, Nat.le_trans h.dp h1, Nat.le_trans h.bk h2⟩
theorem nd_int {z : Int} (h : z.natAbs < 10 ^ 18) (k b : Nat) : Nd (.int z) k b := by
  refine ⟨?_, ?_, by simp only [PyData.depth]; omega, by simp only [PyData.bulk]; omega⟩
  · simp only [PyData.showable]
    exact decide_eq_true (Nat.lt_of_lt_of_le (PySem.Flt.log2_lt_of (k := 60) (by decide) (Nat.lt_of_lt_of_le h (by decide))) (by decide))
  · simp only [PyData.leavesShort]
    refine decide_eq_true ?_
    have e := int_text_length_le10 (k := 18) (by decide) h
    show (Str.ofString (toString z)).length ≤ 20
    rw [ofString_length]
    omega
theorem nd_all {k b : Nat} : ∀ {ds : List PyData}, (∀ d ∈ ds, Nd d k b) → PyData.showableAll ds = true ∧ PyData.leavesShortAll 20 ds = true ∧ PyData.depthAll ds ≤ k ∧ PyData.bulkAll ds ≤ ds.length * (b + 1)
  | [], _ => ⟨rfl, rfl, by simp only [PyData.depthAll]; omega, by simp only [PyData.bulkAll]; omega⟩
  | d :: ds, h => by
    have a := h d List.mem_cons_self
    obtain ⟨b1, b2, b3, b4⟩ := nd_all (ds := ds) fun x hx => h x (List.mem_cons_of_mem _ hx)
    refine ⟨by simp only [PyData.showableAll, a.sh, b1, Bool.and_true], by simp only [PyData.leavesShortAll, a.ls, b2, Bool.and_true], ?_, ?_⟩
    · have := a.dp
      simp only [PyData.depthAll]
      omega
    · have := a.bk
      simp only [PyData.bulkAll]
      rw [List.length_cons, Nat.add_mul]
      omega
theorem nd_tup {k b n : Nat} {ds : List PyData} (h : ∀ d ∈ ds, Nd d k b) (hn : ds.length ≤ n) : Nd (.tuple ds) (k + 1) (n * (b + 1)) := by
  obtain ⟨b1, b2, b3, b4⟩ := nd_all h
  have b5 : ds.length * (b + 1) ≤ n * (b + 1) := Nat.mul_le_mul_right _ hn
  refine ⟨by simp only [PyData.showable, b1], by simp only [PyData.leavesShort, b2], ?_, ?_⟩
  · simp only [PyData.depth]
    omega
  · simp only [PyData.bulk]
    omega
theorem nd_lst {k b n : Nat} {ds : List PyData} (h : ∀ d ∈ ds, Nd d k b) (hn : ds.length ≤ n) : Nd (.list ds) (k + 1) (n * (b + 1)) := by
  obtain ⟨b1, b2, b3, b4⟩ := nd_all h
  have b5 : ds.length * (b + 1) ≤ n * (b + 1) := Nat.mul_le_mul_right _ hn
  refine ⟨by simp only [PyData.showable, b1], by simp only [PyData.leavesShort, b2], ?_, ?_⟩
  · simp only [PyData.depth]
    omega
  · simp only [PyData.bulk]
    omega
def dAns : Option Int → PyData
  | none => .none
  | some z => .int z
def dPl (p : List Nat) : PyData := .tuple (p.map fun n => .int ((n : Nat) : Int))
def dGate (g : M.Gate) : PyData := .tuple [dPl g.place, .int g.thr, dAns g.ans]
theorem nd_pl {p : List Nat} (h : ∀ i ∈ p, i < 12) (hl : p.length ≤ 3) : Nd (dPl p) 1 3 :=
  nd_tup (k := 0) (b := 0) (n := 3) (fun d hd => by
    obtain ⟨n, hn, rfl⟩ := List.mem_map.mp hd
    exact nd_int (Nat.lt_of_lt_of_le (by have := h n hn; omega : ((n : Nat) : Int).natAbs < 12) (by decide)) _ _) (by rw [List.length_map]; exact hl)
theorem nd_gate {D : Nat} {g : M.Gate} (b : M.GB D g) (hd : D ≤ 3) (hp : g.place.length ≤ 3) : Nd (dGate g) 2 12 := by
  refine nd_tup (k := 1) (b := 3) (n := 3) (fun d hd => ?_) (Nat.le_refl 3)
  have b1 := b.lo
  have b2 := b.hi
  simp only [List.mem_cons, List.mem_nil_iff, or_false] at hd
  rcases hd with rfl | rfl | rfl
  · exact nd_pl b.pl hp
  · exact nd_int (Nat.lt_of_lt_of_le (by omega : g.thr.natAbs < 1000000000000001) (by decide)) _ _
  · cases e : g.ans with
    | none => exact ⟨rfl, rfl, by decide, by decide⟩
    | some z =>
      have := b.an z e
      exact nd_int (Nat.lt_of_lt_of_le (by omega : z.natAbs < 2000) (by decide)) _ _
theorem dr_ints {K : PySem.W.Frag} {H : Hp} {m : Bool} : ∀ p : List Nat, DrA K H m (ni p) (p.map fun n => .int ((n : Nat) : Int))
  | [] => .nil
  | n :: p => .cons (.int _) (dr_ints p)
theorem dr_ans {K : PySem.W.Frag} {H : Hp} {m : Bool} : ∀ o : Option Int, Dr K H m (ansV o) (dAns o)
  | none => .non
  | some z => .int z
theorem dr_gate {K : PySem.W.Frag} {H : Hp} {m : Bool} {g : M.Gate} {v : V} (h : GAt H g v) : Dr K H m v (dGate g) := by
  obtain ⟨t, q, rfl, h1, h2⟩ := h
  exact .tup (SqT.of h1) (.cons (.tup (SqT.of h2) (dr_ints _)) (.cons (.int _) (.cons (dr_ans _) .nil)))
theorem dr_gates {K : PySem.W.Frag} {H : Hp} {m : Bool} {l : List M.Gate} {xs : List V} (h : GsAt H l xs) : DrA K H m xs (l.map dGate) := by
  induction h with
  | nil => exact .nil
  | cons e _ ih => exact .cons (dr_gate e) ih
def dFate : M.FateA → PyData
  | .silent p => .tuple [.str "silent", dPl p]
  | .told z p => .tuple [.str "told", .int z, dPl p]
  | .comes n l => .tuple [.str "comes", .int ((n : Nat) : Int), .int l]
theorem dr_fate {K : PySem.W.Frag} {H : Hp} {m : Bool} {fa : M.FateA} {v : V} (h : FAt H fa v) : Dr K H m v (dFate fa) := by
  cases fa with
  | silent p =>
    obtain ⟨t, q, rfl, h1, h2⟩ := h
    exact .tup (SqT.of h1) (.cons (.str _) (.cons (.tup (SqT.of h2) (dr_ints _)) .nil))
  | told z p =>
    obtain ⟨t, q, rfl, h1, h2⟩ := h
    exact .tup (SqT.of h1) (.cons (.str _) (.cons (.int _) (.cons (.tup (SqT.of h2) (dr_ints _)) .nil)))
  | comes n l =>
    obtain ⟨t, rfl, h1⟩ := h
    exact .tup (SqT.of h1) (.cons (.str _) (.cons (.int _) (.cons (.int _) .nil)))
def FB : M.FateA → Prop
  | .silent p => (∀ i ∈ p, i < 12) ∧ p.length ≤ 3
  | .told z p => z.natAbs < 2000 ∧ (∀ i ∈ p, i < 12) ∧ p.length ≤ 3
  | .comes n l => n < 1000000 ∧ l.natAbs < 1000000000000
theorem nd_words : Nd (.str "silent") 1 10 ∧ Nd (.str "told") 1 10 ∧ Nd (.str "comes") 1 10 := by
  refine ⟨⟨by decide +kernel, by decide +kernel, by decide +kernel, by decide +kernel⟩, ⟨by decide +kernel, by decide +kernel, by decide +kernel, by decide +kernel⟩, ⟨by decide +kernel, by decide +kernel, by decide +kernel, by decide +kernel⟩⟩
theorem nd_fate {fa : M.FateA} (h : FB fa) : Nd (dFate fa) 2 33 := by
  cases fa with
  | silent p =>
    refine nd_tup (k := 1) (b := 10) (n := 3) (fun d hd => ?_) (by show 2 ≤ 3; decide)
    simp only [List.mem_cons, List.mem_nil_iff, or_false] at hd
    rcases hd with rfl | rfl
    · exact nd_words.1
    · exact (nd_pl h.1 h.2).up (by decide) (by decide)
  | told z p =>
    refine nd_tup (k := 1) (b := 10) (n := 3) (fun d hd => ?_) (Nat.le_refl 3)
    simp only [List.mem_cons, List.mem_nil_iff, or_false] at hd
    rcases hd with rfl | rfl | rfl
    · exact nd_words.2.1
    · exact nd_int (Nat.lt_of_lt_of_le h.1 (by decide)) _ _
    · exact (nd_pl h.2.1 h.2.2).up (by decide) (by decide)
  | comes n l =>
    refine nd_tup (k := 1) (b := 10) (n := 3) (fun d hd => ?_) (Nat.le_refl 3)
    simp only [List.mem_cons, List.mem_nil_iff, or_false] at hd
    obtain ⟨h1, h2⟩ := h
    rcases hd with rfl | rfl | rfl
    · exact nd_words.2.2
    · exact nd_int (Nat.lt_of_lt_of_le (by omega : ((n : Nat) : Int).natAbs < 1000000) (by decide)) _ _
    · exact nd_int (Nat.lt_of_lt_of_le h2 (by decide)) _ _
theorem fine_dep {wy : M.Way} (h : wy.fine) : wy.depth ≤ 3 := by
  obtain ⟨wh, s⟩ := wy
  unfold M.Way.fine at h
  unfold M.Way.depth
  exact h.2.2.2.1
/-- what the law shows: a fate, and gates -/
theorem sh_told {K : PySem.W.Frag} {H : Hp} {fa : M.FateA} {v : V} {se : Bool} {wy : M.Way} {xs : List V} {D G : Addr} (hf : wy.fine) (hb : FB fa) (h1 : FAt H fa v) (h2 : H G = some (.lst xs)) (h3 : GsAt H (M.Way.gates se wy) xs) (hD : H D = some (.lst [v, .ref G])) :
    QR.Sh K H (.ref D) (PyData.list [dFate fa, .list ((M.Way.gates se wy).map dGate)]).shown := by
  have hd := fine_dep hf
  have ll := M.Way.gates_len se wy
  have lz := (fine_all hf).2.2
  have nG : Nd (.list ((M.Way.gates se wy).map dGate)) 3 1040 := nd_lst (k := 2) (b := 12) (n := 80) (fun d hd2 => by
    obtain ⟨g, hg, rfl⟩ := List.mem_map.mp hd2
    exact nd_gate (M.Way.gb se wy hf g hg) hd (Nat.le_trans (M.Way.plen se wy g hg) hd)) (by rw [List.length_map]; omega)
  have nn : Nd (.list [dFate fa, .list ((M.Way.gates se wy).map dGate)]) 4 2082 := nd_lst (k := 3) (b := 1040) (n := 2) (fun d hd2 => by
    simp only [List.mem_cons, List.mem_nil_iff, or_false] at hd2
    rcases hd2 with rfl | rfl
    · exact (nd_fate hb).up (by decide) (by decide)
    · exact nG) (Nat.le_refl 2)
  exact .ref (.lst (SqL.of hD) (.cons (dr_fate h1) (.cons (.lst (SqL.of h2) (dr_gates h3)) .nil))) nn.sh (Nat.le_trans nn.dp (by decide)) nn.ls (Nat.le_trans nn.bk (by decide))
theorem PC_le {cs : List Nat} (f : N.Fall cs) (b : Nat) : N.PC cs b ≤ b + 1 := by
  unfold N.PC
  split
  · omega
  · exact Nat.le_trans (N.L_le f (by omega)) (by omega)
theorem fate_fb {se : Bool} {wy : M.Way} {b : Nat} (hf : wy.fine) (hb : b ≤ 60) : FB (fateOf (M.Way.lows se wy) b (M.chE se wy.head wy.steps [])) := by
  unfold fateOf
  have hd := fine_dep hf
  cases e : (M.Way.lows se wy).find? (fun g => decide (g.thr < (b : Int))) with
  | some g =>
    have hg := M.Way.lows_mem (List.mem_of_find?_eq_some e)
    have gb := M.Way.gb se wy hf g hg
    have gp := Nat.le_trans (M.Way.plen se wy g hg) hd
    show FB (fateG g)
    unfold fateG
    cases ea : g.ans with
    | none => exact ⟨gb.pl, gp⟩
    | some z =>
      have := gb.an z ea
      exact ⟨by omega, gb.pl, gp⟩
  | none =>
    have ckE : M.Ck (M.chE se wy.head wy.steps []) := M.ck_all M.ck_nil (fine_all hf).1
    have h1 := PC_le ckE.fall b
    have h2 := N.B_top ckE.le (N.PC (M.chE se wy.head wy.steps []) b - 1)
    show N.PC (M.chE se wy.head wy.steps []) b < 1000000 ∧ (stretchZ (M.chE se wy.head wy.steps []) b (N.PC (M.chE se wy.head wy.steps []) b)).natAbs < 1000000000000
    refine ⟨by omega, ?_⟩
    unfold stretchZ
    rw [if_pos rfl]
    omega
end CP

end
section
set_option autoImplicit false
set_option Elab.async false
set_option linter.all false
set_option maxRecDepth 100000
set_option maxHeartbeats 4000000
/-! ## ways of plans -/
namespace WP
open PySem L2 G
variable {C : Addr}
open CP (KeepT)
mutual
theorem WayAt.keep {C : Addr} {H H' : Hp} (s : CP.KeepT H H') : ∀ {w : M.Way} {a : Addr}, WayAt C H w a → WayAt C H' w a
  | .mk h st, a, x => by
    unfold WayAt at x ⊢
    obtain ⟨dx, t, xs, h1, h2, h3⟩ := x
    exact ⟨dx, t, xs, s _ _ (fun _ z => by cases z) h1, CP.KeepT.tup s h2, StepsAt.keep s h3⟩
theorem StepsAt.keep {C : Addr} {H H' : Hp} (s : CP.KeepT H H') : ∀ {st : List M.Step} {xs : List V}, StepsAt C H st xs → StepsAt C H' st xs
  | [], xs, x => by
    unfold StepsAt at x ⊢
    exact x
  | y :: r, xs, x => by
    unfold StepsAt at x ⊢
    obtain ⟨u, ys, e, h1, h2⟩ := x
    exact ⟨u, ys, e, StepAt.keep s h1, StepsAt.keep s h2⟩
theorem StepAt.keep {C : Addr} {H H' : Hp} (s : CP.KeepT H H') : ∀ {st : M.Step} {x : V}, StepAt C H st x → StepAt C H' st x
  | .road size ts lw, v, x => by
    unfold StepAt at x ⊢
    obtain ⟨t, e, h⟩ := x
    exact ⟨t, e, CP.KeepT.tup s h⟩
  | .join most, v, x => by
    unfold StepAt at x ⊢
    obtain ⟨t, e, h⟩ := x
    exact ⟨t, e, CP.KeepT.tup s h⟩
  | .tunnel w most tw, v, x => by
    unfold StepAt at x ⊢
    obtain ⟨t, a, e, h, h2⟩ := x
    exact ⟨t, a, e, CP.KeepT.tup s h, WayAt.keep s h2⟩
end
theorem StepsAt.snoc {C : Addr} {H : Hp} : ∀ {s : List M.Step} {xs : List V} {y : M.Step} {x : V}, StepsAt C H s xs → StepAt C H y x → StepsAt C H (s ++ [y]) (xs ++ [x])
  | [], xs, y, x, h, h2 => by
    unfold StepsAt at h
    subst h
    show StepsAt C H [y] [x]
    unfold StepsAt
    exact ⟨x, [], rfl, h2, by unfold StepsAt; rfl⟩
  | z :: s, xs, y, x, h, h2 => by
    unfold StepsAt at h
    obtain ⟨u, ys, rfl, h3, h4⟩ := h
    show StepsAt C H (z :: (s ++ [y])) (u :: (ys ++ [x]))
    unfold StepsAt
    exact ⟨u, ys ++ [x], rfl, h3, StepsAt.snoc h4 h2⟩
structure Mw (P : Program) (w : World) (K : PySem.W.Frag) (mg : Str → Option Value) (base : Heap) (C : Addr) : Prop where
  ex : ∃ (f : Addr) (fd : FuncData), FnOk P w K mg base CX0 6 f fd ["self", "head", "steps"] (spInit C) ∧ Mk K C f ∧ Binds K fd ["self", "head", "steps"] []
theorem made_way {H : Hp} {Q : VK} {E : XK} {l : Addr} {h : Nat} {xs : List V} {st : List M.Step} (hl : SAt H l xs) (hs : StepsAt C H st xs) (hf : M.Way.fine (.mk h st)) (k : ∀ x H', Same H H' → WayAt C H' (.mk h st) x → Q (.ref x) H') :
    ∀ x dx, H x = none → H dx = none → dx ≠ x → spInit C (.ref x :: ([.int (h : Int), .ref l] ++ [])) (upd (upd H dx (.own x)) x (.ins C dx [])) (fun v H2 => v = .non ∧ Q (.ref x) H2) E := fun x dx hx hdx ne =>
  ⟨x, l, dx, h, xs, st, H, rfl, upd_same, hx, (Same.of_upd hdx).trans (Same.of_upd (by rw [upd_ne ne.symm]; exact hx)), hl, hs, hf, fun H' s wa => ⟨rfl, k x H' s wa⟩⟩
end WP
namespace CP
open PySem L2 G Y
theorem PlStep.kind {H : Hp} : ∀ {s : M.Step} {x : V}, PlStep H s x → ∃ t, x = .ref t
  | .road _ _ _, x, h => by unfold PlStep at h; obtain ⟨t, e, h⟩ := h; exact ⟨t, e⟩
  | .join _, x, h => by unfold PlStep at h; obtain ⟨t, e, h⟩ := h; exact ⟨t, e⟩
  | .tunnel _ _ _, x, h => by unfold PlStep at h; obtain ⟨t, v, e, h, _⟩ := h; exact ⟨t, e⟩
section
variable {P : Program} {w : World} {K : PySem.W.Frag} {mg : Str → Option Value} {base : Heap} {C CW : Addr}
def spLWay (C : Addr) (n : Nat) : Sp := fun vs H Q _ => ∃ v wy, vs = [v] ∧ PlanAt H wy v ∧ M.Way.fine wy ∧ wy.depth ≤ n ∧ ∀ a H', Same H H' → WP.WayAt C H' wy a → Q (.ref a) H'
theorem scLw : FnScope ["plan", "head", "steps", "found", "step"] ["plan"] (defScope sLWay) := ⟨rfl, rfl, rfl, by decide +kernel, rfl, by decide +kernel, by decide +kernel⟩
theorem ok_lway {k n : Nat} {f : Addr} {fd : FuncData} (F : Fun K "_law_way" "_law_way" sLWay f fd) (T : WP.Wt K mg CW) (MW : WP.Mw P w K mg base CW) (hk : 7 ≤ k) (DW : Df P w K mg base k "_law_way" ["plan"] (spLWay CW n)) : FnOk P w K mg base CX0 (k + 1) f fd ["plan"] (spLWay CW (n + 1)) := by
  obtain ⟨fI, fdI, GI, MK, bI⟩ := MW.ex
  obtain ⟨fW, fdW, GW, gW, kW, bW⟩ := DW.ex
  refine F.ok scLw (fun vs H Q E h => ?_) (fun cdv A outer s H vs Q E hr h => ?_)
  · obtain ⟨v, wy, rfl, _⟩ := h
    rfl
  · obtain ⟨v, wy, rfl, hR, hf, hd, kk⟩ := h
    refine ⟨_, pss_cons (ps_asg (pv 0) (pg_tup (by rfl) (pgs_cons (pg_name (i := 1) scLw.nd rfl (Or.inl rfl)) (pgs_cons (pg_name (i := 2) scLw.nd rfl (Or.inl rfl)) pgs_nil))))
      (pss_cons (ps_set (i := 3) scLw.nd rfl (Or.inl rfl) (pe_lst pa_nil))
      (pss_cons (ps_for PassesOwn.never rfl (pi_tup (pv 2)) (pg_name (i := 4) scLw.nd rfl (Or.inl rfl)) (pss_one (ps_expr (pe_bm PySem.F.plainAttrs_list PySem.F.slot_list_append PySem.F.type_list_append mt_append (pv 3) (pa_cons (pe_ifExp (pt_cmpR (op_eq) (pe_ix ix_tup (pv 4) (pe_int) (fun _ _ => rfl)) (pe_str) (nomark _)) (pe_tup (pa_cons (pe_str) (pa_cons (pe_call GW (hr.mono (by omega)) rfl gW kW bW .nil pass0 (pa_cons (pe_ix ix_tup (pv 4) (pe_int) (fun _ _ => rfl)) pa_nil)) (pa_cons (pe_ix ix_tup (pv 4) (pe_int) (fun _ _ => rfl)) (pa_cons (pe_ix ix_tup (pv 4) (pe_int) (fun _ _ => rfl)) pa_nil))))) (pv 4)) pa_nil)))))
      (pss_one (ps_ret (pe_make MK GI (hr.mono (by omega)) rfl T.g bI .nil pass0 (pa_cons (pv 1) (pa_cons (pv 3) pa_nil))))))), ?_⟩
    obtain ⟨h, st⟩ := wy
    unfold PlanAt at hR
    obtain ⟨t, L, xs, rfl, ht, hL, hA⟩ := hR
    have hf0 := hf
    unfold M.Way.fine at hf
    obtain ⟨hh, hl, hall, hdd, hzz⟩ := hf
    unfold M.Way.depth at hd
    have lx := hA.len
    have z0 : ∀ {y0 : V} {ys : List V}, atI (y0 :: ys) (0 : Int) = some y0 := fun {y0 ys} => by exact atI_nat (xs := y0 :: ys) (j := 0) rfl
    refine ⟨_, rfl, t, _, rfl, SqT.of ht, rfl, _, _, rfl, _, _, rfl, rfl, ?_⟩
    dsimp only
    refine set_then (i := 3) ⟨line2.2.2.2, fun D hD => ?_⟩
    have s0 : Same H (upd H D (.lst [])) := of_upd hD
    refine ⟨_, rfl, L, rfl, ⟨_, SqT.of (s0 _ _ hL)⟩, ?_⟩
    refine for_it walk_tup (fun i σ G => Same H G ∧ ∃ acc q, σ = [some (.ref t), some (.int (h : Int)), some (.ref L), some (.ref D), q] ∧ G D = some (.lst acc) ∧ WP.StepsAt CW G (st.take i) acc)
      ⟨s0, [], _, rfl, upd_same, by unfold WP.StepsAt; rfl⟩ (fun i σ G _ z => SqT.of (z.1 _ _ hL)) ?_ ?_
    · rintro i x σ G G' hi ⟨s1, acc, q, rfl, hAc, hSt⟩ ⟨rfl, hx⟩
      obtain ⟨y, hy, hat⟩ := hA.get hx
      have la := hSt.len
      have et := take_snoc hy
      have lt : acc.length < sizeLine := small1000 (by rw [la, List.length_take]; omega)
      have fin : ∀ (G2 : Hp) (u : V), Same G' G2 → WP.StepAt CW G2 y u → Same H (upd G2 D (.lst (acc ++ [u]))) ∧ ∃ acc2 q, [some (V.ref t), some (.int (h : Int)), some (.ref L), some (.ref D), some x] = [some (.ref t), some (.int (h : Int)), some (.ref L), some (.ref D), q] ∧ (upd G2 D (.lst (acc ++ [u]))) D = some (.lst acc2) ∧ WP.StepsAt CW (upd G2 D (.lst (acc ++ [u]))) (st.take (i + 1)) acc2 := fun G2 u s2 hu => by
        refine ⟨add_upd hD (s1.trans s2), _, _, rfl, upd_same, ?_⟩
        rw [et]
        have kp : KeepT G2 (upd G2 D (.lst (acc ++ [u]))) := put_keepT (s2 _ _ hAc)
        exact ((hSt.mono s2).keep kp).snoc (hu.keep kp)
      dsimp only
      refine ⟨_, rfl, .inl ⟨rfl, _, SqL.of hAc⟩, ?_⟩
      cases y with
      | road size ts lw =>
        unfold PlStep at hat
        obtain ⟨t2, rfl, h2⟩ := hat
        refine ⟨_, rfl, t2, _, _, _, rfl, rfl, SqT.of (s1 _ _ h2), z0, rfl, _, rfl, ?_⟩
        refine iteN (fun z => absurd (V.str.inj z) (by decide +kernel)) ⟨_, rfl, D, acc, _, rfl, rfl, hAc, lt, fin G' _ (Same.refl _) ?_⟩
        unfold WP.StepAt
        exact ⟨t2, rfl, s1 _ _ h2⟩
      | join most =>
        unfold PlStep at hat
        obtain ⟨t2, rfl, h2⟩ := hat
        refine ⟨_, rfl, t2, _, _, _, rfl, rfl, SqT.of (s1 _ _ h2), z0, rfl, _, rfl, ?_⟩
        refine iteN (fun z => absurd (V.str.inj z) (by decide +kernel)) ⟨_, rfl, D, acc, _, rfl, rfl, hAc, lt, fin G' _ (Same.refl _) ?_⟩
        unfold WP.StepAt
        exact ⟨t2, rfl, s1 _ _ h2⟩
      | tunnel wi most tw =>
        unfold PlStep at hat
        obtain ⟨tx, v2, rfl, h2, hin⟩ := hat
        have fi := WP.fine_get hall hy
        unfold M.Step.fine at fi
        have di := M.dep_le hy
        have h3 := SqT.of (K := K) (s1 _ _ h2)
        have z1 : atI [V.str "tunnel", v2, .int (most : Int), .str (WP.twS tw)] (1 : Int) = some v2 := by exact atI_nat (j := 1) rfl
        have z2 : atI [V.str "tunnel", v2, .int (most : Int), .str (WP.twS tw)] (2 : Int) = some (.int (most : Int)) := by exact atI_nat (j := 2) rfl
        have z3 : atI [V.str "tunnel", v2, .int (most : Int), .str (WP.twS tw)] (3 : Int) = some (.str (WP.twS tw)) := by exact atI_nat (j := 3) rfl
        refine ⟨_, rfl, tx, _, _, _, rfl, rfl, h3, z0, rfl, _, rfl, ?_⟩
        refine iteP rfl ⟨_, rfl, tx, _, _, _, rfl, rfl, h3, z1, v2, wi, rfl, hin.keep (same_keepT s1), fi.1, ?_, fun a G2 s2 hwa => ?_⟩
        · have e : M.Step.dep (.tunnel wi most tw) = wi.depth := rfl
          omega
        have h4 := SqT.of (K := K) (s2 _ _ (s1 _ _ h2))
        refine ⟨_, rfl, tx, _, _, _, rfl, rfl, h4, z2, _, rfl, tx, _, _, _, rfl, rfl, h4, z3, (by show 4 ≤ sizeLine; decide), fun u hu => ?_⟩
        have s3 : Same G2 (upd G2 u (.tup [.str "tunnel", .ref a, .int (most : Int), .str (WP.twS tw)])) := of_upd hu
        refine ⟨D, acc, _, rfl, rfl, s3 _ _ (s2 _ _ hAc), lt, fin _ _ (s2.trans s3) ?_⟩
        unfold WP.StepAt
        exact ⟨u, a, rfl, upd_same, hwa.mono s3⟩
    · rintro σ G ⟨s1, acc, q, rfl, hAc, hSt⟩
      have e : st.take xs.length = st := by rw [lx]; exact List.take_length
      rw [e] at hSt
      refine ⟨_, rfl, _, rfl, ?_⟩
      exact WP.made_way (.inl hAc) hSt hf0 fun x H' s2 wa => kk x H' (s1.trans s2) wa
end
end CP

end
section
set_option autoImplicit false
set_option Elab.async false
set_option linter.all false
set_option maxRecDepth 100000
set_option maxHeartbeats 4000000
/-! ## != of an own class that says only == -/
namespace WO
open PySem PySem.Spec PyProof.Rows L2
section
variable {prog : Program} {w : World} {A : Around} {E : Value → Shared → Prop} {s : Shared} {K : PySem.W.Frag} {x y C f : Addr} {ox : Obj} {od : Option Obj}
theorem bound_ne {M : Model} {args : List Value} {Q : Option Value → Shared → Prop} (X : K.In s.heap) (I : PySem.W.InstAt s.heap x ox C od) (hs : PySem.W.findIn K (.ref C) "__ne__" = some (some (.builtin "object.__ne__")))
    (h : wpAny M A (call (.builtin "object.__ne__") (.ref x :: args)) (fun v => Q (some v)) E s) : wpAny M A (callSpecialIfBound? (.ref x) "__ne__" args) Q E s := by
  simp only [callSpecialIfBound?, bindSpecialIfBound?]
  refine wpAny_holding (wpAny_bind (wpAny_bind (wpAny_bind (I.type.here ((PySem.W.looks_findIn X hs).here ?_)))))
  refine wpAny_bind (wpAny_askSetting (wpAny_ite ?_))
  have e : wpAny M A (call (.builtin "object.__ne__") ([.ref x] ++ args) >>= fun v => pure (some v)) Q E s := wpAny_bind (wpAny_mono h (fun v s' q => wpAny_pure q) fun _ _ q => q)
  split
  · exact wpAny_bind (wpAny_of_eq (F.cmp_object.ne.bind _) (wpAny_pure (by exact e)))
  · exact wpAny_tryCatch (wpAny_bind (wpAny_of_eq (F.cmp_object.ne.bind _) (wpAny_pure (by exact e))))
theorem entry_ne {Q : Fin → Shared → Prop} (hu : A.units < cLine) (X : K.In s.heap) (I : PySem.W.InstAt s.heap x ox C od) (he : PySem.W.findIn K (.ref C) "__eq__" = some (some (.ref f))) (hf : PySem.W.isFn K (.ref f) = true)
    (h : wpAny (model prog w) A (call (.ref f) [.ref x, .ref y]) (fun v s' => ∃ b, v = .bool b ∧ Q (.done (.ret (.bool (!b)))) s') E s) : wpAny (model prog w) A (Builtin.«object.__ne__» ⟨[.ref x, .ref y], []⟩) Q E s := by
  unfold Builtin.«object.__ne__»
  repeat (first
    | with_reducible refine wpAny_cRoomFor hu ?_
    | (refine wpAny_bind (m := callSpecialIfBound? (.ref x) (Str.ofString "__eq__") [.ref y]) (PySem.W.ifBound_K X I he hf (wpAny_mono h (fun r s' hr => by
          obtain ⟨b, rfl, hq⟩ := hr
          repeat (first | exact hq | exact wpAny_pure hq | exact wpAny_truthy_bool hq | (refine wpAny_bind (m := truthy (.bool _)) (wpAny_truthy_bool ?_)) | wp_step)) fun _ _ e => e)))
    | wp_step)
theorem rich_ne {Q : Value → Shared → Prop} (hu : A.units + 1 < cLine) (X : K.In s.heap) (I : PySem.W.InstAt s.heap x ox C od) (hy : PySem.W.Looks (model prog w) s.heap (typeOf (.ref y)) (.ref C)) (hm : PySem.W.mroIn K C (.type "object") = some true)
    (hs : PySem.W.findIn K (.ref C) "__ne__" = some (some (.builtin "object.__ne__"))) (he : PySem.W.findIn K (.ref C) "__eq__" = some (some (.ref f))) (hf : PySem.W.isFn K (.ref f) = true)
    (h : wpAny (model prog w) A.in1 (call (.ref f) [.ref x, .ref y]) (fun v s' => ∃ b, v = .bool b ∧ Q (.bool (!b)) s') E s) : wpAny (model prog w) A (richCompare .NotEq (.ref x) (.ref y)) Q E s := by
  have one : wpAny (model prog w) A (tryCompare (.ref x) "__ne__" (.ref y)) (fun r s' => ∃ v, r = some v ∧ Q v s') E s := by
    unfold tryCompare
    refine wpAny_bind (bound_ne X I hs (wpAny_call (codeAny_call_builtin F.cmp_object.ne.plain F.cmpEntry_ne (PySem.W.check_slot F.cmpKind_ne F.cmpSplit_ne (I.type.andThen (PySem.W.looks_mroIn X hm)) (F.cmpArgs_ne _ _)
      (entry_ne (A := A.in1) hu X I he hf (wpAny_mono h (fun v s' hv => ?_) fun _ _ e => e))))))
    obtain ⟨b, rfl, hq⟩ := hv
    exact ⟨b, rfl, wpAny_pure ⟨_, rfl, hq⟩⟩
  unfold richCompare
  simp only [oneThing_ref]
  refine wpAny_holding (wpAny_bind (wpAny_cRoomFor (Nat.lt_of_succ_lt hu) ?_))
  refine wpAny_bind (I.type.here (wpAny_bind (hy.here ?_)))
  split
  · rename_i q
    simp at q
  · refine wpAny_bind (wpAny_pure ?_)
    simp only [Bool.false_eq_true, if_false]
    refine wpAny_bind (wpAny_mono one (fun r s' z => ?_) fun _ _ e => e)
    obtain ⟨v, rfl, hq⟩ := z
    exact wpAny_pure hq
end
section
variable {X : Cx} {CX : CXT} {n : Nat} {C f : Addr} {fd : FuncData} {ps : List Str} {sp : Sp} {E : XK}
/-- != by the own __eq__ -/
def rNeO (C : Addr) (sp : Sp) (E : XK) : R2 := fun x y H Q => ∃ a b, x = .ref a ∧ y = .ref b ∧ InsC C H a ∧ InsC C H b ∧ sp [.ref a, .ref b] H (fun v H1 => ∃ c, v = .bl c ∧ Q (.bl (!c)) H1) E
theorem op_neO (F : FnOk X.prog X.w X.K X.mg X.base CX n f fd ps sp) (hr : Room (n + 1) X.A) (O : Own X.K C f "__eq__") (hm : PySem.W.mroIn X.K C (.type "object") = some true) (hs : PySem.W.findIn X.K (.ref C) "__ne__" = some (some (.builtin "object.__ne__")))
    (hb : Binds X.K fd ps []) (hx : Passes CX X E) : OpR X (compareOp .NotEq) (rNeO C sp E) := by
  intro pins s σ H x y v u Q I rx ry h
  obtain ⟨a, b, rfl, rfl, ⟨dx, fs, ha⟩, ⟨dy, gs, hb'⟩, hsp⟩ := h
  cases rx
  cases ry
  obtain ⟨_, J, _⟩ := ins_get I.hok ha
  obtain ⟨_, J', _⟩ := ins_get I.hok hb'
  obtain ⟨od, J, _⟩ := J.look
  obtain ⟨od', J', _⟩ := J'.look
  show wpAny (model X.prog X.w) X.A (richCompare .NotEq (.ref a) (.ref b)) (EP X pins σ Q) X.xe s
  refine rich_ne hr.in1.units0 I.kIn J J'.type hm hs O.at' O.fn (run_own F (A := X.A.in1) (xs := [.ref a, .ref b]) ⟨hr.in1, rfl⟩ hb hx I (.cons rfl (.cons rfl .nil)) hsp fun z u H1 s1 I1 rz q => ?_)
  obtain ⟨c, rfl, q⟩ := q
  cases rz
  exact ⟨c, rfl, .bl (!c), H1, I1, rfl, q⟩
end
end WO

end
section
set_option autoImplicit false
set_option Elab.async false
set_option linter.all false
set_option maxRecDepth 100000
set_option maxHeartbeats 4000000
/-! ## != of tuples whose items are equal, own objects among them -/
namespace NQ
open PySem PySem.Spec PyProof.Rows L2
open AutoSeq1 (wpAny_loadPart')
section
variable {prog : Program} {w : World} {A : Around} {R : Result → Shared → Prop}
theorem ne_run {a b : Addr} {ia ib : Array Value} {ka kb : Nat} {da db : Option Addr} {sa sb : Array (Option Value)} (sz : ia.size = ib.size) (J : Nat → Shared → Prop)
    (step : ∀ k (p : k < ia.size) (q : k < ib.size) t, J k t → wpAny (model prog w) A.in1 (eqBool ia[k] ib[k]) (fun r t' => r = true ∧ J (k + 1) t') (fun e t' => R (.error e) t') t)
    (stop : ∀ t, J ia.size t → R (.ok (.ret (.bool false))) t) {t : Shared} (ga : t.heap.get? a = some { cls := .type "tuple", dict := da, data := .seq ia ka, slots := sa })
    (gb : t.heap.get? b = some { cls := .type "tuple", dict := db, data := .seq ib kb, slots := sb }) (go : J 0 t) :
    wpAny (model prog w) A.in1 (Builtin.«tuple.__ne__» ⟨[.ref a, .ref b], []⟩) (GQ.FinOf prog w A R) (fun e t' => R (.error e) t') t := by
  have sub := AutoSeq1.sub_tuple_tuple
  have zl : (ia.toList.zip ib.toList).length = ia.size := by simp [sz]
  have go' := go
  obtain ⟨t1, t2, t3, t4, t5⟩ := t
  wp_walk using wpAny_loadPart' ga, wpAny_loadPart' gb, wpAny_forIn_list _ (fun more z t' => z.1 = none ∧ ∃ k, more = (ia.toList.zip ib.toList).drop k ∧ k ≤ ia.size ∧ J k t') _
  case turn =>
    rintro ⟨u, v⟩ more z t' ⟨hz, k, em, hk, hJ⟩
    have kl : k < (ia.toList.zip ib.toList).length := Nat.lt_of_not_le fun g => by
      rw [List.drop_of_length_le g] at em
      cases em
    have k1 : k < ia.size := zl ▸ kl
    have k2 : k < ib.size := sz ▸ k1
    rw [List.drop_eq_getElem_cons kl] at em
    injection em with e1 e2
    have eu : u = ia[k] := by simpa using congrArg Prod.fst e1
    have ev : v = ib[k] := by simpa using congrArg Prod.snd e1
    subst eu ev
    refine wpAny_bind (wpAny_mono (step k k1 k2 t' hJ) (fun r t2 q2 => ?_) fun _ _ x => x)
    obtain ⟨er, q2⟩ := q2
    subst er
    wp_walk
    exact ⟨rfl, k + 1, e2, k1, q2⟩
  case fin =>
    rintro ⟨z1, z2⟩ t' ⟨hz, k, em, hk, hJ⟩
    simp only at hz
    subst hz
    have kg : ia.size ≤ k := Nat.le_of_not_lt fun g => by
      rw [List.drop_eq_getElem_cons (zl.symm ▸ g)] at em
      cases em
    have ek : k = ia.size := Nat.le_antisymm hk kg
    have done := stop t' (ek ▸ hJ)
    wp_walk
    simpa [Builtin.Tuple.tupleCompareSizes, sz] using done
  case h =>
    exact ⟨rfl, 0, rfl, Nat.zero_le _, go'⟩
end
section
variable {prog : Program} {w : World} {A : Around} {E : Value → Shared → Prop} {t : Shared}
theorem rc_ne {a b : Addr} {ia ib : Array Value} {Q : Value → Shared → Prop} (sz : ia.size = ib.size) (hu : A.units < cLine) (J : Nat → Shared → Prop) (ta : t.heap.IsTuple a ia) (tb : t.heap.IsTuple b ib)
    (step : ∀ k (p : k < ia.size) (q : k < ib.size) t, J k t → wpAny (model prog w) A.in1 (eqBool ia[k] ib[k]) (fun r t' => r = true ∧ J (k + 1) t') E t)
    (stop : ∀ t, J ia.size t → Q (.bool false) t) (go : J 0 t) : wpAny (model prog w) A (richCompare .NotEq (.ref a) (.ref b)) Q E t := by
  obtain ⟨⟨ca, da, pa, sa⟩, ga, qa, na, va⟩ := id ta
  obtain ⟨⟨cb, db, pb, sb⟩, gb, qb, nb, vb⟩ := id tb
  simp only at qa va qb vb
  subst qa va qb vb
  refine wpAny_richCompare_same_room (op := .NotEq) ⟨_, ga, rfl⟩ ⟨_, gb, rfl⟩ F.slot_tuple_ne (GQ.call_here F.slot_tuple_ne ⟨_, ga, rfl⟩ F.entry_tuple_ne (F.args_tuple_ne_2 _ _) ?_) hu
  exact ne_run (R := wants (fun v t' => v ≠ .notImplemented ∧ Q v t') E) sz J step (fun t' q => ⟨(fun x => nomatch x), stop t' q⟩) ga gb go
end
section
variable {X : Cx} {n : Nat} {D : Eqv}
/-- x != y of tuples that are equal item by item -/
def rNeT (K : PySem.W.Frag) (D : Eqv) : R2 := fun x y H Q => DTup K D x y H ∧ ∀ H', Ext H H' → Q (.bl false) H'
theorem op_neT (hD : Mon D) (h : EqG X n D) (hr : Room (n + 1) X.A) : OpR X (compareOp .NotEq) (rNeT X.K D) := by
  intro pins s σ H x y v u Q I rx ry hq
  obtain ⟨⟨a, b, xs, ys, rfl, rfl, ha, hb, p⟩, q⟩ := hq
  cases rx
  cases ry
  obtain ⟨ia, ra, ea, -⟩ := I.tuple ha
  obtain ⟨ib, rb, eb, -⟩ := I.tuple hb
  have sz : ia.toArray.size = ib.toArray.size := by
    have := p.1
    rw [ra.length, rb.length] at this
    rw [List.size_toArray, List.size_toArray]
    exact this
  show wpAny (model X.prog X.w) X.A (richCompare .NotEq (.ref a) (.ref b)) (EP X pins σ Q) X.xe s
  refine rc_ne sz hr.units0 (fun _ t => LoopI X pins σ H t) ea eb (fun i h1 h2 t l => turnG hD h ⟨hr, rfl⟩ p ra rb i h1 h2 t l) (fun t l => ?_) ⟨H, I, Ext.rfl'⟩
  obtain ⟨H1, I1, x1⟩ := l
  exact ⟨.bl false, H1, I1, rfl, q H1 x1⟩
end
end NQ
namespace QK
open PySem PySem.Spec PyProof.Rows L2
section
variable {X : Cx} {CX : CXT} {k : Nat} {f : Addr} {fd : FuncData} {ps ks : List Str} {sp : Sp} {E : XK} {x : Str} {p pos : Pos} {kws : List Keyword} {tk : TA} {g : List Value → List Value → List Value} {gV : List V → List V → List V}
theorem pe_kall (F : FnOk X.prog X.w X.K X.mg X.base CX k f fd ps sp) (hr : Room k X.A) (hg : Gl X x) (hm : X.mg x = some (.ref f)) (hk : PySem.W.keepIn X.K (.ref f) = true) (hb : KBinds X.K fd ps ks g gV) (hx : Passes CX X E) (hkw : PK X kws tk)
    (hall : (backToKw pos (keywordEach kws X.env)).all (·.1.isSome) = true := by rfl) (hks : (backToKw pos (keywordEach kws X.env)).filterMap (·.1) = ks := by rfl) (hdb : (x == ("__debug__" : Str)) = false := by decide)
    (hpl : ((backTo pos (starEach [] X.env)).any (·.1) || (backToKw pos (keywordEach kws X.env)).any (·.1.isNone)) = false := by rfl) : PE X (.Call (.Name x p) [] kws pos) (tCallK sp gV E tNil tk) := ⟨fun pins s σ H Q I h =>
  wpAny_Call_Name_kw (ld_glob I hg hm (PySem.W.callWith_KW0 (h₀ := X.base) I.ok.mod.kin hk hall (thn (hkw.run pos pins s σ H _ I h) fun ws s2 ⟨zs, H2, I2, rz, q2⟩ => ⟨I2.kIn, by
    rw [hks]
    exact run_fnk (us := []) (vs := []) F hr hb hx I2 .nil rz q2⟩) hpl) hdb)⟩
end
end QK
namespace CP
open PySem L2 G Y
section
variable {α : Type}
def o3 : List α → List α
  | [l, n, c] => [c, n, l]
  | _ => []
def o1 : List α → List α
  | [l, c] => [c, l]
  | _ => []
def i1 : List α → List α
  | [c] => [c]
  | _ => []
def m2 (d : α) : List α → List α
  | [n, c] => [c, n, d]
  | _ => []
def m1 (d : α) : List α → List α
  | [c] => [c, d]
  | _ => []
def g0 (f : List α → List α) : List α → List α → List α
  | [], ws => f ws
  | _ :: _, _ => []
def g21 : List α → List α → List α
  | [a, b], [c] => [a, b, c]
  | _, _ => []
end
theorem rel0 {fV : List V → List V} {f : List Value → List Value} (h : ∀ {zs : List V} {ws : List Value}, Vals zs ws → Vals (fV zs) (f ws)) {vs : List V} {us : List Value} {zs : List V} {ws : List Value} (r : Vals vs us) (rz : Vals zs ws) : Vals (g0 fV vs zs) (g0 f us ws) := by
  cases r with
  | nil => exact h rz
  | cons _ _ => exact .nil
theorem rel21 {vs : List V} {us : List Value} {zs : List V} {ws : List Value} (r : Vals vs us) (rz : Vals zs ws) : Vals (g21 vs zs) (g21 us ws) := by
  cases r with
  | nil => exact .nil
  | cons r1 r => cases r with
    | nil => cases rz <;> exact .nil
    | cons r2 r => cases r with
      | nil => cases rz with
        | nil => exact .nil
        | cons z1 rz => cases rz with
          | nil => exact .cons r1 (.cons r2 (.cons z1 .nil))
          | cons _ _ => exact .nil
      | cons _ _ => cases rz <;> exact .nil
theorem r3 {zs : List V} {ws : List Value} (rz : Vals zs ws) : Vals (o3 zs) (o3 ws) := by
  cases rz with
  | nil => exact .nil
  | cons a rz => cases rz with
    | nil => exact .nil
    | cons b rz => cases rz with
      | nil => exact .nil
      | cons c rz => cases rz with
        | nil => exact .cons c (.cons b (.cons a .nil))
        | cons _ _ => exact .nil
theorem r1 {zs : List V} {ws : List Value} (rz : Vals zs ws) : Vals (o1 zs) (o1 ws) := by
  cases rz with
  | nil => exact .nil
  | cons a rz => cases rz with
    | nil => exact .nil
    | cons b rz => cases rz with
      | nil => exact .cons b (.cons a .nil)
      | cons _ _ => exact .nil
theorem ri {zs : List V} {ws : List Value} (rz : Vals zs ws) : Vals (i1 zs) (i1 ws) := by
  cases rz with
  | nil => exact .nil
  | cons a rz => cases rz with
    | nil => exact .cons a .nil
    | cons _ _ => exact .nil
theorem q2 {d : V} {e : Value} (rd : RelV d e) {zs : List V} {ws : List Value} (rz : Vals zs ws) : Vals (m2 d zs) (m2 e ws) := by
  cases rz with
  | nil => exact .nil
  | cons a rz => cases rz with
    | nil => exact .nil
    | cons b rz => cases rz with
      | nil => exact .cons b (.cons a (.cons rd .nil))
      | cons _ _ => exact .nil
theorem q1 {d : V} {e : Value} (rd : RelV d e) {zs : List V} {ws : List Value} (rz : Vals zs ws) : Vals (m1 d zs) (m1 e ws) := by
  cases rz with
  | nil => exact .nil
  | cons a rz => cases rz with
    | nil => exact .cons a (.cons rd .nil)
    | cons _ _ => exact .nil
abbrev sCEq : Stmt := inClass (S.top 20) 4
structure Cn2 (K : PySem.W.Frag) (C : Addr) : Prop where
  iA : PySem.W.findIn K (.ref C) "__class__" = some (some (.builtin "object.__class__"))
  iN : PySem.W.specialIn K (.builtin "object.__class__") "__get__" = some (some (.builtin "getset_descriptor.__get__"))
  iT : PySem.W.takesIn K (.builtin "object.__class__") = some true
  iM : PySem.W.mroIn K C (.type "object") = some true
  ne : PySem.W.findIn K (.ref C) "__ne__" = some (some (.builtin "object.__ne__"))
section
variable {P : Program} {w : World} {K : PySem.W.Frag} {mg : Str → Option Value} {base : Heap} {C CW : Addr}
/-- fate as it is called -/
structure DFa (P : Program) (w : World) (K : PySem.W.Frag) (mg : Str → Option Value) (base : Heap) (k : Nat) (sp : Sp) : Prop where
  ex : ∃ (f : Addr) (fd : FuncData), FnOk P w K mg base CX0 k f fd ["way", "body", "sealed"] sp ∧ mg "fate" = some (.ref f) ∧ PySem.W.keepIn K (.ref f) = true ∧ KBinds K fd ["way", "body", "sealed"] ["sealed"] g21 g21 ∧ KBinds K fd ["way", "body", "sealed"] ["sealed", "body", "way"] (g0 o3) (g0 o3) ∧ KBinds K fd ["way", "body", "sealed"] ["body", "way"] (g0 (m2 (.bool false))) (g0 (m2 (.bl false)))
structure DGa (P : Program) (w : World) (K : PySem.W.Frag) (mg : Str → Option Value) (base : Heap) (k : Nat) (sp : Sp) : Prop where
  ex : ∃ (f : Addr) (fd : FuncData), FnOk P w K mg base CX0 k f fd ["way", "sealed"] sp ∧ mg "gates" = some (.ref f) ∧ PySem.W.keepIn K (.ref f) = true ∧ KBinds K fd ["way", "sealed"] ["sealed"] g11 g11 ∧ KBinds K fd ["way", "sealed"] ["sealed", "way"] (g0 o1) (g0 o1) ∧ KBinds K fd ["way", "sealed"] ["way"] (g0 (m1 (.bool false))) (g0 (m1 (.bl false)))
structure DFm (P : Program) (w : World) (K : PySem.W.Frag) (mg : Str → Option Value) (base : Heap) (k : Nat) (sp : Sp) : Prop where
  ex : ∃ (f : Addr) (fd : FuncData), FnOk P w K mg base CX0 k f fd ["way", "upto"] sp ∧ mg "form" = some (.ref f) ∧ PySem.W.keepIn K (.ref f) = true ∧ KBinds K fd ["way", "upto"] ["upto"] g11 g11 ∧ KBinds K fd ["way", "upto"] ["upto", "way"] (g0 o1) (g0 o1) ∧ KBinds K fd ["way", "upto"] ["way"] (g0 (m1 .none)) (g0 (m1 .non))
structure DCo (P : Program) (w : World) (K : PySem.W.Frag) (mg : Str → Option Value) (base : Heap) (k : Nat) (sp : Sp) : Prop where
  ex : ∃ (f : Addr) (fd : FuncData), FnOk P w K mg base CX0 k f fd ["way"] sp ∧ mg "chain_of" = some (.ref f) ∧ PySem.W.keepIn K (.ref f) = true ∧ Binds K fd ["way"] [] ∧ KBinds K fd ["way"] ["way"] (g0 i1) (g0 i1)
/-! ### == of chains -/
theorem dp_ints' {H : Hp} : ∀ l : List Nat, DpAll K H (ni l) (l.map dI) := fun l => dp_ints l
def spCEq (C : Addr) : Sp := fun vs H Q _ => ∃ (a b : Addr) (l : List Nat), vs = [.ref a, .ref b] ∧ ChAt C H l a ∧ ChAt C H l b ∧ ∀ H', Same H H' → Q (.bl true) H'
theorem scEq : FnScope ["self", "other"] ["self", "other"] (defScope sCEq) := ⟨rfl, rfl, rfl, by decide +kernel, rfl, by decide +kernel, by decide +kernel⟩
end
end CP

end
section
set_option autoImplicit false
set_option Elab.async false
set_option linter.all false
set_option maxRecDepth 100000
set_option maxHeartbeats 4000000
/-! ## ways: len, without a step, == -/
namespace WP
open PySem L2 G
abbrev sWithout : Stmt := inClass (top 66) 6
abbrev sWEq : Stmt := inClass (top 66) 4
theorem StepsAt.app {C : Addr} {H : Hp} : ∀ {s r : List M.Step} {xs ys : List V}, StepsAt C H s xs → StepsAt C H r ys → StepsAt C H (s ++ r) (xs ++ ys)
  | [], r, xs, ys, a, b => by
    unfold StepsAt at a
    subst a
    exact b
  | x :: s, r, xs, ys, a, b => by
    unfold StepsAt at a
    obtain ⟨u, us, rfl, h1, h2⟩ := a
    show StepsAt C H (x :: (s ++ r)) (u :: (us ++ ys))
    unfold StepsAt
    exact ⟨u, us ++ ys, rfl, h1, h2.app b⟩
theorem StepsAt.ne {C : Addr} {H : Hp} {s : List M.Step} {xs : List V} (h : StepsAt C H s xs) (n : 1 ≤ s.length) : xs ≠ [] := fun e => by
  have := h.len
  rw [e] at this
  simp at this
  rw [← this] at n
  simp at n
theorem StepsAt.take {C : Addr} {H : Hp} : ∀ {s : List M.Step} {xs : List V} (i : Nat), StepsAt C H s xs → StepsAt C H (s.take i) (xs.take i)
  | s, xs, 0, _ => by
    rw [List.take_zero, List.take_zero]
    unfold StepsAt
    rfl
  | [], xs, i + 1, h => by
    unfold StepsAt at h
    subst h
    unfold StepsAt
    rfl
  | y :: s, xs, i + 1, h => by
    unfold StepsAt at h
    obtain ⟨u, us, rfl, h1, h2⟩ := h
    rw [List.take_succ_cons, List.take_succ_cons]
    unfold StepsAt
    exact ⟨u, us.take i, rfl, h1, h2.take i⟩
theorem StepsAt.drop {C : Addr} {H : Hp} : ∀ {s : List M.Step} {xs : List V} (i : Nat), StepsAt C H s xs → StepsAt C H (s.drop i) (xs.drop i)
  | s, xs, 0, h => by
    rw [List.drop_zero, List.drop_zero]
    exact h
  | [], xs, i + 1, h => by
    unfold StepsAt at h
    subst h
    unfold StepsAt
    rfl
  | y :: s, xs, i + 1, h => by
    unfold StepsAt at h
    obtain ⟨u, us, rfl, h1, h2⟩ := h
    rw [List.drop_succ_cons, List.drop_succ_cons]
    exact h2.drop i
theorem sl_any {K : PySem.W.Frag} {H : Hp} {Q : VK} {t : Addr} {xs : List V} {lo hi : Option Int} (h : H t = some (.tup xs)) (k : ∀ u G, Same H G → G u = some (.tup (cutV xs lo hi)) → Q (.ref u) G) : rSlA K (.ref t) lo hi H Q :=
  ⟨t, xs, rfl, SqT.of h, fun z => k t H (Same.refl H) (by
    unfold cutV
    rw [z.1, z.2, List.drop_zero, Nat.sub_zero, List.take_length]
    exact h), fun _ p hp => k p _ (Same.of_upd hp) upd_same⟩
theorem catA_own {K : PySem.W.Frag} {H : Hp} {Q : VK} {a b : Addr} {xs ys : List V} (ha : H a = some (.tup xs)) (hb : H b = some (.tup ys)) (hl : xs.length + ys.length ≤ sizeLine) (k : ∀ c H', Same H H' → H' c = some (.tup (xs ++ ys)) → Q (.ref c) H') : rCatA K (.ref a) (.ref b) H Q :=
  ⟨a, b, xs, ys, rfl, rfl, SqT.of ha, SqT.of hb, hl, fun z => k b H (Same.refl H) (by rw [z]; exact hb), fun _ z => k a H (Same.refl H) (by rw [z, List.append_nil]; exact ha), fun _ _ p hp => k p _ (Same.of_upd hp) upd_same⟩
theorem cut_lo (xs : List V) (k : Nat) : cutV xs (some (k : Int)) none = xs.drop k := Y.cut_from xs k
theorem cut_hi (xs : List V) (k : Nat) : cutV xs none (some (k : Int)) = xs.take k := by
  unfold cutV
  rw [HT.sIx_nat, HT.sIx_none, List.drop_zero, Nat.sub_zero]
  by_cases h : k ≤ xs.length
  · rw [Nat.min_eq_left h]
  · rw [Nat.min_eq_right (by omega), List.take_of_length_le (Nat.le_refl _), List.take_of_length_le (by omega)]
section
variable {P : Program} {w : World} {K : PySem.W.Frag} {mg : Str → Option Value} {base : Heap} {C : Addr}
def spLenW (C : Addr) : Sp := fun vs H Q _ => ∃ a wy, vs = [.ref a] ∧ WayAt C H wy a ∧ Q (.int ((M.Way.steps wy).length : Nat)) H
theorem scLW : FnScope ["self"] ["self"] (defScope sLen) := ⟨rfl, rfl, rfl, by decide +kernel, rfl, by decide +kernel, by decide +kernel⟩
theorem ok_len {f : Addr} {fd : FuncData} (F : Fun K "__len__" "Way.__len__" sLen f fd) (B : Bn mg) (T : Wt K mg C) : FnOk P w K mg base CX0 1 f fd ["self"] (spLenW C) := by
  refine F.ok scLW (fun vs H Q E h => ?_) (fun cdv A outer s H vs Q E hr h => ?_)
  · obtain ⟨a, wy, rfl, _⟩ := h
    rfl
  · obtain ⟨a, wy, rfl, hw, k⟩ := h
    obtain ⟨dx, fs, t, xs, h1, h2, h3, h4⟩ := steps_fld hw
    refine ⟨_, pss_one (ps_ret (pe_callB call_len_seq (by rfl) B.len PySem.boot_len (pa_cons (pe_fld (pv 0) rfl) pa_nil))), ?_⟩
    refine ⟨_, rfl, a, C, dx, fs, _, rfl, h1, T.cl, T.nS, h2, t, xs, rfl, .inr (SqT.of h3), ?_⟩
    rw [h4.len]
    exact k
/-- without a step -/
def spOutW (C : Addr) : Sp := fun vs H Q _ => ∃ (a : Addr) (i h : Nat) (s : List M.Step), vs = [.ref a, .int (i : Int)] ∧ WayAt C H (.mk h s) a ∧ i < s.length ∧ s.length ≤ 100 ∧ M.Way.fine (.mk h (s.take i ++ s.drop (i + 1))) ∧ ∀ c H', Same H H' → WayAt C H' (.mk h (s.take i ++ s.drop (i + 1))) c → Q (.ref c) H'
theorem scOW : FnScope ["self", "position"] ["self", "position"] (defScope sWithout) := ⟨rfl, rfl, rfl, by decide +kernel, rfl, by decide +kernel, by decide +kernel⟩
theorem ok_out {f : Addr} {fd : FuncData} (F : Fun K "without" "Way.without" sWithout f fd) (B : Bn mg) (T : Wt K mg C) (MW : Mw P w K mg base C) (DW : Df P w K mg base 2 "is_within" ["value", "least", "greatest"] spWithin) : FnOk P w K mg base CX0 8 f fd ["self", "position"] (spOutW C) := by
  obtain ⟨fI, fdI, GI, MK, bI⟩ := MW.ex
  obtain ⟨fW, fdW, GW, gW, kW, bW⟩ := DW.ex
  refine F.ok scOW (fun vs H Q E h => ?_) (fun cdv A outer s H vs Q E hr h => ?_)
  · obtain ⟨a, i, h, s, rfl, _⟩ := h
    rfl
  · obtain ⟨a, i, h, sts, rfl, hw, hi, hn, hf, k⟩ := h
    refine ⟨_, pss_cons (ps_if (pt_not (pt_val (pe_call GW (hr.mono (by decide)) rfl gW kW bW .nil pass0 (pa_cons (pv 1) (pa_cons pe_int (pa_cons (pe_op op_sub (pe_callB call_len_seq (by rfl) B.len PySem.boot_len (pa_cons (pe_fld (pv 0) rfl) pa_nil)) pe_int) pa_nil)))))) ps_dead pss_nil)
      (pss_one (ps_ret (pe_make MK GI hr rfl T.g bI .nil pass0 (pa_cons (pe_fld (pv 0) rfl) (pa_cons (pe_op op_catA (pe_slice sl_tupA (pe_fld (pv 0) rfl) po_none (po_some (pv 1))) (pe_slice sl_tupA (pe_fld (pv 0) rfl) (po_some (pe_op op_add (pv 1) pe_int)) po_none)) pa_nil))))), ?_⟩
    obtain ⟨da, fa, a1, a2⟩ := head_fld hw
    obtain ⟨dc, fc, t1, xs, c1, c2, c3, c4⟩ := steps_fld hw
    have lx := c4.len
    have lx2 : xs.length = sts.length := lx
    refine ⟨_, rfl, _, rfl, a, C, dc, fc, _, rfl, c1, T.cl, T.nS, c2, t1, _, rfl, .inr (SqT.of c3), _, _, rfl, rfl, (i : Int), 0, _, rfl, ?_⟩
    rw [lx2, decide_eq_true (show (0 : Int) ≤ (i : Int) ∧ (i : Int) ≤ (sts.length : Int) - 1 by omega)]
    refine ⟨_, rfl, iteF ?_⟩
    refine ⟨_, rfl, a, C, da, fa, _, rfl, a1, T.cl, T.nH, a2, ?_⟩
    refine ⟨_, rfl, a, C, dc, fc, _, rfl, c1, T.cl, T.nS, c2, ?_⟩
    dsimp only [tNoPart]
    refine ⟨_, rfl, _, rfl, ?_⟩
    refine sl_any c3 fun u1 G1 s1 h1 => ?_
    refine ⟨_, rfl, a, C, dc, fc, _, rfl, s1 _ _ c1, T.cl, T.nS, c2, _, rfl, _, _, rfl, rfl, _, rfl, ?_⟩
    dsimp only [tNoPart]
    refine sl_any (s1 _ _ c3) fun u2 G2 s2 h2 => ?_
    rw [cut_hi] at h1
    rw [show ((i : Int) + 1) = ((i + 1 : Nat) : Int) from rfl, cut_lo] at h2
    refine catA_own (s2 _ _ h1) h2 (by rw [List.length_take, List.length_drop]; exact Nat.le_trans (show _ ≤ 200 by omega) (by decide)) fun c G3 s3 hc => ?_
    have s4 := (s1.trans s2).trans s3
    exact made_way (.inr hc) (((c4.mono s4).take i).app ((c4.mono s4).drop (i + 1))) hf fun x H' s5 wa => k x H' (s4.trans s5) wa
/-- ways alike in all their parts -/
def RWy (C : Addr) (n : Nat) : Addr → Addr → Hp → Prop := fun a b H => ∃ wy, WayAt C H wy a ∧ WayAt C H wy b ∧ wy.depth ≤ n
theorem mon_rwy (C : Addr) (n : Nat) : ∀ a b H H', Ext H H' → RWy C n a b H → RWy C n a b H' := fun a b H H' e h => by
  obtain ⟨wy, h1, h2, h3⟩ := h
  exact ⟨wy, h1.mono e, h2.mono e, h3⟩
/-- an item of a step: plain, or a way -/
def DItW (C : Addr) (n : Nat) : Eqv := fun x y H => DFlat x y H ∨ DIns C (RWy C n) x y H
theorem mon_itw (C : Addr) (n : Nat) : Mon (DItW C n) := mon_flat.or (mon_ins (mon_rwy C n))
theorem int_flat (z : Int) : eqV (.int z) (.int z) = true := by
  show (z == z) = true
  exact beq_self_eq_true z
theorem str_flat (s : Str) : eqV (.str s) (.str s) = true := by
  show (s == s) = true
  exact beq_self_eq_true s
theorem step_eq {H : Hp} {n : Nat} : ∀ {s : M.Step} {x y : V}, M.Step.dep s ≤ n → StepAt C H s x → StepAt C H s y → DTup K (DItW C n) x y H
  | .road size ts lw, x, y, d, h1, h2 => by
    unfold StepAt at h1 h2
    obtain ⟨t, rfl, a⟩ := h1
    obtain ⟨u, rfl, b⟩ := h2
    exact ⟨t, u, _, _, rfl, rfl, SqT.of a, SqT.of b, .cons (.inl ⟨rfl, rfl, str_flat _⟩) (.cons (.inl ⟨rfl, rfl, int_flat _⟩) (.cons (.inl ⟨rfl, rfl, str_flat _⟩) (.cons (.inl ⟨rfl, rfl, str_flat _⟩) .nil)))⟩
  | .join most, x, y, d, h1, h2 => by
    unfold StepAt at h1 h2
    obtain ⟨t, rfl, a⟩ := h1
    obtain ⟨u, rfl, b⟩ := h2
    exact ⟨t, u, _, _, rfl, rfl, SqT.of a, SqT.of b, .cons (.inl ⟨rfl, rfl, str_flat _⟩) (.cons (.inl ⟨rfl, rfl, int_flat _⟩) .nil)⟩
  | .tunnel w most tw, x, y, d, h1, h2 => by
    unfold StepAt at h1 h2
    obtain ⟨t, a0, rfl, a, wa⟩ := h1
    obtain ⟨u, b0, rfl, b, wb⟩ := h2
    obtain ⟨da, fa, g1, _⟩ := head_fld wa
    obtain ⟨db, fb, g2, _⟩ := head_fld wb
    exact ⟨t, u, _, _, rfl, rfl, SqT.of a, SqT.of b, .cons (.inl ⟨rfl, rfl, str_flat _⟩) (.cons (.inr ⟨a0, b0, da, db, fa, fb, rfl, rfl, g1, g2, w, wa, wb, d⟩) (.cons (.inl ⟨rfl, rfl, int_flat _⟩) (.cons (.inl ⟨rfl, rfl, str_flat _⟩) .nil)))⟩
theorem steps_eq {H : Hp} {n : Nat} : ∀ {s : List M.Step} {xs ys : List V}, M.Step.deepest s ≤ n → StepsAt C H s xs → StepsAt C H s ys → Prs (DTup K (DItW C n)) xs ys H
  | [], xs, ys, d, h1, h2 => by
    unfold StepsAt at h1 h2
    subst h1 h2
    exact .nil
  | s :: r, xs, ys, d, h1, h2 => by
    rw [M.deep_cons] at d
    unfold StepsAt at h1 h2
    obtain ⟨x, xs, rfl, a1, a2⟩ := h1
    obtain ⟨y, ys, rfl, b1, b2⟩ := h2
    exact .cons (step_eq (by omega) a1 b1) (steps_eq (by omega) a2 b2)
theorem scWEq : FnScope ["self", "other"] ["self", "other"] (defScope sWEq) := ⟨rfl, rfl, rfl, by decide +kernel, rfl, by decide +kernel, by decide +kernel⟩
theorem ok_weq {k n : Nat} {f : Addr} {fd : FuncData} (F : Fun K "__eq__" "Way.__eq__" sWEq f fd) (B : Bn mg) (T : Wt K mg C) (G0 : FnOk P w K mg base CX0 k f fd ["self", "other"] (spEq (RWy C n))) (O : WO.Own K C f "__eq__") (b : Binds K fd ["self", "other"] []) : FnOk P w K mg base CX0 (k + 3) f fd ["self", "other"] (spEq (RWy C (n + 1))) := by
  refine F.ok scWEq (fun vs H Q E h => ?_) (fun cdv A outer s H vs Q E hr h => ?_)
  · obtain ⟨a, b, rfl, _⟩ := h
    rfl
  · obtain ⟨x, y, rfl, ⟨wy, ha, hb, hd⟩, kk⟩ := h
    refine ⟨_, pss_one (ps_ret (pe_and (pe_callB call_isi (by rfl) B.isi (by decide +kernel) (pa_cons (pv 1) (pa_cons (pe_glob (v := .ref C) rfl T.g rfl) pa_nil)))
      (pe_and (pe_cmpR op_eq (pe_fld (pv 0) rfl) (pe_fld (pv 1) rfl) (nomark _))
      (pe_one (pe_cmpR (op_eqG (rcG_tup (mon_tup (mon_itw C n)) (eqG_tup (mon_itw C n) ((eqG_flat.mono (Nat.zero_le k)).or (eqG_ins G0 O.at' O.fn b pass0)))) hr) (pe_fld (pv 0) rfl) (pe_fld (pv 1) rfl) (nomark _)))))), ?_⟩
    obtain ⟨da, fa, a1, a2⟩ := head_fld ha
    obtain ⟨db, fb, b1, b2⟩ := head_fld hb
    obtain ⟨dc, fc, t1, xs, c1, c2, c3, c4⟩ := steps_fld ha
    obtain ⟨de, fe, t2, ys, e1, e2, e3, e4⟩ := steps_fld hb
    refine ⟨_, rfl, _, _, _, _, true, rfl, .own C, .base (.ins b1 T.cl T.iA T.iN T.iT T.iM), ?_, _, rfl, iteT ?_⟩
    · unfold PySem.W.kitOne
      rw [if_pos (by simp)]
    refine ⟨_, rfl, x, C, da, fa, _, rfl, a1, T.cl, T.nH, a2, _, rfl, y, C, db, fb, _, rfl, b1, T.cl, T.nH, b2, rfl, _, rfl, ?_⟩
    rw [decide_eq_true rfl]
    refine iteT ⟨_, rfl, x, C, dc, fc, _, rfl, c1, T.cl, T.nS, c2, _, rfl, y, C, de, fe, _, rfl, e1, T.cl, T.nS, e2, ?_⟩
    obtain ⟨wh, st⟩ := wy
    unfold M.Way.depth at hd
    change StepsAt C H st xs at c4
    change StepsAt C H st ys at e4
    exact ⟨⟨t1, t2, xs, ys, rfl, rfl, SqT.of c3, SqT.of e3, steps_eq (by omega) c4 e4⟩, kk⟩
theorem df_weq {f : Addr} {fd : FuncData} (F : Fun K "__eq__" "Way.__eq__" sWEq f fd) (B : Bn mg) (T : Wt K mg C) (O : WO.Own K C f "__eq__") (b : Binds K fd ["self", "other"] []) : ∀ n, FnOk P w K mg base CX0 (1 + 3 * n) f fd ["self", "other"] (spEq (RWy C n))
  | 0 => F.ok scWEq (fun vs H Q E h => by
      obtain ⟨a, b, rfl, _⟩ := h
      rfl) (fun cdv A outer s H vs Q E hr h => by
      exfalso
      obtain ⟨a, b, _, ⟨wy, _, _, hd⟩, _⟩ := h
      have := M.depth_pos wy
      omega)
  | n + 1 => ok_weq F B T (df_weq F B T O b n) O b
end
end WP

end
section
set_option autoImplicit false
set_option Elab.async false
set_option linter.all false
set_option maxRecDepth 100000
set_option maxHeartbeats 4000000
/-! ## forms alike; a def called under guards -/
namespace G
open PySem PySem.Spec PyProof.Rows L2
section
variable {X : Cx} {CX : CXT} {k : Nat} {f : Addr} {fd : FuncData} {ps : List Str} {sp : Sp} {E : XK} {x : Str} {p pos : Pos} {e : Expr} {es : List Expr} {t : TA}
theorem go_fn {pins : List (Addr × Obj)} {σ : L2.St} {H : Hp} {s : Shared} {Q : VK} {us : List Value} {vs : List V} (hg : X.A.guards = some []) (F : Ok X.prog X.w X.K X.mg X.base CX k f fd ps sp) (hr : Room k X.A) (hb : Binds X.K fd ps [])
    (hx : Passes CX X E) (I : Inv X pins σ H s) (rv : Vals vs us) (h : sp vs H Q E) : wpAny (model X.prog X.w) X.A (call (.ref f) us) (EP X pins σ Q) X.xe s := by
  have b := hb s us I.kIn (by rw [List.append_nil, ← rv.length]; exact F.len _ _ _ _ h)
  rw [List.append_nil] at b
  refine wpAny_call (codeAny_mono (F.go X.A hg X.stack s H ⟨us, []⟩ us vs Q E hr I.env0 b rv h) ?_)
  intro r s' z
  match r, z with
  | .error e, z => exact hx pins σ H s e s' I z
  | .ok (.ret u), z => exact I.after z
  | .ok .next, z => exact z.elim
  | .ok .brk, z => exact z.elim
  | .ok .cont, z => exact z.elim
theorem pe_callG (hgu : X.A.guards = some []) (F : Ok X.prog X.w X.K X.mg X.base CX k f fd ps sp) (hr : Room k X.A) (hl : Gl X x) (hm : X.mg x = some (.ref f)) (hk : PySem.W.keepIn X.K (.ref f) = true) (hb : Binds X.K fd ps []) (hx : Passes CX X E)
    (ha : PA X (e :: es) t) (hdb : (x == ("__debug__" : Str)) = false := by decide) (he : starEach (e :: es) X.env = (false, eval e X.env) :: starEach es X.env := by rfl) (hpl : (backTo pos (starEach es X.env)).any (·.1) = false := by rfl) :
    PE X (.Call (.Name x p) (e :: es) [] pos) (tCall sp [] E t) := ⟨fun pins s σ H Q I h =>
  wpAny_Call_Name_kw (ld_glob I hl hm (PySem.W.callWith_K (h₀ := X.base) I.ok.mod.kin hk (thn (ha.run pos pins s σ H _ I h) fun us s1 ⟨vs, H1, I1, r, q⟩ => ⟨I1.kIn,
    go_fn hgu F hr hb hx I1 r ((congrArg (fun z => sp z H1 Q E) (List.append_nil vs)).mp q)⟩) he hpl) hdb)⟩
end
structure Du (P : Program) (w : World) (K : PySem.W.Frag) (mg : Str → Option Value) (base : Heap) (k : Nat) (x : Str) (ps : List Str) (sp : Sp) : Prop where
  ex : ∃ (f : Addr) (fd : FuncData), Ok P w K mg base CX0 k f fd ps sp ∧ mg x = some (.ref f) ∧ PySem.W.keepIn K (.ref f) = true ∧ Binds K fd ps []
end G
namespace CP
open PySem L2 G Y
structure Oe (P : Program) (w : World) (K : PySem.W.Frag) (mg : Str → Option Value) (base : Heap) (C : Addr) (k : Nat) (m : Str) (ps : List Str) (sp : Sp) : Prop where
  ex : ∃ (f : Addr) (fd : FuncData), FnOk P w K mg base CX0 k f fd ps sp ∧ WO.Own K C f m ∧ Binds K fd ps []
theorem FAt.mono {H H' : Hp} (s : Same H H') {fa : M.FateA} {v : V} (h : FAt H fa v) : FAt H' fa v := by
  cases fa with
  | silent p =>
    obtain ⟨t, q, e, h1, h2⟩ := h
    exact ⟨t, q, e, s _ _ h1, s _ _ h2⟩
  | told z p =>
    obtain ⟨t, q, e, h1, h2⟩ := h
    exact ⟨t, q, e, s _ _ h1, s _ _ h2⟩
  | comes n l =>
    obtain ⟨t, e, h1⟩ := h
    exact ⟨t, e, s _ _ h1⟩
theorem FormAt.mono {C : Addr} {H H' : Hp} (s : Same H H') {L : Option Int} {wy : M.Way} {t : Addr} (h : FormAt C H L wy t) : FormAt C H' L wy t := by
  obtain ⟨s1, s2, c, xs1, xs2, a1, a2, a3, a4, a5, a6⟩ := h
  exact ⟨s1, s2, c, xs1, xs2, s _ _ a1, s _ _ a2, a3.mono s, s _ _ a4, a5.mono s, a6.mono s⟩
/-- stairs, item by item -/
theorem ss_prs {K : PySem.W.Frag} {H : Hp} : ∀ {l : List M.Stair} {xs ys : List V}, SsAt H l xs → SsAt H l ys → Prs (DTup K DFlat) xs ys H
  | [], xs, ys, h, h2 => by
    cases h
    cases h2
    exact .nil
  | s :: l, xs, ys, h, h2 => by
    cases h with
    | cons e h =>
      cases h2 with
      | cons e2 h2 =>
        refine .cons ?_ (ss_prs h h2)
        obtain ⟨t, rfl, f1⟩ := e
        obtain ⟨u, rfl, f2⟩ := e2
        refine ⟨t, u, _, _, rfl, rfl, SqT.of f1, SqT.of f2, .cons ⟨rfl, rfl, by show (_ == _) = true; exact beq_self_eq_true _⟩ (.cons ?_ .nil)⟩
        cases s.2 with
        | none => exact ⟨rfl, rfl, rfl⟩
        | some z => exact ⟨rfl, rfl, by simp [ansV, eqV]⟩
section
variable {P : Program} {w : World} {K : PySem.W.Frag} {mg : Str → Option Value} {base : Heap} {C CW : Addr}
theorem ok_ceq {f : Addr} {fd : FuncData} (F : Fun K "__eq__" "Chain.__eq__" sCEq f fd) (B : Bn mg) (T : Ct K mg C) (T2 : Cn2 K C) : FnOk P w K mg base CX0 1 f fd ["self", "other"] (spCEq C) := by
  refine F.ok scEq (fun vs H Q E h => ?_) (fun cdv A outer s H vs Q E hr h => ?_)
  · obtain ⟨a, b, l, rfl, _⟩ := h
    rfl
  · obtain ⟨a, b, l, rfl, ha, hb, k⟩ := h
    refine ⟨_, pss_one (ps_ret (pe_and (pe_callB call_isi (by rfl) B.isi (by decide +kernel) (pa_cons (pv 1) (pa_cons (pe_glob (v := .ref C) rfl T.g rfl) pa_nil)))
      (pe_one (pe_cmpR (op_eqD hr.units) (pe_fld (pv 0) rfl) (pe_fld (pv 1) rfl) (nomark _))))), ?_⟩
    obtain ⟨dx, t, u, h1, h2, h3⟩ := ha
    obtain ⟨dy, t', u', g1, g2, g3⟩ := hb
    refine ⟨_, rfl, _, _, _, _, true, rfl, .own C, .base (.ins g1 T.cl T2.iA T2.iN T2.iT T2.iM), ?_, _, rfl, iteT ⟨_, rfl, a, C, dx, _, _, rfl, h1, T.cl, T.nC, cfl_cuts t u, _, rfl, b, C, dy, _, _, rfl, g1, T.cl, T.nC, cfl_cuts t' u', ?_⟩⟩
    · unfold PySem.W.kitOne
      rw [if_pos (by simp)]
    · exact ⟨_, _, .tup (SqT.of h2) (dp_ints l), .tup (SqT.of g2) (dp_ints l), shp_tup l, shp_tup l, by rw [eqv_tup]; exact k _ (Same.refl _)⟩
/-- two chains with the same cuts -/
def RCh (C : Addr) : Addr → Addr → Hp → Prop := fun a b H => ∃ l, ChAt C H l a ∧ ChAt C H l b
theorem ne_chain {H : Hp} {Q : VK} {x y : Addr} {l : List Nat} (hx : ChAt C H l x) (hy : ChAt C H l y) (k : ∀ G, Same H G → Q (.bl false) G) : WO.rNeO C (spCEq C) E0 (.ref x) (.ref y) H Q :=
  ⟨x, y, rfl, rfl, ch_isC hx, ch_isC hy, x, y, l, rfl, hx, hy, fun G s => ⟨_, rfl, k G s⟩⟩
/-- an item of a form: stairs, or a chain -/
def DIt (K : PySem.W.Frag) (C : Addr) : Eqv := fun x y H => DTup K (DTup K DFlat) x y H ∨ DIns C (RCh C) x y H
theorem mon_it (K : PySem.W.Frag) (C : Addr) : Mon (DIt K C) := (mon_tup (mon_tup mon_flat)).or (mon_ins fun a b H H' e h => by
  obtain ⟨l, h1, h2⟩ := h
  exact ⟨l, h1.mono e, h2.mono e⟩)
theorem eqG_it {X : Cx} {f : Addr} {fd : FuncData} (F : FnOk X.prog X.w X.K X.mg X.base CX0 1 f fd ["self", "other"] (spCEq C)) (O : WO.Own X.K C f "__eq__") (b : Binds X.K fd ["self", "other"] []) : EqG X 2 (DIt X.K C) :=
  (eqG_tup (mon_tup mon_flat) (eqG_tup mon_flat eqG_flat)).or (eqG_ins (R := RCh C) (E := E0) ((F.imp fun vs H Q E h => by
    obtain ⟨a, b, e, ⟨l, h1, h2⟩, k⟩ := h
    exact ⟨a, b, l, e, h1, h2, k⟩).mono (by decide)) O.at' O.fn b pass0)
theorem ne_form {H : Hp} {Q : VK} {L : Option Int} {wy : M.Way} {t u : Addr} (h1 : FormAt C H L wy t) (h2 : FormAt C H L wy u) (k : ∀ G, Same H G → Q (.bl false) G) : NQ.rNeT K (DIt K C) (.ref t) (.ref u) H Q := by
  obtain ⟨s1, s2, c, xs1, xs2, a1, a2, a3, a4, a5, a6⟩ := h1
  obtain ⟨r1, r2, d, ys1, ys2, b1, b2, b3, b4, b5, b6⟩ := h2
  refine ⟨⟨t, u, _, _, rfl, rfl, SqT.of a1, SqT.of b1, .cons ?_ (.cons ?_ (.cons ?_ .nil))⟩, k⟩
  · exact .inl ⟨s1, r1, xs1, ys1, rfl, rfl, SqT.of a2, SqT.of b2, ss_prs a3 b3⟩
  · exact .inl ⟨s2, r2, xs2, ys2, rfl, rfl, SqT.of a4, SqT.of b4, ss_prs a5 b5⟩
  · obtain ⟨dx, fs, e1⟩ := ch_isC a6
    obtain ⟨dy, gs, e2⟩ := ch_isC b6
    exact .inr ⟨c, d, dx, dy, fs, gs, rfl, rfl, e1, e2, _, a6, b6⟩
end
end CP

end
section
set_option autoImplicit false
set_option Elab.async false
set_option linter.all false
set_option maxRecDepth 100000
set_option maxHeartbeats 4000000
/-! ## a plan a little changed -/
namespace M
theorem inner_ap : ∀ (a b : List Step), Step.inner (a ++ b) = Step.inner a + Step.inner b
  | [], b => by
    show Step.inner b = Step.inner [] + Step.inner b
    rw [show Step.inner [] = 0 by unfold Step.inner; rfl, Nat.zero_add]
  | x :: a, b => by
    show Step.inner (x :: (a ++ b)) = _
    rw [inner_cons, inner_cons, inner_ap a b]
    omega
theorem fineAll_iff {h : Nat} : ∀ {s : List Step}, Step.fineAll h s ↔ ∀ y ∈ s, Step.fine h y
  | [] => ⟨(fun _ y hy => by cases hy), (fun _ => by unfold Step.fineAll; trivial)⟩
  | x :: r => by
    conv => lhs; unfold Step.fineAll
    rw [fineAll_iff (s := r)]
    exact ⟨fun q y hy => (List.mem_cons.mp hy).elim (fun e => e ▸ q.1) (q.2 y), fun q => ⟨q x List.mem_cons_self, fun y hy => q y (List.mem_cons_of_mem _ hy)⟩⟩
theorem deep_iff {d : Nat} : ∀ {s : List Step}, Step.deepest s ≤ d ↔ ∀ y ∈ s, Step.dep y ≤ d
  | [] => ⟨(fun _ y hy => by cases hy), (fun _ => by unfold Step.deepest; omega)⟩
  | x :: r => by
    rw [deep_cons, Nat.max_le, deep_iff (s := r)]
    exact ⟨fun q y hy => (List.mem_cons.mp hy).elim (fun e => e ▸ q.1) (q.2 y), fun q => ⟨q x List.mem_cons_self, fun y hy => q y (List.mem_cons_of_mem _ hy)⟩⟩
theorem isz_le : ∀ {s : List Step} {y : Step}, y ∈ s → isz y ≤ Step.inner s
  | [], y, h => by cases h
  | x :: r, y, h => by
    rw [inner_cons]
    rcases List.mem_cons.mp h with e | e
    · rw [e]
      omega
    · have := isz_le e
      omega
/-- steps of a little plan: at most n of them, tunnels one deep -/
structure Few (h n z : Nat) (s : List Step) : Prop where
  l1 : 1 ≤ s.length
  ln : s.length ≤ n
  fine : ∀ y ∈ s, Step.fine h y
  dp : ∀ y ∈ s, Step.dep y ≤ 1
  sz : Step.inner s ≤ z
theorem Few.way {h n z : Nat} {s : List Step} (f : Few h n z s) (h1 : 1 ≤ h) (h2 : h ≤ 40) (hn : n ≤ 12) (hz : n + z ≤ 40) : Way.fine (.mk h s) ∧ (Way.mk h s).depth ≤ 2 := by
  have a := fineAll_iff.mpr f.fine
  have b := deep_iff.mpr f.dp
  have c := f.ln
  have d := f.sz
  have e := f.l1
  refine ⟨?_, by unfold Way.depth; omega⟩
  unfold Way.fine
  exact ⟨⟨h1, h2⟩, ⟨e, by omega⟩, a, by omega, by omega⟩
theorem few_of {w : Way} (s : Sm 1 w) : Few w.head 3 9 w.steps ∧ 1 ≤ w.head ∧ w.head ≤ 40 := by
  obtain ⟨h, st⟩ := w
  have f := s.fine
  have ln : st.length ≤ 3 := s.ln
  have dp : 1 + Step.deepest st ≤ 2 := s.dp
  have sz : st.length + Step.inner st ≤ 9 := s.sz
  unfold Way.fine at f
  exact ⟨⟨f.2.1.1, ln, fineAll_iff.mp f.2.2.1, deep_iff.mp (show Step.deepest st ≤ 1 by omega), by show Step.inner st ≤ 9; omega⟩, f.1⟩
theorem Few.at {h n z : Nat} {s : List Step} (f : Few h n z s) {i : Nat} {y : Step} (hy : s[i]? = some y) : Step.fine h y ∧ Step.dep y ≤ 1 ∧ isz y ≤ z := by
  have m := List.mem_of_getElem? hy
  have := isz_le m
  have := f.sz
  exact ⟨f.fine y m, f.dp y m, by omega⟩
/-- a step in the place of another one -/
theorem Few.put {h n z : Nat} {s : List Step} (f : Few h n z s) {i : Nat} (hi : i < s.length) {x : Step} (h1 : Step.fine h x) (h2 : Step.dep x ≤ 1) (h3 : isz x ≤ 9) : Few h n (z + 9) (s.take i ++ [x] ++ s.drop (i + 1)) := by
  have ln := f.ln
  refine ⟨by rw [List.length_append, List.length_append, List.length_singleton]; omega, ?_, fun y hy => ?_, fun y hy => ?_, ?_⟩
  · rw [List.length_append, List.length_append, List.length_take, List.length_drop, List.length_singleton]
    omega
  · rcases List.mem_append.mp hy with e | e
    · rcases List.mem_append.mp e with e | e
      · exact f.fine y (List.mem_of_mem_take e)
      · rw [List.mem_singleton.mp e]
        exact h1
    · exact f.fine y (List.mem_of_mem_drop e)
  · rcases List.mem_append.mp hy with e | e
    · rcases List.mem_append.mp e with e | e
      · exact f.dp y (List.mem_of_mem_take e)
      · rw [List.mem_singleton.mp e]
        exact h2
    · exact f.dp y (List.mem_of_mem_drop e)
  · have a := inner_ap (s.take i) (s.drop i)
    rw [List.take_append_drop] at a
    have b : Step.inner (s.drop (i + 1)) ≤ Step.inner (s.drop i) := by
      rw [List.drop_eq_getElem_cons hi, inner_cons]
      omega
    rw [inner_ap, inner_ap]
    have c : Step.inner [x] = isz x := by
      rw [inner_cons]
      unfold Step.inner
      rfl
    have := f.sz
    omega
/-- a step twice -/
theorem Few.dup {h n z : Nat} {s : List Step} (f : Few h n z s) {i : Nat} {x : Step} (hx : s[i]? = some x) : Few h (n + 1) (z + z) (s.take i ++ [x] ++ s.drop i) := by
  have ln := f.ln
  have xa := f.at hx
  refine ⟨by rw [List.length_append, List.length_append, List.length_singleton]; omega, ?_, fun y hy => ?_, fun y hy => ?_, ?_⟩
  · rw [List.length_append, List.length_append, List.length_take, List.length_drop, List.length_singleton]
    omega
  · rcases List.mem_append.mp hy with e | e
    · rcases List.mem_append.mp e with e | e
      · exact f.fine y (List.mem_of_mem_take e)
      · rw [List.mem_singleton.mp e]
        exact xa.1
    · exact f.fine y (List.mem_of_mem_drop e)
  · rcases List.mem_append.mp hy with e | e
    · rcases List.mem_append.mp e with e | e
      · exact f.dp y (List.mem_of_mem_take e)
      · rw [List.mem_singleton.mp e]
        exact xa.2.1
    · exact f.dp y (List.mem_of_mem_drop e)
  · have a := inner_ap (s.take i) (s.drop i)
    rw [List.take_append_drop] at a
    rw [inner_ap, inner_ap]
    have c : Step.inner [x] = isz x := by
      rw [inner_cons]
      unfold Step.inner
      rfl
    have := f.sz
    omega
/-- a step left out -/
theorem Few.out {h n z : Nat} {s : List Step} (f : Few h n z s) {i : Nat} (hi : i < s.length) (h2 : 2 ≤ s.length) : Few h n z (s.take i ++ s.drop (i + 1)) := by
  have ln := f.ln
  refine ⟨?_, ?_, fun y hy => ?_, fun y hy => ?_, ?_⟩
  · rw [List.length_append, List.length_take, List.length_drop]
    omega
  · rw [List.length_append, List.length_take, List.length_drop]
    omega
  · rcases List.mem_append.mp hy with e | e
    · exact f.fine y (List.mem_of_mem_take e)
    · exact f.fine y (List.mem_of_mem_drop e)
  · rcases List.mem_append.mp hy with e | e
    · exact f.dp y (List.mem_of_mem_take e)
    · exact f.dp y (List.mem_of_mem_drop e)
  · have a := inner_ap (s.take i) (s.drop i)
    rw [List.take_append_drop] at a
    have b : Step.inner (s.drop (i + 1)) ≤ Step.inner (s.drop i) := by
      rw [List.drop_eq_getElem_cons hi, inner_cons]
      omega
    rw [inner_ap]
    have := f.sz
    omega
theorem Few.weak {h n m z y : Nat} {s : List Step} (f : Few h n z s) (a : n ≤ m) (b : z ≤ y) : Few h m y s := ⟨f.l1, Nat.le_trans f.ln a, f.fine, f.dp, Nat.le_trans f.sz b⟩
end M
namespace CP
open PySem L2 G Y
abbrev sBent : Stmt := S.top 81
theorem PlAll.app {H : Hp} : ∀ {s r : List M.Step} {xs ys : List V}, PlAll H s xs → PlAll H r ys → PlAll H (s ++ r) (xs ++ ys)
  | [], r, xs, ys, a, b => by
    unfold PlAll at a
    subst a
    exact b
  | x :: s, r, xs, ys, a, b => by
    unfold PlAll at a
    obtain ⟨u, us, rfl, h1, h2⟩ := a
    show PlAll H (x :: (s ++ r)) (u :: (us ++ ys))
    unfold PlAll
    exact ⟨u, us ++ ys, rfl, h1, h2.app b⟩
theorem PlAll.take {H : Hp} : ∀ {s : List M.Step} {xs : List V} (i : Nat), PlAll H s xs → PlAll H (s.take i) (xs.take i)
  | s, xs, 0, _ => by
    rw [List.take_zero, List.take_zero]
    unfold PlAll
    rfl
  | [], xs, i + 1, h => by
    unfold PlAll at h
    subst h
    unfold PlAll
    rfl
  | y :: s, xs, i + 1, h => by
    unfold PlAll at h
    obtain ⟨u, us, rfl, h1, h2⟩ := h
    rw [List.take_succ_cons, List.take_succ_cons]
    unfold PlAll
    exact ⟨u, us.take i, rfl, h1, h2.take i⟩
theorem PlAll.drop {H : Hp} : ∀ {s : List M.Step} {xs : List V} (i : Nat), PlAll H s xs → PlAll H (s.drop i) (xs.drop i)
  | s, xs, 0, h => by
    rw [List.drop_zero, List.drop_zero]
    exact h
  | [], xs, i + 1, h => by
    unfold PlAll at h
    subst h
    unfold PlAll
    rfl
  | y :: s, xs, i + 1, h => by
    unfold PlAll at h
    obtain ⟨u, us, rfl, h1, h2⟩ := h
    rw [List.drop_succ_cons, List.drop_succ_cons]
    exact h2.drop i
theorem PlAll.one {H : Hp} {y : M.Step} {x : V} (h : PlStep H y x) : PlAll H [y] [x] := by
  unfold PlAll
  exact ⟨x, [], rfl, h, by unfold PlAll; rfl⟩
section
variable {P : Program} {w : World} {K : PySem.W.Frag} {mg : Str → Option Value} {base : Heap} {C CW : Addr}
def spBent : Sp := fun vs H Q _ => ∃ (p : Addr) (v : V) (wy : M.Way), vs = [.ref p, v] ∧ S.At H p ∧ PlanAt H wy v ∧ M.Sm 1 wy ∧ ∀ st v2 H', Y.Bt p H H' → PlanAt H' (.mk wy.head st) v2 → M.Few wy.head 4 18 st → Q v2 H'
theorem scBt : FnScope ["stream", "plan", "head", "steps", "at", "kind", "step", "size"] ["stream", "plan"] (defScope sBent) := ⟨rfl, rfl, rfl, by decide +kernel, rfl, by decide +kernel, by decide +kernel⟩
theorem tk_len (xs : List V) (i k : Nat) (x : V) (h : xs.length ≤ 100) : (xs.take i ++ [x]).length + (xs.drop k).length ≤ sizeLine ∧ (xs.take i).length + [x].length ≤ sizeLine ∧ (xs.take i).length + (xs.drop k).length ≤ sizeLine := by
  rw [List.length_append, List.length_take, List.length_drop, List.length_singleton]
  exact ⟨Nat.le_trans (show _ ≤ 300 by omega) (by decide), Nat.le_trans (show _ ≤ 300 by omega) (by decide), Nat.le_trans (show _ ≤ 300 by omega) (by decide)⟩
theorem log100 {n : Int} (h1 : 1 ≤ n) (h2 : n ≤ 1000) : n.natAbs.log2 < 9000 := PySem.Flt.log2_lt_of (k := 9000) (by decide) (Nat.lt_of_lt_of_le (by omega : _ < 1001) (Nat.le_trans (by decide : 1001 ≤ 2 ^ 10) (Nat.pow_le_pow_right (by decide) (by decide))))
theorem ok_bent {f : Addr} {fd : FuncData} (F : Fun K "_law_bent_plan" "_law_bent_plan" sBent f fd) (B : Bn mg) (DD : Df P w K mg base 1 "_law_draw" ["stream", "size"] S.spDraw) (DC : Df P w K mg base 2 "_law_choose" ["stream", "items"] (S.spChoose K)) (DS : Df P w K mg base 9 "_law_plan_step" ["stream", "depth", "base", "head"] (spLStep 2)) : FnOk P w K mg base CX0 10 f fd ["stream", "plan"] spBent := by
  obtain ⟨fD, fdD, GD, gD, kD, bD⟩ := DD.ex
  obtain ⟨fC, fdC, GC, gC, kC, bC⟩ := DC.ex
  obtain ⟨fS, fdS, GS, gS, kS, bS⟩ := DS.ex
  refine F.ok scBt (fun vs H Q E h => ?_) (fun cdv A outer s H vs Q E hr h => ?_)
  · obtain ⟨p, v, wy, rfl, _⟩ := h
    rfl
  · obtain ⟨p, v, wy, rfl, hp, hP, sm, kk⟩ := h
    refine ⟨_, pss_cons (ps_asg (pv 1) (pg_tup (by rfl) (pgs_cons (pg_name (i := 2) scBt.nd rfl (Or.inl rfl)) (pgs_cons (pg_name (i := 3) scBt.nd rfl (Or.inl rfl)) pgs_nil))))
      (pss_cons (ps_par (i := 4) (j := 5) (by rfl) scBt.nd rfl rfl (by decide) rfl rfl (pa_cons (pe_call GD (hr.mono (by omega)) rfl gD kD bD .nil pass0 (pa_cons (pv 0) (pa_cons (pe_callB call_len_seq (by rfl) B.len PySem.boot_len (pa_cons (pv 3) pa_nil)) pa_nil))) (pa_cons (pe_call GD (hr.mono (by omega)) rfl gD kD bD .nil pass0 (pa_cons (pv 0) (pa_cons (pe_int) pa_nil))) pa_nil)) (by rfl))
      (pss_cons (ps_set (i := 6) scBt.nd rfl (Or.inl rfl) (pe_ix ix_tup (pv 3) (pv 4) (fun _ _ => rfl)))
      (pss_cons (ps_if (PW.pt (pw_and (pt_cmpR (op_eq) (pv 5) (pe_int) (nomark _)) (pw_and1 (pt_cmpR (op_gt) (pe_callB call_len_seq (by rfl) B.len PySem.boot_len (pa_cons (pv 3) pa_nil)) (pe_int) (nomark _))))) (pss_one (ps_ret (pe_tup (pa_cons (pv 2) (pa_cons (pe_op (op_catA) (pe_slice sl_tupA (pv 3) po_none (po_some (pv 4))) (pe_slice sl_tupA (pv 3) (po_some (pe_op (op_add) (pv 4) (pe_int))) po_none)) pa_nil))))) (pss_nil))
      (pss_cons (ps_if (PW.pt (pw_and (pt_cmpR (op_eq) (pv 5) (pe_int) (nomark _)) (pw_and1 (pt_cmpR (op_lt) (pe_callB call_len_seq (by rfl) B.len PySem.boot_len (pa_cons (pv 3) pa_nil)) (pe_int) (nomark _))))) (pss_one (ps_ret (pe_tup (pa_cons (pv 2) (pa_cons (pe_op (op_catA) (pe_op (op_catA) (pe_slice sl_tupA (pv 3) po_none (po_some (pv 4))) (pe_tup (pa_cons (pv 6) pa_nil))) (pe_slice sl_tupA (pv 3) (po_some (pv 4)) po_none)) pa_nil))))) (pss_nil))
      (pss_cons (ps_if (pt_cmpR (op_eq) (pv 5) (pe_int) (nomark _)) (pss_one (ps_ret (pe_tup (pa_cons (pv 2) (pa_cons (pe_op (op_catA) (pe_op (op_catA) (pe_slice sl_tupA (pv 3) po_none (po_some (pv 4))) (pe_tup (pa_cons (pe_call GS (hr.mono (by omega)) rfl gS kS bS .nil pass0 (pa_cons (pv 0) (pa_cons (pe_int) (pa_cons (pe_int) (pa_cons (pv 2) pa_nil))))) pa_nil))) (pe_slice sl_tupA (pv 3) (po_some (pe_op (op_add) (pv 4) (pe_int))) po_none)) pa_nil))))) (pss_nil))
      (pss_cons (ps_if (pt_cmpR (op_eq) (pe_ix ix_tup (pv 6) (pe_int) (fun _ _ => rfl)) (pe_str) (nomark _)) (pss_cons (ps_set (i := 7) scBt.nd rfl (Or.inl rfl) (pe_callB (call_max2 rfl) (by rfl) B.max (by decide +kernel) (pa_cons (pe_op (op_add) (pv 2) (pe_int)) (pa_cons (pe_callB (call_min2 rfl) (by rfl) B.min (by decide +kernel) (pa_cons (pe_int) (pa_cons (pe_op (op_add) (pe_ix ix_tup (pv 6) (pe_int) (fun _ _ => rfl)) (pe_call GC (hr.mono (by omega)) rfl gC kC bC .nil pass0 (pa_cons (pv 0) (pa_cons (pe_lst (pa_cons (pe_op (op_sub) (pe_int) (pe_int)) (pa_cons (pe_int) (pa_cons (pe_op (op_sub) (pe_ix ix_tup (pv 6) (pe_int) (fun _ _ => rfl)) (pv 2)) pa_nil)))) pa_nil)))) pa_nil))) pa_nil))))
      (pss_one (ps_set (i := 6) scBt.nd rfl (Or.inl rfl) (pe_tup (pa_cons (pe_str) (pa_cons (pv 7) (pa_cons (pe_ix ix_tup (pv 6) (pe_int) (fun _ _ => rfl)) (pa_cons (pe_call GC (hr.mono (by omega)) rfl gC kC bC .nil pass0 (pa_cons (pv 0) (pa_cons (pe_lst (pa_cons (pe_ix ix_tup (pv 6) (pe_int) (fun _ _ => rfl)) (pa_cons (pe_ix ix_tup (pv 6) (pe_int) (fun _ _ => rfl)) (pa_cons (pe_str) (pa_cons (pe_str) pa_nil))))) pa_nil))) pa_nil)))))))) (pss_one (ps_if (pt_cmpR (op_eq) (pe_ix ix_tup (pv 6) (pe_int) (fun _ _ => rfl)) (pe_str) (nomark _)) (pss_one (ps_set (i := 6) scBt.nd rfl (Or.inl rfl) (pe_tup (pa_cons (pe_str) (pa_cons (pe_callB (call_min2 rfl) (by rfl) B.min (by decide +kernel) (pa_cons (pe_op (op_powN) (pe_int) (pe_int)) (pa_cons (pe_op (op_add) (pe_ix ix_tup (pv 6) (pe_int) (fun _ _ => rfl)) (pe_int)) pa_nil))) pa_nil))))) (pss_one (ps_set (i := 6) scBt.nd rfl (Or.inl rfl) (pe_op (op_catA) (pe_slice sl_tupA (pv 6) po_none (po_some (pe_int))) (pe_tup (pa_cons (pe_callB (call_max2 rfl) (by rfl) B.max (by decide +kernel) (pa_cons (pe_int) (pa_cons (pe_op (op_sub) (pe_ix ix_tup (pv 6) (pe_int) (fun _ _ => rfl)) (pe_int)) pa_nil))) (pa_cons (pe_call GC (hr.mono (by omega)) rfl gC kC bC .nil pass0 (pa_cons (pv 0) (pa_cons (pe_lst (pa_cons (pe_ix ix_tup (pv 6) (pe_int) (fun _ _ => rfl)) (pa_cons (pe_str) (pa_cons (pe_str) pa_nil)))) pa_nil))) pa_nil)))))))))
      (pss_one (ps_ret (pe_tup (pa_cons (pv 2) (pa_cons (pe_op (op_catA) (pe_op (op_catA) (pe_slice sl_tupA (pv 3) po_none (po_some (pv 4))) (pe_tup (pa_cons (pv 6) pa_nil))) (pe_slice sl_tupA (pv 3) (po_some (pe_op (op_add) (pv 4) (pe_int))) po_none)) pa_nil))))))))))), ?_⟩
    obtain ⟨few, h1, h2⟩ := M.few_of sm
    obtain ⟨h, st⟩ := wy
    unfold PlanAt at hP
    obtain ⟨t, L, xs, rfl, ht, hL, hA⟩ := hP
    have few : M.Few h 3 9 st := few
    have h1 : 1 ≤ h := h1
    have h2 : h ≤ 40 := h2
    have lx := hA.len
    have l1 := few.l1
    have l3 := few.ln
    refine ⟨_, rfl, t, _, rfl, SqT.of ht, rfl, _, _, rfl, _, _, rfl, rfl, ?_⟩
    try dsimp only
    refine ⟨_, rfl, _, rfl, L, xs, rfl, .inr (SqT.of hL), ?_⟩
    try dsimp only [tNil, List.cons_append, List.nil_append]
    refine draw_at hp (by omega) (log100 (by omega) (by omega)) fun j H1 j0 j1 b1 => ?_
    obtain ⟨i0, rfl⟩ := Int.eq_ofNat_of_zero_le j0
    have hi0 : i0 < xs.length := by omega
    refine draw_vv rfl b1.2 (by decide) (by decide +kernel) fun kd H2 kd0 kd1 b2 => ⟨_, _, rfl, ?_⟩
    replace b2 := b1.trans b2
    have kt := bt_keepT b2 hp
    have hL2 := kt.tup hL
    have hA2 := hA.keep kt
    have p2 := b2.2
    try dsimp only
    have hx0 : xs[i0]? = some xs[i0] := List.getElem?_eq_getElem hi0
    obtain ⟨y, hy, hat⟩ := hA2.get hx0
    refine set_then (i := 6) ⟨_, rfl, _, rfl, L, xs, _, _, rfl, rfl, SqT.of hL2, atI_nat hx0, ?_⟩
    generalize xs[i0] = x at hx0 hat ⊢
    have x100 : xs.length ≤ 100 := by omega
    have fy := few.at hy
    have hi1 : i0 < st.length := by omega
    have pk2 : ∀ {G : Hp}, Same H2 G → Y.Bt p H2 G := fun s => Bt.same s p2
    have rp : ∀ {G : Hp} {sl : List M.Step} {xl : List V} {c z : Addr}, Y.Bt p H G → G c = some (.tup xl) → PlAll G sl xl → G z = none → M.Few h 4 18 sl → Q (.ref z) (upd G z (.tup [.int (h : Int), .ref c])) := fun {G sl xl c z} bG hc hP hz fw => by
      have sz := of_upd (o := .tup [V.int (h : Int), .ref c]) hz
      refine kk _ _ _ (bG.trans (Bt.same sz bG.2)) ?_ fw
      unfold PlanAt
      exact ⟨z, c, _, rfl, upd_same, sz _ _ hc, hP.keep (same_keepT sz)⟩
    -- kind 0: a step left out
    refine if_then (fun σ' G => σ' = [some (.ref p), some (.ref t), some (.int (h : Int)), some (.ref L), some (.int (i0 : Int)), some (.int kd), some x, none] ∧ G = H2) ?r0 ?f0
    case f0 =>
      intro go
      refine ⟨_, rfl, rfl, _, rfl, ite2 (fun c0 => ⟨_, rfl, L, xs, rfl, .inr (SqT.of hL2), _, _, rfl, rfl, _, rfl, ite2 (fun c1 => ?_) fun c1 => go _ _ ⟨rfl, rfl⟩⟩) fun c0 => go _ _ ⟨rfl, rfl⟩⟩
      have c1 : (xs.length : Int) > 1 := of_decide_eq_true c1
      refine ⟨_, rfl, ?_⟩
      dsimp only [tNoPart]
      refine ⟨_, rfl, _, rfl, _, rfl, ?_⟩
      refine WP.sl_any hL2 fun u1 G1 s1 e1 => ?_
      refine ⟨_, rfl, _, rfl, _, _, rfl, rfl, _, rfl, ?_⟩
      dsimp only [tNoPart]
      refine WP.sl_any (s1 _ _ hL2) fun u2 G2 s2 e2 => ?_
      rw [WP.cut_hi] at e1
      rw [show ((i0 : Int) + 1) = ((i0 + 1 : Nat) : Int) from rfl, WP.cut_lo] at e2
      refine WP.catA_own (s2 _ _ e1) e2 (tk_len xs i0 (i0 + 1) x x100).2.2 fun c G3 s3 e3 => ⟨line2.1, fun z hz => ?_⟩
      have s4 := (s1.trans s2).trans s3
      exact rp (b2.trans (pk2 s4)) e3 (((hA2.keep (same_keepT s4)).take i0).app ((hA2.keep (same_keepT s4)).drop (i0 + 1))) hz ((few.out hi1 (by omega)).weak (by decide) (by decide))
    case r0 =>
    rintro σ' G ⟨rfl, rfl⟩
    -- kind 1: a step twice
    refine if_then (fun σ' G2 => σ' = [some (.ref p), some (.ref t), some (.int (h : Int)), some (.ref L), some (.int (i0 : Int)), some (.int kd), some x, none] ∧ G2 = G) ?r1 ?f1
    case f1 =>
      intro go
      refine ⟨_, rfl, rfl, _, rfl, ite2 (fun c0 => ⟨_, rfl, L, xs, rfl, .inr (SqT.of hL2), _, _, rfl, rfl, _, rfl, ite2 (fun c1 => ?_) fun c1 => go _ _ ⟨rfl, rfl⟩⟩) fun c0 => go _ _ ⟨rfl, rfl⟩⟩
      refine ⟨_, rfl, ?_⟩
      dsimp only [tNoPart]
      refine ⟨_, rfl, _, rfl, _, rfl, ?_⟩
      refine WP.sl_any hL2 fun u1 G1 s1 e1 => ⟨_, rfl, line2.2.2.1, fun u hu => ?_⟩
      rw [WP.cut_hi] at e1
      have su := of_upd (o := .tup [x]) hu
      refine WP.catA_own (su _ _ e1) upd_same (tk_len xs i0 i0 x x100).2.1 fun c2 G2 s2 e2 => ?_
      have s12 := (s1.trans su).trans s2
      refine ⟨_, rfl, _, rfl, _, rfl, ?_⟩
      dsimp only [tNoPart]
      refine WP.sl_any (s12 _ _ hL2) fun u3 G3 s3 e3 => ?_
      rw [WP.cut_lo] at e3
      refine WP.catA_own (s3 _ _ e2) e3 (tk_len xs i0 i0 x x100).1 fun c4 G4 s4 e4 => ⟨line2.1, fun z hz => ?_⟩
      have s5 := s12.trans (s3.trans s4)
      have hA5 := hA2.keep (same_keepT s5)
      exact rp (b2.trans (pk2 s5)) e4 (((hA5.take i0).app (PlAll.one (hat.keep (same_keepT s5)))).app (hA5.drop i0)) hz ((few.dup hy).weak (by decide) (by decide))
    case r1 =>
    rintro σ' G2 ⟨rfl, rfl⟩
    -- a new step in its place
    refine if_then (fun σ' G3 => σ' = [some (.ref p), some (.ref t), some (.int (h : Int)), some (.ref L), some (.int (i0 : Int)), some (.int kd), some x, none] ∧ G3 = G2) ?r2 ?f2
    case f2 =>
      intro go
      refine ⟨_, rfl, rfl, _, rfl, ite2 (fun c0 => ?_) fun c0 => go _ _ ⟨rfl, rfl⟩⟩
      refine ⟨_, rfl, ?_⟩
      dsimp only [tNoPart]
      refine ⟨_, rfl, _, rfl, _, rfl, ?_⟩
      refine WP.sl_any hL2 fun u1 G1 s1 e1 => ?_
      rw [WP.cut_hi] at e1
      refine ⟨_, rfl, _, rfl, p, 0, 0, h, rfl, sameAt s1 p2, by decide, by decide, by decide, h1, h2, fun y1 x1 G3 b3 pl1 sm1 => ⟨line2.2.2.1, fun u hu => ?_⟩⟩
      have k3 := bt_keepT b3 (sameAt s1 p2)
      have su := of_upd (o := .tup [x1]) hu
      refine WP.catA_own (su _ _ (k3.tup e1)) upd_same (tk_len xs i0 i0 x1 x100).2.1 fun c2 G4 s2 e2 => ?_
      have hL5 := s2 _ _ (su _ _ (k3.tup (s1 _ _ hL2)))
      have hA5 := ((hA2.keep (same_keepT s1)).keep k3).keep (same_keepT (su.trans s2))
      refine ⟨_, rfl, _, rfl, _, _, rfl, rfl, _, rfl, ?_⟩
      dsimp only [tNoPart]
      refine WP.sl_any hL5 fun u3 G5 s3 e3 => ?_
      rw [show ((i0 : Int) + 1) = ((i0 + 1 : Nat) : Int) from rfl, WP.cut_lo] at e3
      refine WP.catA_own (s3 _ _ e2) e3 (tk_len xs i0 (i0 + 1) x1 x100).1 fun c4 G6 s4 e4 => ⟨line2.1, fun z hz => ?_⟩
      have s34 := s3.trans s4
      have hA6 := hA5.keep (same_keepT s34)
      have bb : Y.Bt p G2 G6 := (pk2 s1).trans (b3.trans (Bt.same ((su.trans s2).trans s34) b3.2))
      exact rp (b2.trans bb) e4 (((hA6.take i0).app (PlAll.one (pl1.keep (same_keepT ((su.trans s2).trans s34))))).app (hA6.drop (i0 + 1))) hz ((few.put hi1 sm1.1 (by have := sm1.2.1; omega) (by have := sm1.2.2; exact Nat.le_trans this (by decide))).weak (by decide) (by decide))
    case r2 =>
    rintro σ' G3 ⟨rfl, rfl⟩
    refine if_then (fun σ' G => Y.Bt p G3 G ∧ ∃ x1 y1 q7, σ' = [some (.ref p), some (.ref t), some (.int (h : Int)), some (.ref L), some (.int (i0 : Int)), some (.int kd), some x1, q7] ∧ PlStep G y1 x1 ∧ M.Step.fine h y1 ∧ M.Step.dep y1 ≤ 1 ∧ M.isz y1 ≤ 9) ?r3 ?f3
    case r3 =>
      rintro σ' G ⟨bG, x1, y1, q7, rfl, pl1, f1, d1, z1⟩
      have k3 := bt_keepT bG p2
      have hL3 := k3.tup hL2
      have hA3 := hA2.keep k3
      refine ⟨_, rfl, ?_⟩
      dsimp only [tNoPart]
      refine ⟨_, rfl, _, rfl, _, rfl, ?_⟩
      refine WP.sl_any hL3 fun u1 G1 s1 e1 => ⟨_, rfl, line2.2.2.1, fun u hu => ?_⟩
      rw [WP.cut_hi] at e1
      have su := of_upd (o := .tup [x1]) hu
      refine WP.catA_own (su _ _ e1) upd_same (tk_len xs i0 i0 x1 x100).2.1 fun c2 G4 s2 e2 => ?_
      have s12 := (s1.trans su).trans s2
      refine ⟨_, rfl, _, rfl, _, _, rfl, rfl, _, rfl, ?_⟩
      dsimp only [tNoPart]
      refine WP.sl_any (s12 _ _ hL3) fun u3 G5 s3 e3 => ?_
      rw [show ((i0 : Int) + 1) = ((i0 + 1 : Nat) : Int) from rfl, WP.cut_lo] at e3
      refine WP.catA_own (s3 _ _ e2) e3 (tk_len xs i0 (i0 + 1) x1 x100).1 fun c4 G6 s4 e4 => ⟨line2.1, fun z hz => ?_⟩
      have s5 := s12.trans (s3.trans s4)
      have hA6 := hA3.keep (same_keepT s5)
      exact rp (b2.trans (bG.trans (Bt.same s5 bG.2))) e4 (((hA6.take i0).app (PlAll.one (pl1.keep (same_keepT s5)))).app (hA6.drop (i0 + 1))) hz ((few.put hi1 f1 d1 z1).weak (by decide) (by decide))
    case f3 =>
      intro go
      have z0 : ∀ {y0 : V} {ys : List V}, atI (y0 :: ys) (0 : Int) = some y0 := fun {y0 ys} => by exact atI_nat (xs := y0 :: ys) (j := 0) rfl
      have z1 : ∀ {y0 y1 : V} {ys : List V}, atI (y0 :: y1 :: ys) (1 : Int) = some y1 := fun {y0 y1 ys} => by exact atI_nat (xs := y0 :: y1 :: ys) (j := 1) rfl
      have z2 : ∀ {y0 y1 y2 : V} {ys : List V}, atI (y0 :: y1 :: y2 :: ys) (2 : Int) = some y2 := fun {y0 y1 y2 ys} => by exact atI_nat (xs := y0 :: y1 :: y2 :: ys) (j := 2) rfl
      have z3 : ∀ {y0 y1 y2 y3 : V} {ys : List V}, atI (y0 :: y1 :: y2 :: y3 :: ys) (3 : Int) = some y3 := fun {y0 y1 y2 y3 ys} => by exact atI_nat (xs := y0 :: y1 :: y2 :: y3 :: ys) (j := 3) rfl
      cases y with
      | road size ts lw =>
        unfold PlStep at hat
        have fy1 := fy.1
        unfold M.Step.fine at fy1
        obtain ⟨tx, rfl, htx⟩ := hat
        have hq := SqT.of (K := K) htx
        refine ⟨_, rfl, tx, _, _, _, rfl, rfl, hq, z0, rfl, _, rfl, iteP rfl ?_⟩
        refine set_then (i := 7) ⟨_, rfl, _, _, rfl, rfl, _, rfl, tx, _, _, _, rfl, rfl, hq, z1, ?_⟩
        refine choose_of (xs := [.int (0 - 1), .int 1, .int ((size : Int) - (h : Int))]) rfl p2 (by show 1 ≤ 3; decide) (by show 3 ≤ 1000; decide) (fun Q2 q => ⟨_, _, rfl, rfl, _, rfl, tx, _, _, _, rfl, rfl, hq, z1, _, rfl, _, _, rfl, rfl, q⟩) fun cv G4 hc b4 => ?_
        obtain ⟨c, rfl⟩ : ∃ c : Int, cv = .int c := by
          simp only [List.mem_cons, List.mem_nil_iff, or_false] at hc
          rcases hc with e | e | e
          · exact ⟨_, e⟩
          · exact ⟨_, e⟩
          · exact ⟨_, e⟩
        clear hc
        refine ⟨_, _, rfl, rfl, _, _, rfl, _, _, rfl, ?_⟩
        obtain ⟨sz, e, l1', l2'⟩ : ∃ sz : Nat, (if (if (size : Int) + c < 1000 then (size : Int) + c else 1000) > (h : Int) + 1 then (if (size : Int) + c < 1000 then (size : Int) + c else 1000) else (h : Int) + 1) = (sz : Int) ∧ h < sz ∧ sz ≤ 1000 := by
          have m1 : (if (size : Int) + c < 1000 then (size : Int) + c else 1000) ≤ 1000 := by split <;> omega
          generalize (if (size : Int) + c < 1000 then (size : Int) + c else 1000) = m at m1 ⊢
          by_cases z : m > (h : Int) + 1
          · rw [if_pos z]
            exact ⟨m.toNat, by omega, by omega, by omega⟩
          · rw [if_neg z]
            exact ⟨h + 1, by omega, by omega, by omega⟩
        rw [e]
        have k4 := bt_keepT b4 p2
        have hq4 := SqT.of (K := K) (k4.tup htx)
        refine ⟨_, rfl, _, rfl, tx, _, _, _, rfl, rfl, hq4, z2, ?_⟩
        refine choose_of (xs := [.str (WP.lwS lw), .str (WP.lwS lw), .str "cut", .str "drop"]) rfl b4.2 (by show 1 ≤ 4; decide) (by show 4 ≤ 1000; decide) (fun Q2 q => ⟨_, rfl, tx, _, _, _, rfl, rfl, hq4, z3, _, rfl, tx, _, _, _, rfl, rfl, hq4, z3, q⟩) fun wv G5 hw b5 => ⟨(by show 4 ≤ sizeLine; decide), fun u hu => ?_⟩
        obtain ⟨lw2, rfl⟩ : ∃ lw2, wv = .str (WP.lwS lw2) := by
          simp only [List.mem_cons, List.mem_nil_iff, or_false] at hw
          rcases hw with e | e | e | e
          · exact ⟨lw, e⟩
          · exact ⟨lw, e⟩
          · exact ⟨.cut, e⟩
          · exact ⟨.drop, e⟩
        have b6 := (b4.trans b5).trans (Bt.new (.tup [.str "road", .int (sz : Int), .str (WP.sdS ts), .str (WP.lwS lw2)]) b5.2 hu)
        refine go _ _ ⟨b6, .ref u, .road sz ts lw2, _, rfl, ?_, ?_, by show 0 ≤ 1; decide, by show 0 ≤ 9; decide⟩
        · unfold PlStep
          exact ⟨u, rfl, upd_same⟩
        · unfold M.Step.fine
          exact ⟨l1', l2'⟩
      | join most =>
        unfold PlStep at hat
        have fy1 := fy.1
        unfold M.Step.fine at fy1
        obtain ⟨tx, rfl, htx⟩ := hat
        have hq := SqT.of (K := K) htx
        refine ⟨_, rfl, tx, _, _, _, rfl, rfl, hq, z0, rfl, _, rfl, iteN (fun z => absurd (V.str.inj z) (by decide +kernel)) ?_⟩
        refine ⟨_, rfl, tx, _, _, _, rfl, rfl, hq, z0, rfl, _, rfl, iteP rfl ?_⟩
        refine ⟨10, 12, rfl, rfl, ⟨by decide, by decide +kernel⟩, _, rfl, tx, _, _, _, rfl, rfl, hq, z1, _, _, rfl, rfl, _, _, rfl, line2.1, fun u hu => ?_⟩
        obtain ⟨m2, e, l1', l2'⟩ : ∃ m2 : Nat, (if (most : Int) + 1 < (10 : Int) ^ (12 : Int).toNat then (most : Int) + 1 else (10 : Int) ^ (12 : Int).toNat) = (m2 : Int) ∧ 1 ≤ m2 ∧ m2 ≤ 1000000000000 := by
          rw [show (10 : Int) ^ (12 : Int).toNat = 1000000000000 by decide +kernel]
          split
          · exact ⟨most + 1, by omega, by omega, by omega⟩
          · exact ⟨1000000000000, by omega, by omega, by omega⟩
        rw [e]
        have b6 := Bt.new (.tup [.str "join", .int (m2 : Int)]) p2 hu
        refine go _ _ ⟨b6, .ref u, .join m2, _, rfl, ?_, ?_, by show 0 ≤ 1; decide, by show 0 ≤ 9; decide⟩
        · unfold PlStep
          exact ⟨u, rfl, upd_same⟩
        · unfold M.Step.fine
          exact ⟨l1', l2'⟩
      | tunnel wi most tw =>
        unfold PlStep at hat
        have fy1 := fy.1
        unfold M.Step.fine at fy1
        obtain ⟨tx, vi, rfl, htx, pli⟩ := hat
        have hq := SqT.of (K := K) htx
        refine ⟨_, rfl, tx, _, _, _, rfl, rfl, hq, z0, rfl, _, rfl, iteN (fun z => absurd (V.str.inj z) (by decide +kernel)) ?_⟩
        refine ⟨_, rfl, tx, _, _, _, rfl, rfl, hq, z0, rfl, _, rfl, iteN (fun z => absurd (V.str.inj z) (by decide +kernel)) ?_⟩
        refine ⟨_, rfl, ?_⟩
        dsimp only [tNoPart]
        refine ⟨_, rfl, ?_⟩
        refine WP.sl_any htx fun u1 G1 s1 e1 => ?_
        have e1 : G1 u1 = some (.tup [.str "tunnel", vi]) := e1
        have hq1 := SqT.of (K := K) (s1 _ _ htx)
        refine ⟨_, rfl, tx, _, _, _, rfl, rfl, hq1, z2, _, _, rfl, rfl, _, _, rfl, ?_⟩
        refine choose_of (xs := [.str (WP.twS tw), .str "turn", .str "lose"]) rfl (sameAt s1 p2) (by show 1 ≤ 3; decide) (by show 3 ≤ 1000; decide) (fun Q2 q => ⟨_, rfl, tx, _, _, _, rfl, rfl, hq1, z3, q⟩) fun wv G5 hw b5 => ⟨line2.1, fun u hu => ?_⟩
        obtain ⟨tw2, rfl⟩ : ∃ tw2, wv = .str (WP.twS tw2) := by
          simp only [List.mem_cons, List.mem_nil_iff, or_false] at hw
          rcases hw with e | e | e
          · exact ⟨tw, e⟩
          · exact ⟨.turn, e⟩
          · exact ⟨.lose, e⟩
        obtain ⟨m2, e, l1', l2'⟩ : ∃ m2 : Nat, (if (most : Int) - 1 > 1 then (most : Int) - 1 else 1) = (m2 : Int) ∧ 1 ≤ m2 ∧ m2 ≤ 1000000000000 := by
          split
          · exact ⟨most - 1, by omega, by omega, by omega⟩
          · exact ⟨1, by omega, by omega, by omega⟩
        rw [e]
        have k5 := bt_keepT b5 (sameAt s1 p2)
        have su := of_upd (o := .tup [.int (m2 : Int), .str (WP.twS tw2)]) hu
        refine WP.catA_own (su _ _ (k5.tup e1)) upd_same (by show 4 ≤ sizeLine; decide) fun c G6 s6 e6 => ?_
        have b6 := (pk2 s1).trans (b5.trans (Bt.same (su.trans s6) b5.2))
        refine go _ _ ⟨b6, .ref c, .tunnel wi m2 tw2, _, rfl, ?_, ?_, ?_, ?_⟩
        · unfold PlStep
          exact ⟨c, vi, rfl, e6, ((pli.keep (same_keepT s1)).keep k5).keep (same_keepT (su.trans s6))⟩
        · unfold M.Step.fine
          exact ⟨fy1.1, l1', l2'⟩
        · exact fy.2.1
        · exact fy.2.2
end
end CP

end
section
set_option autoImplicit false
set_option Elab.async false
set_option linter.all false
set_option maxRecDepth 100000
set_option maxHeartbeats 4000000
/-! ## == of tuples with either answer, own objects among their items -/
namespace EB
open PySem PySem.Spec PyProof.Rows L2
open AutoSeq1 (wpAny_loadPart')
section
variable {prog : Program} {w : World} {A : Around} {R : Result → Shared → Prop}
theorem eq_run {a b : Addr} {ia ib : Array Value} {ka kb : Nat} {da db : Option Addr} {sa sb : Array (Option Value)} (J : Nat → Shared → Prop)
    (step : ∀ k (p : k < ia.size) (q : k < ib.size) t, J k t → wpAny (model prog w) A.in1 (eqBool ia[k] ib[k]) (fun r t' => (r = true ∧ J (k + 1) t') ∨ (r = false ∧ R (.ok (.ret (.bool false))) t')) (fun e t' => R (.error e) t') t)
    (stop : ∀ t, J (min ia.size ib.size) t → R (.ok (.ret (.bool (ia.size == ib.size)))) t) {t : Shared} (ga : t.heap.get? a = some { cls := .type "tuple", dict := da, data := .seq ia ka, slots := sa })
    (gb : t.heap.get? b = some { cls := .type "tuple", dict := db, data := .seq ib kb, slots := sb }) (go : J 0 t) :
    wpAny (model prog w) A.in1 (Builtin.«tuple.__eq__» ⟨[.ref a, .ref b], []⟩) (GQ.FinOf prog w A R) (fun e t' => R (.error e) t') t := by
  have sub := AutoSeq1.sub_tuple_tuple
  have zl : (ia.toList.zip ib.toList).length = min ia.size ib.size := by simp
  have go' := go
  obtain ⟨t1, t2, t3, t4, t5⟩ := t
  wp_walk using wpAny_loadPart' ga, wpAny_loadPart' gb, wpAny_forIn_list _ (fun more z t' => z.1 = none ∧ ∃ k, more = (ia.toList.zip ib.toList).drop k ∧ k ≤ min ia.size ib.size ∧ J k t') _
  case turn =>
    rintro ⟨u, v⟩ more z t' ⟨hz, k, em, hk, hJ⟩
    have kl : k < (ia.toList.zip ib.toList).length := Nat.lt_of_not_le fun g => by
      rw [List.drop_of_length_le g] at em
      cases em
    have k0 : k < min ia.size ib.size := zl ▸ kl
    have k1 : k < ia.size := Nat.lt_of_lt_of_le k0 (Nat.min_le_left _ _)
    have k2 : k < ib.size := Nat.lt_of_lt_of_le k0 (Nat.min_le_right _ _)
    rw [List.drop_eq_getElem_cons kl] at em
    injection em with e1 e2
    have eu : u = ia[k] := by simpa using congrArg Prod.fst e1
    have ev : v = ib[k] := by simpa using congrArg Prod.snd e1
    subst eu ev
    refine wpAny_bind (wpAny_mono (step k k1 k2 t' hJ) (fun r t2 q2 => ?_) fun _ _ x => x)
    rcases q2 with ⟨er, q2⟩ | ⟨er, q2⟩
    · subst er
      wp_walk
      exact ⟨rfl, k + 1, e2, k0, q2⟩
    · subst er
      wp_walk
      exact q2
  case fin =>
    rintro ⟨z1, z2⟩ t' ⟨hz, k, em, hk, hJ⟩
    simp only at hz
    subst hz
    have kg : min ia.size ib.size ≤ k := Nat.le_of_not_lt fun g => by
      rw [List.drop_eq_getElem_cons (zl.symm ▸ g)] at em
      cases em
    have ek : k = min ia.size ib.size := Nat.le_antisymm hk kg
    have done := stop t' (ek ▸ hJ)
    wp_walk
    simpa [Builtin.Tuple.tupleCompareSizes] using done
  case h =>
    exact ⟨rfl, 0, rfl, Nat.zero_le _, go'⟩
end
section
variable {prog : Program} {w : World} {A : Around} {E : Value → Shared → Prop} {t : Shared}
theorem rc_eq {a b : Addr} {ia ib : Array Value} {Q : Value → Shared → Prop} (hu : A.units < cLine) (J : Nat → Shared → Prop) (ta : t.heap.IsTuple a ia) (tb : t.heap.IsTuple b ib)
    (step : ∀ k (p : k < ia.size) (q : k < ib.size) t, J k t → wpAny (model prog w) A.in1 (eqBool ia[k] ib[k]) (fun r t' => (r = true ∧ J (k + 1) t') ∨ (r = false ∧ Q (.bool false) t')) E t)
    (stop : ∀ t, J (min ia.size ib.size) t → Q (.bool (ia.size == ib.size)) t) (go : J 0 t) : wpAny (model prog w) A (richCompare .Eq (.ref a) (.ref b)) Q E t := by
  obtain ⟨⟨ca, da, pa, sa⟩, ga, qa, na, va⟩ := id ta
  obtain ⟨⟨cb, db, pb, sb⟩, gb, qb, nb, vb⟩ := id tb
  simp only at qa va qb vb
  subst qa va qb vb
  refine wpAny_richCompare_same_room (op := .Eq) ⟨_, ga, rfl⟩ ⟨_, gb, rfl⟩ F.slot_tuple_eq (GQ.call_here F.slot_tuple_eq ⟨_, ga, rfl⟩ F.entry_tuple_eq (F.args_tuple_eq_2 _ _) ?_) hu
  refine eq_run (R := wants (fun v t' => v ≠ .notImplemented ∧ Q v t') E) J (fun k p q t j => wpAny_mono (step k p q t j) (fun r t' h => h.imp id fun h => ⟨h.1, (fun x => nomatch x), h.2⟩) fun _ _ x => x) (fun t' q => ⟨(fun x => nomatch x), stop t' q⟩) ga gb go
end
/-- how two values compare, by the abstract heap -/
abbrev Cmp := V → V → Bool → Hp → Prop
def MonB (D : Cmp) : Prop := ∀ x y c H H', Ext H H' → D x y c H → D x y c H'
def EqB (X : Cx) (n : Nat) (D : Cmp) : Prop :=
  ∀ (A : Around) (pins : List (Addr × Obj)) (s : Shared) (σ : L2.St) (H : Hp) (x y : V) (u v : Value) (c : Bool), Sub X n A → Inv X pins σ H s → RelV x u → RelV y v → D x y c H →
    wpAny (model X.prog X.w) A (eqBool u v) (fun r s' => r = c ∧ ∃ H', Inv X pins σ H' s' ∧ Ext H H') X.xe s
def RcB (X : Cx) (n : Nat) (D : Cmp) : Prop :=
  ∀ (A : Around) (pins : List (Addr × Obj)) (s : Shared) (σ : L2.St) (H : Hp) (x y : V) (u v : Value) (c : Bool), Sub X n A → Inv X pins σ H s → RelV x u → RelV y v → D x y c H →
    wpAny (model X.prog X.w) A (richCompare .Eq u v) (fun r s' => r = .bool c ∧ ∃ H', Inv X pins σ H' s' ∧ Ext H H') X.xe s
def BFlat : Cmp := fun x y c _ => flatV x = true ∧ flatV y = true ∧ eqV x y = c
structure PrB (D : Cmp) (xs ys : List V) (cs : List Bool) (H : Hp) : Prop where
  len : cs.length = min xs.length ys.length
  at' : ∀ (i : Nat) x y c, (∀ j, j < i → cs[j]? = some true) → xs[i]? = some x → ys[i]? = some y → cs[i]? = some c → D x y c H
def BTup (K : PySem.W.Frag) (D : Cmp) : Cmp := fun x y c H => ∃ a b xs ys cs, x = .ref a ∧ y = .ref b ∧ SqT K H a xs ∧ SqT K H b ys ∧ PrB D xs ys cs H ∧ c = (cs.all id && decide (xs.length = ys.length))
/-- the same object is equal to itself -/
def BSm (D : Cmp) : Cmp := fun x y c H => D x y c H ∧ (x = y → c = true)
def BCh (C : Addr) : Cmp := fun x y c H => ∃ a b l m, x = .ref a ∧ y = .ref b ∧ CP.ChAt C H l a ∧ CP.ChAt C H m b ∧ c = decide (l = m)
section
variable {X : Cx} {n m : Nat} {D D' : Cmp}
theorem mon_flat : MonB BFlat := fun _ _ _ _ _ _ d => d
theorem mon_sm (h : MonB D) : MonB (BSm D) := fun x y c H H' e d => ⟨h x y c H H' e d.1, d.2⟩
theorem mon_tup {K : PySem.W.Frag} (h : MonB D) : MonB (BTup K D) := fun x y c H H' e d => by
  obtain ⟨a, b, xs, ys, cs, hx, hy, h1, h2, p, hc⟩ := d
  exact ⟨a, b, xs, ys, cs, hx, hy, h1.ext e, h2.ext e, ⟨p.len, fun i x y c g0 g1 g2 g3 => h x y c H H' e (p.at' i x y c g0 g1 g2 g3)⟩, hc⟩
theorem mon_ch {C : Addr} : MonB (BCh C) := fun x y c H H' e d => by
  obtain ⟨a, b, l, m, hx, hy, h1, h2, hc⟩ := d
  exact ⟨a, b, l, m, hx, hy, h1.mono e, h2.mono e, hc⟩
theorem mon_or (h : MonB D) (h' : MonB D') : MonB (fun x y c H => D x y c H ∨ D' x y c H) := fun x y c H H' e d => d.elim (fun d => .inl (h x y c H H' e d)) fun d => .inr (h' x y c H H' e d)
theorem eqB_flat : EqB X 0 BFlat := by
  intro A pins s σ H x y u v c sb I rx ry d
  obtain ⟨fx, fy, e⟩ := d
  have q := eqAt_V (A := A) (s := s) rx ry fx fy
  rw [e] at q
  exact q X.prog X.w X.xe _ ⟨rfl, H, I, Ext.rfl'⟩
theorem EqB.or (h : EqB X n D) (h' : EqB X n D') : EqB X n (fun x y c H => D x y c H ∨ D' x y c H) := fun A pins s σ H x y u v c sb I rx ry d => by
  rcases d with d | d
  · exact h A pins s σ H x y u v c sb I rx ry d
  · exact h' A pins s σ H x y u v c sb I rx ry d
theorem EqB.mono (h : EqB X n D) (hn : n ≤ m) : EqB X m D := fun A pins s σ H x y u v c sb => h A pins s σ H x y u v c (sb.mono hn)
theorem rcB_tup (hD : MonB D) (h : EqB X n D) : RcB X (n + 1) (BTup X.K D) := by
  intro A pins s σ H x y u v c sb I rx ry d
  obtain ⟨a, b, xs, ys, cs, rfl, rfl, ha, hb, p, hc⟩ := d
  cases rx
  cases ry
  obtain ⟨ia, ra, ea, -⟩ := I.tuple ha
  obtain ⟨ib, rb, eb, -⟩ := I.tuple hb
  have za : ia.toArray.size = xs.length := by rw [List.size_toArray, ra.length]
  have zb : ib.toArray.size = ys.length := by rw [List.size_toArray, rb.length]
  refine rc_eq sb.room.units0 (fun k t => (∀ j, j < k → cs[j]? = some true) ∧ LoopI X pins σ H t) ea eb (fun k k1 k2 t j => ?_) (fun t j => ?_) ⟨fun j hj => by omega, H, I, Ext.rfl'⟩
  · obtain ⟨j0, H1, I1, x1⟩ := j
    have q1 : k < xs.length := by omega
    have q2 : k < ys.length := by omega
    have q3 : k < cs.length := by rw [p.len]; omega
    obtain ⟨u, hu, ru⟩ := ra.get (List.getElem?_eq_getElem q1)
    obtain ⟨v, hv, rv⟩ := rb.get (List.getElem?_eq_getElem q2)
    have g1 : ia[k]? = some ia.toArray[k] := by simp
    have g2 : ib[k]? = some ib.toArray[k] := by simp
    rw [g1] at hu
    rw [g2] at hv
    rw [Option.some.inj hu, Option.some.inj hv]
    refine wpAny_mono (h A.in1 pins t σ H1 _ _ u v cs[k] sb.in1 I1 ru rv (hD _ _ _ _ _ x1 (p.at' k _ _ _ j0 (List.getElem?_eq_getElem q1) (List.getElem?_eq_getElem q2) (List.getElem?_eq_getElem q3)))) (fun r t2 q => ?_) fun _ _ x => x
    obtain ⟨hr, H2, I2, x2⟩ := q
    cases ec : cs[k] with
    | true =>
      refine .inl ⟨hr.trans ec, fun j hj => ?_, H2, I2, x1.trans x2⟩
      by_cases z : j = k
      · rw [z, List.getElem?_eq_getElem q3, ec]
      · exact j0 j (by omega)
    | false =>
      refine .inr ⟨hr.trans ec, ?_, H2, I2, x1.trans x2⟩
      have : cs.all id = false := by
        rw [List.all_eq_false]
        exact ⟨cs[k], List.getElem_mem q3, by rw [ec]; decide⟩
      rw [hc, this]
      rfl
  · obtain ⟨j0, l⟩ := j
    refine ⟨?_, l⟩
    have : cs.all id = true := by
      rw [List.all_eq_true]
      intro z hz
      obtain ⟨i, hi, rfl⟩ := List.getElem_of_mem hz
      have := j0 i (by rw [p.len] at hi; omega)
      rw [List.getElem?_eq_getElem hi] at this
      exact Option.some.inj this
    rw [hc, this, Bool.true_and, za, zb]
    congr 1
theorem RcB.eqB (h : RcB X n D) (hr : ∀ x y c H, D x y c H → ∃ a b, x = .ref a ∧ y = .ref b) : EqB X n (BSm D) := by
  intro A pins s σ H x y u v c sb I rx ry d
  obtain ⟨d, hs⟩ := d
  obtain ⟨a, b, rfl, rfl⟩ := hr _ _ _ _ d
  cases rx
  cases ry
  by_cases hab : a = b
  · subst hab
    rw [hs rfl]
    exact SeqAt.EqAt.same (A := A) (s := s) (.ref a) X.prog X.w X.xe _ ⟨rfl, H, I, Ext.rfl'⟩
  · refine GQ.eqBool_refG hab (wpAny_mono (h A pins s σ H (.ref a) (.ref b) _ _ c sb I rfl rfl d) (fun r s' q => ?_) fun _ _ x => x)
    exact ⟨c, q.1, rfl, q.2⟩
theorem eqB_tup (hD : MonB D) (h : EqB X n D) : EqB X (n + 1) (BSm (BTup X.K D)) := (rcB_tup hD h).eqB fun _ _ _ _ d => let ⟨a, b, _, _, _, hx, hy, _⟩ := d; ⟨a, b, hx, hy⟩
def spEqC (C : Addr) : Sp := fun vs H Q _ => ∃ (a b : Addr) (l m : List Nat), vs = [.ref a, .ref b] ∧ CP.ChAt C H l a ∧ CP.ChAt C H m b ∧ ∀ H', Ext H H' → Q (.bl (decide (l = m))) H'
theorem rcB_ch {C f : Addr} {fd : FuncData} (F : FnOk X.prog X.w X.K X.mg X.base CX0 n f fd ["self", "other"] (spEqC C)) (O : WO.Own X.K C f "__eq__") (hb : Binds X.K fd ["self", "other"] []) : RcB X n (BCh C) := by
  intro A pins s σ H x y u v c sb I rx ry d
  obtain ⟨a, b, l, m, rfl, rfl, h1, h2, hc⟩ := d
  cases rx
  cases ry
  obtain ⟨dx, t1, u1, g1, _⟩ := id h1
  obtain ⟨dy, t2, u2, g2, _⟩ := id h2
  obtain ⟨_, J, _⟩ := ins_get I.hok g1
  obtain ⟨_, J', _⟩ := ins_get I.hok g2
  obtain ⟨od, J, _⟩ := J.look
  obtain ⟨ow, J', _⟩ := J'.look
  obtain ⟨m0, hF⟩ := I.fr
  refine PySem.W.cmp_K (op := .Eq) (tb := .ref C) sb.room.units0 hF I.ok.mod.kin J J'.type (by simp [PySem.W.notFirst]) O.at' O.fn (WO.run_own F (A := A) (xs := [.ref a, .ref b]) (Z := fun v H1 => v = .bl c ∧ Ext H H1) (E := E0) sb hb pass0 I (.cons rfl (.cons rfl .nil)) ⟨a, b, l, m, rfl, h1, h2, fun H' e => ⟨by rw [hc], e⟩⟩ fun z u H1 s1 I1 rz q => ?_)
  obtain ⟨rfl, q⟩ := q
  cases rz
  exact ⟨rfl, H1, I1, q⟩
/-- x == y as an expression -/
def rEqB (D : Cmp) : R2 := fun x y H Q => ∃ c, D x y c H ∧ ∀ H', Ext H H' → Q (.bl c) H'
theorem op_eqB (h : RcB X n D) (hr : Room n X.A) : OpR X (compareOp .Eq) (rEqB D) := by
  intro pins s σ H x y v u Q I rx ry hq
  obtain ⟨c, d, q⟩ := hq
  show wpAny (model X.prog X.w) X.A (richCompare .Eq v u) (EP X pins σ Q) X.xe s
  refine wpAny_mono (h X.A pins s σ H x y v u c ⟨hr, rfl⟩ I rx ry d) (fun r t z => ?_) fun _ _ x => x
  obtain ⟨e, H1, I1, x1⟩ := z
  subst e
  exact ⟨.bl c, H1, I1, rfl, q H1 x1⟩
end
end EB

end
section
set_option autoImplicit false
set_option Elab.async false
set_option linter.all false
set_option maxRecDepth 100000
set_option maxHeartbeats 4000000
/-! ## enumerate(zip(one list, another)), its pairs unpacked in the target -/
namespace EZ
open PySem L2 PyProof.Rows
abbrev ZAt (h : Heap) (z TI TO : Addr) (f0 : Value) (f : Bool) : Prop := h.get? z = some { cls := .type "zip", dict := none, data := .fields #[f0, .bool f, .bool false, .ref TI, .ref TO], slots := #[] }
/-- a zip between two turns: nothing has been handed out, or some pair has, which may be gone -/
def Zs (h : Heap) (z TI TO : Addr) : Prop := ZAt h z TI TO .none false ∨ ∃ (T : Addr) (f : Bool), ZAt h z TI TO (rawInt T) f
theorem Zs.at {h h' : Heap} {z TI TO : Addr} (q : Zs h z TI TO) (k : ∀ o, h.get? z = some o → h'.get? z = some o) : Zs h' z TI TO := by
  rcases q with q | ⟨T, f, q⟩
  · exact .inl (k _ q)
  · exact .inr ⟨T, f, k _ q⟩
theorem Zs.obj {h : Heap} {z TI TO : Addr} (q : Zs h z TI TO) : ∃ o, h.get? z = some o ∧ o.cls = .type "zip" ∧ ∀ v, o.data ≠ .cell v := by
  rcases q with q | ⟨T, f, q⟩
  · exact ⟨_, q, rfl, fun v r => nomatch r⟩
  · exact ⟨_, q, rfl, fun v r => nomatch r⟩
section
variable {prog : Program} {w : World} {A : Around} {E : Value → Shared → Prop} {s : Shared}
theorem gone {a : Addr} {Q : Option Obj → Shared → Prop} (ho : s.heap.get? a = none) (h : Q none s) : wpAny (model prog w) A (loadIfAlive a) Q E s := by
  have e : Q (s.heap.get? a) s := by rw [ho]; exact h
  exact fun _ _ _ => e
theorem free_gone {z TI TO T : Addr} {f : Bool} {Q : Bool → Shared → Prop} (hz : ZAt s.heap z TI TO (rawInt T) f) (hT : s.heap.get? T = none) (h : Q true s) : wpAny (model prog w) A (Builtin.SmallTypes.ownedTupleIsFree (.ref z)) Q E s := by
  unfold Builtin.SmallTypes.ownedTupleIsFree
  refine wpAny_bind (wpAny_field hz rfl (x := rawInt T) rfl ?_)
  show wpAny _ _ (loadIfAlive ((T : Int).toNat) >>= _) _ _ _
  rw [Int.toNat_natCast]
  refine wpAny_bind (gone hT ?_)
  simp only [Option.isNone_none, if_true]
  exact wpAny_pure h
/-- the next pair, when the last one is gone -/
theorem item_gone {z TI TO i1 i2 l1 l2 T : Addr} {f : Bool} {k1 k2 : Nat} {xs ys : Array Value} {x y a b : Value} {Q : Value → Shared → Prop} (D : ZipApart z TI TO i1 i2 l1 l2)
    (hz : ZAt s.heap z TI TO (rawInt T) f) (hT : s.heap.get? T = none) (hTI : IsPair s.heap TI (.ref i1) (.ref i2)) (hTO : IsPair s.heap TO a b)
    (h1 : s.heap.IsListIter i1 l1 k1) (h2 : s.heap.IsListIter i2 l2 k2) (hl1 : s.heap.IsList l1 xs) (hl2 : s.heap.IsList l2 ys) (hx : xs[k1]? = some x) (hy : ys[k2]? = some y)
    (hQ : ∀ u, ZAt u z TI TO (rawInt s.heap.objs.size) false → IsPair u TO x y → u.IsListIter i1 l1 (k1 + 1) → u.IsListIter i2 l2 (k2 + 1) → IsPair u s.heap.objs.size x y → u.objs.size = s.heap.objs.size + 1 →
      (∀ c o, c ≠ z → c ≠ TO → c ≠ i1 → c ≠ i2 → s.heap.get? c = some o → u.get? c = some o) → Q (.ref s.heap.objs.size) { s with heap := u }) :
    wpAny (model prog w) A (Builtin.«zip.__next__» ⟨[.ref z], []⟩) (fun fin s' => ∃ v, fin = .done (.ret v) ∧ Q v s') E s := by
  show wpAny _ _ (field (.ref z) 2 >>= _) _ _ _
  refine wpAny_bind (wpAny_field hz rfl (x := .bool false) rfl ?_)
  show wpAny _ _ (field (.ref z) 3 >>= _) _ _ _
  refine wpAny_bind (wpAny_field hz rfl (x := .ref TI) rfl (wpAny_bind (wpAny_seqItems hTI rfl ?_)))
  show wpAny _ _ (Builtin.SmallTypes.ownedTupleIsFree (.ref z) >>= _) _ _ _
  refine wpAny_bind (free_gone hz hT ?_)
  simp only [if_true]
  refine wpAny_bind (wpAny_rule (wpAny_bind (wpAny_field hz rfl (x := .ref TO) rfl (wpAny_bind (wpAny_setField_rec hz (by simp) fun u1 z1 s1 => wpAny_bind ?_)))))
  simp only [List.zipIdx_cons, List.zipIdx_nil, List.forIn_cons, List.forIn_nil]
  have k1' : ∀ c o, c ≠ z → s.heap.get? c = some o → u1.get? c = some o := fun c o q e => s1.extBut _ _ q e
  refine wpAny_bind (wpAny_bind (wpAny_onRaise ?_))
  show wpAny _ _ (Builtin.SmallTypes.nextOf (.ref i1) >>= _) _ _ _
  refine wpAny_bind (wpAny_nextOf_list_item (h1.at fun o e => k1' _ o D.i1z e) (hl1.at fun o e => k1' _ o D.l1z e) hx fun u2 j1 s2 => wpAny_pure ?_)
  replace s2 : Heap.SameBut i1 u1 u2 := s2
  have k2' : ∀ c o, c ≠ z → c ≠ i1 → s.heap.get? c = some o → u2.get? c = some o := fun c o q r e => s2.extBut _ _ r (k1' c o q e)
  have t2 : IsPair u2 TO a b := k2' _ _ D.TOz D.TOi1 hTO
  refine wpAny_bind (wpAny_seqItems t2 rfl (wpAny_bind (wpAny_updateSeq_pair t2 fun u3 t3 s3 => wpAny_bind (wpAny_letGo (wpAny_pure ?_)))))
  replace t3 : IsPair u3 TO x b := t3
  replace s3 : Heap.SameBut TO u2 u3 := s3
  have k3' : ∀ c o, c ≠ z → c ≠ i1 → c ≠ TO → s.heap.get? c = some o → u3.get? c = some o := fun c o q r t e => s3.extBut _ _ t (k2' c o q r e)
  refine wpAny_bind (wpAny_bind (wpAny_onRaise ?_))
  show wpAny _ _ (Builtin.SmallTypes.nextOf (.ref i2) >>= _) _ _ _
  refine wpAny_bind (wpAny_nextOf_list_item (h2.at fun o e => k3' _ o D.i2z D.i12.symm D.TOi2.symm e) (hl2.at fun o e => k3' _ o D.l2z D.l2i1 D.l2TO e) hy fun u4 j2 s4 => wpAny_pure ?_)
  replace s4 : Heap.SameBut i2 u3 u4 := s4
  have t4 : IsPair u4 TO x b := s4.extBut _ _ D.TOi2 t3
  refine wpAny_bind (wpAny_seqItems t4 rfl (wpAny_bind (wpAny_updateSeq_pair t4 fun u5 t5 s5 => wpAny_bind (wpAny_letGo (wpAny_pure (wpAny_pure ?_))))))
  replace t5 : IsPair u5 TO x y := t5
  replace s5 : Heap.SameBut TO u4 u5 := s5
  refine wpAny_bind (wpAny_seqItems t5 rfl (wpAny_bind (wpAny_newTuple ?_)))
  have hsz : u5.objs.size = s.heap.objs.size := by rw [s5.1, s4.1, s3.1, s2.1, s1.1]
  have z5 : ZAt u5 z TI TO .ellipsis f := s5.extBut _ _ D.TOz.symm (s4.extBut _ _ D.i2z.symm (s3.extBut _ _ D.TOz.symm (s2.extBut _ _ D.i1z.symm z1)))
  have k5 : ∀ c o, c ≠ z → c ≠ TO → c ≠ i1 → c ≠ i2 → s.heap.get? c = some o → u5.get? c = some o := fun c o q r t v e => s5.extBut _ _ r (s4.extBut _ _ v (k3' c o q t r e))
  have j15 : u5.IsListIter i1 l1 (k1 + 1) := j1.at fun o e => s5.extBut _ _ D.TOi1.symm (s4.extBut _ _ D.i12 (s3.extBut _ _ D.TOi1.symm e))
  have j25 : u5.IsListIter i2 l2 (k2 + 1) := j2.at fun o e => s5.extBut _ _ D.TOi2.symm e
  have lz : z < u5.objs.size := Heap.lt_size z5
  show wpAny _ _ (Builtin.SmallTypes.ownedTupleHandOut (.ref z) (.ref u5.objs.size) >>= _) _ _ _
  refine wpAny_bind ?_
  unfold Builtin.SmallTypes.ownedTupleHandOut
  have z6 : ZAt (u5.push { cls := .type "tuple", data := .seq #[x, y] }) z TI TO .ellipsis f := Heap.get?_push_of_some _ z5
  refine wpAny_bind (wpAny_setField_rec z6 (by simp) fun u7 z7 s7 => ?_)
  replace z7 : ZAt u7 z TI TO (rawInt u5.objs.size) f := z7
  refine wpAny_setField_rec z7 (by simp) fun u8 z8 s8 => ?_
  replace z8 : ZAt u8 z TI TO (rawInt u5.objs.size) false := z8
  have up : ∀ c o, c ≠ z → u5.get? c = some o → u8.get? c = some o := fun c o q e => s8.extBut _ _ q (s7.extBut _ _ q (Heap.get?_push_of_some _ e))
  have t8 : IsPair u8 u5.objs.size x y := s8.extBut _ _ (Nat.ne_of_gt lz) (s7.extBut _ _ (Nat.ne_of_gt lz) (Heap.get?_push_size _ rfl))
  have n8 : u8.objs.size = u5.objs.size + 1 := by rw [s8.1, s7.1, Heap.size_push]
  rw [hsz] at z8 t8 n8
  refine wpAny_pure ⟨_, rfl, ?_⟩
  show Q (.ref u5.objs.size) _
  rw [hsz]
  exact hQ u8 z8 (up _ _ D.TOz t5) (j15.at fun o e => up _ o D.i1z e) (j25.at fun o e => up _ o D.i2z e) t8 n8 fun c o q r t v e => up c o q (k5 c o q r t v e)
/-- the end, when the last pair is gone -/
theorem end_gone {z TI TO i1 i2 l1 l2 T : Addr} {f : Bool} {k1 k2 : Nat} {xs ys : Array Value} {a b : Value} {Q : Fin → Shared → Prop} (hh : A.handled = none) (D : ZipApart z TI TO i1 i2 l1 l2)
    (hz : ZAt s.heap z TI TO (rawInt T) f) (hT : s.heap.get? T = none) (hTI : IsPair s.heap TI (.ref i1) (.ref i2)) (hTO : IsPair s.heap TO a b)
    (h1 : s.heap.IsListIter i1 l1 k1) (h2 : s.heap.IsListIter i2 l2 k2) (hl1 : s.heap.IsList l1 xs) (hl2 : s.heap.IsList l2 ys) (he : xs[k1]? = none ∨ ys[k2]? = none)
    (hE : ∀ u e, (∀ c o, c ≠ z → c ≠ TO → c ≠ i1 → c ≠ i2 → s.heap.get? c = some o → u.get? c = some o) → (∃ o, u.get? e = some o ∧ o.cls = .type "StopIteration") → E (.ref e) { s with heap := u }) :
    wpAny (model prog w) A (Builtin.«zip.__next__» ⟨[.ref z], []⟩) Q E s := by
  show wpAny _ _ (field (.ref z) 2 >>= _) _ _ _
  refine wpAny_bind (wpAny_field hz rfl (x := .bool false) rfl ?_)
  show wpAny _ _ (field (.ref z) 3 >>= _) _ _ _
  refine wpAny_bind (wpAny_field hz rfl (x := .ref TI) rfl (wpAny_bind (wpAny_seqItems hTI rfl ?_)))
  show wpAny _ _ (Builtin.SmallTypes.ownedTupleIsFree (.ref z) >>= _) _ _ _
  refine wpAny_bind (free_gone hz hT ?_)
  simp only [if_true]
  refine wpAny_bind (wpAny_rule (wpAny_bind (wpAny_field hz rfl (x := .ref TO) rfl (wpAny_bind (wpAny_setField_rec hz (by simp) fun u1 z1 s1 => wpAny_bind ?_)))))
  replace z1 : ZAt u1 z TI TO .ellipsis f := z1
  simp only [List.zipIdx_cons, List.zipIdx_nil, List.forIn_cons, List.forIn_nil]
  have k1' : ∀ c o, c ≠ z → s.heap.get? c = some o → u1.get? c = some o := fun c o q e => s1.extBut _ _ q e
  refine wpAny_bind (wpAny_bind (wpAny_onRaise ?_))
  show wpAny _ _ (Builtin.SmallTypes.nextOf (.ref i1) >>= _) _ _ _
  cases hx : xs[k1]? with
  | none =>
    refine wpAny_bind (wpAny_nextOf_list_end hh (h1.at fun o e => k1' _ o D.i1z e) (hl1.at fun o e => k1' _ o D.l1z e) hx fun u2 e s2 he => ?_)
    obtain ⟨oe, ge, ce⟩ := he
    have z2 : ZAt u2 z TI TO .ellipsis f := s2 _ _ D.i1z.symm z1
    have ez : e ≠ z := fun q => by subst q; rw [z2] at ge; cases ge; simp at ce
    exact wpAny_setField_rec z2 (by simp) fun u3 _ s3 => hE u3 e (fun c o q _ t _ g => s3.extBut _ _ q (s2 _ _ t (k1' c o q g))) ⟨oe, s3.extBut _ _ ez ge, ce⟩
  | some x =>
    have hy : ys[k2]? = none := by
      rcases he with q | q
      · rw [hx] at q; cases q
      · exact q
    refine wpAny_bind (wpAny_nextOf_list_item (h1.at fun o e => k1' _ o D.i1z e) (hl1.at fun o e => k1' _ o D.l1z e) hx fun u2 j1 s2 => wpAny_pure ?_)
    replace s2 : Heap.SameBut i1 u1 u2 := s2
    have k2' : ∀ c o, c ≠ z → c ≠ i1 → s.heap.get? c = some o → u2.get? c = some o := fun c o q r e => s2.extBut _ _ r (k1' c o q e)
    have t2 : IsPair u2 TO a b := k2' _ _ D.TOz D.TOi1 hTO
    refine wpAny_bind (wpAny_seqItems t2 rfl (wpAny_bind (wpAny_updateSeq_pair t2 fun u3 t3 s3 => wpAny_bind (wpAny_letGo (wpAny_pure ?_)))))
    replace s3 : Heap.SameBut TO u2 u3 := s3
    have k3' : ∀ c o, c ≠ z → c ≠ i1 → c ≠ TO → s.heap.get? c = some o → u3.get? c = some o := fun c o q r t e => s3.extBut _ _ t (k2' c o q r e)
    refine wpAny_bind (wpAny_bind (wpAny_onRaise ?_))
    show wpAny _ _ (Builtin.SmallTypes.nextOf (.ref i2) >>= _) _ _ _
    refine wpAny_bind (wpAny_nextOf_list_end hh (h2.at fun o e => k3' _ o D.i2z D.i12.symm D.TOi2.symm e) (hl2.at fun o e => k3' _ o D.l2z D.l2i1 D.l2TO e) hy fun u4 e s4 he => ?_)
    obtain ⟨oe, ge, ce⟩ := he
    have z4 : ZAt u4 z TI TO .ellipsis f := s4 _ _ D.i2z.symm (s3.extBut _ _ D.TOz.symm (s2.extBut _ _ D.i1z.symm z1))
    have ez : e ≠ z := fun q => by subst q; rw [z4] at ge; cases ge; simp at ce
    exact wpAny_setField_rec z4 (by simp) fun u5 _ s5 => hE u5 e (fun c o q r t v g => s5.extBut _ _ q (s4 _ _ v (k3' c o q t r g))) ⟨oe, s5.extBut _ _ ez ge, ce⟩
/-- the next pair, whatever became of the last one -/
theorem nx {z TI TO i1 i2 l1 l2 : Addr} {k1 k2 : Nat} {xs ys : Array Value} {x y a b : Value} {Q : Value → Shared → Prop} (D : ZipApart z TI TO i1 i2 l1 l2)
    (hz : Zs s.heap z TI TO) (hTI : IsPair s.heap TI (.ref i1) (.ref i2)) (hTO : IsPair s.heap TO a b)
    (h1 : s.heap.IsListIter i1 l1 k1) (h2 : s.heap.IsListIter i2 l2 k2) (hl1 : s.heap.IsList l1 xs) (hl2 : s.heap.IsList l2 ys) (hx : xs[k1]? = some x) (hy : ys[k2]? = some y)
    (hQ : ∀ u, Zs u z TI TO → (∃ a b, IsPair u TO a b) → u.IsListIter i1 l1 (k1 + 1) → u.IsListIter i2 l2 (k2 + 1) → IsPair u s.heap.objs.size x y → u.objs.size = s.heap.objs.size + 1 →
      (∀ c o, c ≠ z → c ≠ TO → c ≠ i1 → c ≠ i2 → s.heap.get? c = some o → u.get? c = some o) → Q (.ref s.heap.objs.size) { s with heap := u }) :
    wpAny (model prog w) A (Builtin.SmallTypes.nextOf (.ref z)) Q E s := by
  obtain ⟨oz, gz, cz, _⟩ := hz.obj
  have hTy : s.TypeIs (.ref z) "zip" := ⟨oz, gz, cz⟩
  unfold Builtin.SmallTypes.nextOf
  refine wpAny_bind (wpAny_callSpecial?_slot (name := Str.ofString "__next__") hTy F.slot_zip_next (wpAny_call_entry F.slot_zip_next hTy F.entry_zip_next ?_ (F.args_zip_next_1 _)))
  rcases hz with q | ⟨T, f, q⟩
  · exact zip_next_item D q hTI hTO h1 h2 hl1 hl2 hx hy fun u a1 a2 a3 a4 a5 a6 a7 => wpAny_pure (hQ u (.inr ⟨_, _, a1⟩) ⟨_, _, a2⟩ a3 a4 a5 a6 a7)
  · cases hT : s.heap.get? T with
    | some oT => exact zip_next_item_held D q hT hTI h1 h2 hl1 hl2 hx hy fun u a1 a3 a4 a5 a6 a7 => wpAny_pure (hQ u (.inr ⟨_, _, a1⟩) ⟨a, b, a7 _ _ D.TOz D.TOi1 D.TOi2 hTO⟩ a3 a4 a5 a6 fun c o q1 _ q3 q4 e => a7 c o q1 q3 q4 e)
    | none => exact item_gone D q hT hTI hTO h1 h2 hl1 hl2 hx hy fun u a1 a2 a3 a4 a5 a6 a7 => wpAny_pure (hQ u (.inr ⟨_, _, a1⟩) ⟨_, _, a2⟩ a3 a4 a5 a6 a7)
theorem nx_end {z TI TO i1 i2 l1 l2 : Addr} {k1 k2 : Nat} {xs ys : Array Value} {a b : Value} {Q : Value → Shared → Prop} (hh : A.handled = none) (D : ZipApart z TI TO i1 i2 l1 l2)
    (hz : Zs s.heap z TI TO) (hTI : IsPair s.heap TI (.ref i1) (.ref i2)) (hTO : IsPair s.heap TO a b)
    (h1 : s.heap.IsListIter i1 l1 k1) (h2 : s.heap.IsListIter i2 l2 k2) (hl1 : s.heap.IsList l1 xs) (hl2 : s.heap.IsList l2 ys) (he : xs[k1]? = none ∨ ys[k2]? = none)
    (hE : ∀ u e, (∀ c o, c ≠ z → c ≠ TO → c ≠ i1 → c ≠ i2 → s.heap.get? c = some o → u.get? c = some o) → (∃ o, u.get? e = some o ∧ o.cls = .type "StopIteration") → E (.ref e) { s with heap := u }) :
    wpAny (model prog w) A (Builtin.SmallTypes.nextOf (.ref z)) Q E s := by
  obtain ⟨oz, gz, cz, _⟩ := hz.obj
  have hTy : s.TypeIs (.ref z) "zip" := ⟨oz, gz, cz⟩
  unfold Builtin.SmallTypes.nextOf
  refine wpAny_bind (wpAny_callSpecial?_slot (name := Str.ofString "__next__") hTy F.slot_zip_next (wpAny_call_entry F.slot_zip_next hTy F.entry_zip_next ?_ (F.args_zip_next_1 _)))
  rcases hz with q | ⟨T, f, q⟩
  · exact zip_next_end hh D q hTI hTO h1 h2 hl1 hl2 he hE
  · cases hT : s.heap.get? T with
    | some oT => exact zip_next_end_held hh D q hT hTI h1 h2 hl1 hl2 he fun u e k g => hE u e (fun c o q1 _ q3 q4 y => k c o q1 q3 q4 y) g
    | none => exact end_gone hh D q hT hTI hTO h1 h2 hl1 hl2 he hE
/-- the next pair of an enumerate over what makes an object of its own -/
theorem en_nx {e it : Addr} {i : Int} {old x : Value} {G : Heap → Prop} {Q : Value → Shared → Prop} (he : IsEnum s.heap e it i old)
    (hn : ∀ (P : Value → Shared → Prop), (∀ u, IsEnum u e it i old → G u → P x { s with heap := u }) → wpAny (model prog w) A (Builtin.SmallTypes.nextOf (.ref it)) P E s)
    (hQ : ∀ u u', G u → IsEnumOut u' e it (i + 1) x u.objs.size → u'.get? u.objs.size = some { cls := .type "tuple", data := .seq #[.int i s.toks, x] } → u'.objs.size = u.objs.size + 1 →
      (∀ b o, b ≠ e → u.get? b = some o → u'.get? b = some o) → Q (.ref u.objs.size) { s with heap := u', toks := s.toks + 1 }) :
    wpAny (model prog w) A (Builtin.«enumerate.__next__» ⟨[.ref e], []⟩) (fun fin s' => ∃ v, fin = .done (.ret v) ∧ Q v s') E s := by
  show wpAny _ _ (field (.ref e) 2 >>= _) _ _ _
  refine wpAny_bind (wpAny_field he rfl (x := .ref it) rfl (wpAny_bind (hn _ fun u e1 gu => ?_)))
  show wpAny _ _ (field (.ref e) 3 >>= _) _ _ _
  refine wpAny_bind (wpAny_field e1 rfl (x := rawInt i) rfl ?_)
  show wpAny _ _ (field (.ref e) 4 >>= _) _ _ _
  refine wpAny_bind (wpAny_field e1 rfl (x := .none) rfl ?_)
  show wpAny _ _ (mkInt i >>= _) _ _ _
  refine wpAny_bind (wpAny_mkInt ?_)
  show wpAny _ _ (setField (.ref e) 3 (rawInt (i + 1)) >>= _) _ _ _
  refine wpAny_bind (wpAny_setField_rec (s := { s with heap := u, toks := s.toks + 1 }) e1 (by simp) fun u2 e2 s2 => ?_)
  replace s2 : Heap.SameBut e u u2 := s2
  replace e2 : IsEnum u2 e it (i + 1) old := e2
  show wpAny _ _ (setField (.ref e) 4 .none >>= _) _ _ _
  refine wpAny_bind (wpAny_setField_rec (s := { s with heap := u2, toks := s.toks + 1 }) e2 (by simp) fun u3 e3 s3 => ?_)
  replace s3 : Heap.SameBut e u2 u3 := s3
  replace e3 : IsEnum u3 e it (i + 1) old := e3
  show wpAny _ _ (newTuple [.int i s.toks, x] >>= _) _ _ _
  refine wpAny_bind (wpAny_newTuple ?_)
  have n3 : u3.objs.size = u.objs.size := by rw [s3.1, s2.1]
  have le : e < u3.objs.size := Heap.lt_size e3
  show wpAny _ _ (Builtin.SmallTypes.ownedTupleIsFree (.ref e) >>= _) _ _ { s with heap := u3.push { cls := .type "tuple", data := .seq #[.int i s.toks, x] }, toks := s.toks + 1 }
  have e4 : IsEnum (u3.push { cls := .type "tuple", data := .seq #[.int i s.toks, x] }) e it (i + 1) old := Heap.get?_push_of_some _ e3
  have g4 : (u3.push { cls := .type "tuple", data := .seq #[.int i s.toks, x] }).get? u.objs.size = some { cls := .type "tuple", data := .seq #[.int i s.toks, x] } := by rw [← n3]; exact Heap.get?_push_size _ rfl
  have n4 : (u3.push { cls := .type "tuple", data := .seq #[.int i s.toks, x] }).objs.size = u.objs.size + 1 := by rw [Heap.size_push, n3]
  have k4 : ∀ b o, b ≠ e → u.get? b = some o → (u3.push { cls := .type "tuple", data := .seq #[.int i s.toks, x] }).get? b = some o := fun b o q r => Heap.get?_push_of_some _ (s3.extBut b o q (s2.extBut b o q r))
  rw [n3] at le ⊢
  generalize u3.push { cls := .type "tuple", data := .seq #[.int i s.toks, x] } = u4 at e4 g4 n4 k4 ⊢
  refine wpAny_bind ?_
  unfold Builtin.SmallTypes.ownedTupleIsFree
  refine wpAny_bind (wpAny_field e4 rfl (x := .none) rfl (wpAny_pure ?_))
  simp only [if_true]
  refine wpAny_bind (wpAny_rule (wpAny_bind (wpAny_field e4 rfl (x := old) rfl (wpAny_bind (wpAny_setField_rec e4 (by simp) fun u5 e5 s5 => ?_)))))
  replace s5 : Heap.SameBut e u4 u5 := s5
  replace e5 : IsEnum u5 e it (i + 1) x := e5
  show wpAny _ _ (Builtin.SmallTypes.ownedTupleHandOut (.ref e) (.ref u.objs.size) >>= _) _ _ _
  refine wpAny_bind ?_
  unfold Builtin.SmallTypes.ownedTupleHandOut
  refine wpAny_bind (wpAny_setField_rec e5 (by simp) fun u6 e6 s6 => ?_)
  replace s6 : Heap.SameBut e u5 u6 := s6
  replace e6 : IsEnumOut u6 e it (i + 1) x u.objs.size := e6
  refine wpAny_setField_rec e6 (by simp) fun u7 e7 s7 => ?_
  replace s7 : Heap.SameBut e u6 u7 := s7
  replace e7 : IsEnumOut u7 e it (i + 1) x u.objs.size := e7
  refine wpAny_bind (wpAny_letGo (wpAny_pure ⟨_, rfl, hQ u u7 gu e7 ?_ ?_ fun b o q r => s7.extBut b o q (s6.extBut b o q (s5.extBut b o q (k4 b o q r)))⟩))
  · exact s7.extBut _ _ (Nat.ne_of_gt le) (s6.extBut _ _ (Nat.ne_of_gt le) (s5.extBut _ _ (Nat.ne_of_gt le) g4))
  · rw [s7.1, s6.1, s5.1, n4]
end
end EZ

end
section
set_option autoImplicit false
set_option Elab.async false
set_option linter.all false
set_option maxRecDepth 100000
set_option maxHeartbeats 4000000
namespace EZ
open PySem L2 PyProof.Rows
/-- the lists at a and b side by side, each pair in a new pair behind its place -/
def Iez (K : PySem.W.Frag) (a b : Addr) : It where
  go := fun i H => ∃ (xs ys : List V) (x y : V), SqL K H a xs ∧ SqL K H b ys ∧ xs[i]? = some x ∧ ys[i]? = some y
  yld := fun i H v H' => ∃ T U x y, v = .ref U ∧ H T = none ∧ H U = none ∧ U ≠ T ∧ H' = upd (upd H T (.tup [x, y])) U (.tup [.int (i : Nat), .ref T]) ∧ (∀ xs, SqL K H a xs → xs[i]? = some x) ∧ ∀ ys, SqL K H b ys → ys[i]? = some y
  stop := fun i H => ∃ xs ys : List V, SqL K H a xs ∧ SqL K H b ys ∧ (xs.length ≤ i ∨ ys.length ≤ i)
structure Apart (e z TI TO i1 i2 : Addr) : Prop where
  z : e ≠ z
  TI : e ≠ TI
  TO : e ≠ TO
  i1 : e ≠ i1
  i2 : e ≠ i2
theorem apart5 {m n : Nat} (h : m = n + 5) : Apart m (n + 4) (n + 2) (n + 3) n (n + 1) := by
  subst h
  exact ⟨Nat.ne_of_gt (Nat.lt_succ_self _), Nat.ne_of_gt (by show n + 2 < n + 5; omega), Nat.ne_of_gt (by show n + 3 < n + 5; omega), Nat.ne_of_gt (by show n < n + 5; omega), Nat.ne_of_gt (by show n + 1 < n + 5; omega)⟩
theorem above5 {m n c : Nat} (h : m = n + 5) (q : c = m ∨ c = n + 4 ∨ c = n + 2 ∨ c = n + 3 ∨ c = n ∨ c = n + 1) : n ≤ c := by omega
def Tn (e z TI TO i1 i2 a b : Addr) (i : Nat) (h : Heap) : Prop := (∃ x, IsEnum h e z ((i : Nat) : Int) x) ∧ Zs h z TI TO ∧ IsPair h TI (.ref i1) (.ref i2) ∧ (∃ x y, IsPair h TO x y) ∧ h.IsListIter i1 a i ∧ h.IsListIter i2 b i
theorem six {e z TI TO i1 i2 c : Addr} (h : c ∈ [e, z, TI, TO, i1, i2]) : c = e ∨ c = z ∨ c = TI ∨ c = TO ∨ c = i1 ∨ c = i2 := by simpa using h
theorem Tn.there {e z TI TO i1 i2 a b c : Addr} {i : Nat} {h : Heap} (q : Tn e z TI TO i1 i2 a b i h) (hc : c ∈ [e, z, TI, TO, i1, i2]) : ∃ o, h.get? c = some o ∧ ∀ v, o.data ≠ .cell v := by
  obtain ⟨⟨x, q1⟩, q2, q3, ⟨x2, y2, q4⟩, ⟨o5, q5, _, d5⟩, ⟨o6, q6, _, d6⟩⟩ := q
  rcases six hc with r | r | r | r | r | r <;> subst r
  · exact ⟨_, q1, fun v r => nomatch r⟩
  · obtain ⟨o, g, _, n⟩ := q2.obj
    exact ⟨o, g, n⟩
  · exact ⟨_, q3, fun v r => nomatch r⟩
  · exact ⟨_, q4, fun v r => nomatch r⟩
  · exact ⟨o5, q5, fun v r => by rw [d5] at r; cases r⟩
  · exact ⟨o6, q6, fun v r => by rw [d6] at r; cases r⟩
theorem turn {P : Program} {w : World} {K : PySem.W.Frag} {elts : List Expr} {kk : Nat} {tpos : Pos} {e z TI TO i1 i2 a b : Addr} (D : ZipApart z TI TO i1 i2 a b) (B : Apart e z TI TO i1 i2) :
    Turn P w K (.Tuple elts kk tpos) (Iez K a b) [e, z, TI, TO, i1, i2] e (Tn e z TI TO i1 i2 a b) where
  mem := List.mem_cons_self
  obj := fun i h st c hc => st.there hc
  keep := fun i h h' st k => by
    obtain ⟨⟨x, q1⟩, q2, q3, ⟨x2, y2, q4⟩, q5, q6⟩ := st
    exact ⟨⟨x, k e (by simp) _ q1⟩, q2.at fun o => k z (by simp) o, k TI (by simp) _ q3, ⟨x2, y2, k TO (by simp) _ q4⟩, q5.at fun o g => k i1 (by simp) o g, q6.at fun o g => k i2 (by simp) o g⟩
  item := by
    intro X hP hw hK hc i pins s σ H E I hf st hg
    subst hP hw hK
    have lt : ∀ c ∈ [e, z, TI, TO, i1, i2], c < s.heap.objs.size := fun c m => by
      obtain ⟨o, g, _⟩ := st.there m
      exact Heap.lt_size g
    obtain ⟨⟨old, he⟩, hz, hTI, ⟨x0, y0, hTO⟩, h1, h2⟩ := st
    obtain ⟨xs, ys, x, y, hqx, hqy, hx, hy⟩ := hg
    obtain ⟨its, rv, p, _⟩ := I.list hqx
    obtain ⟨its2, rv2, p2, _⟩ := I.list hqy
    obtain ⟨u, hu, ru⟩ := rv.get hx
    obtain ⟨u2, hu2, ru2⟩ := rv2.get hy
    have hTe : s.TypeIs (.ref e) "enumerate" := ⟨_, he, rfl⟩
    unfold pyNext
    refine wpAny_bind (wpAny_attempt (wpAny_callSpecial?_slot (name := Str.ofString "__next__") hTe F.slot_enumerate_next (wpAny_call_entry F.slot_enumerate_next hTe F.entry_enumerate_next ?_ (F.args_enumerate_next_1 _))))
    refine en_nx (x := .ref s.heap.objs.size) (G := fun h => Zs h z TI TO ∧ (∃ a b, IsPair h TO a b) ∧ h.IsListIter i1 a (i + 1) ∧ h.IsListIter i2 b (i + 1) ∧ IsPair h s.heap.objs.size u u2 ∧ h.objs.size = s.heap.objs.size + 1 ∧ ∀ c o, c ≠ z → c ≠ TO → c ≠ i1 → c ≠ i2 → s.heap.get? c = some o → h.get? c = some o) he
      (fun P hP => nx D hz hTI hTO h1 h2 p.isList p2.isList (x := u) (y := u2) (by simpa using hu) (by simpa using hu2) fun g a1 a2 a3 a4 a5 a6 a7 => hP g (a7 _ _ B.z B.TO B.i1 B.i2 he) ⟨a1, a2, a3, a4, a5, a6, a7⟩) ?_
    rintro g g' ⟨a1, a2, a3, a4, a5, a6, a7⟩ eo ht hsz hk
    refine wpAny_pure ?_
    refine ⟨_, rfl, wpAny_letOwnedTupleGo_enum (s := { s with heap := g', toks := s.toks + 1 }) eo fun h2' he2 sb => ?_⟩
    have new1 : ObjOk X.prog X.w (upd H s.heap.objs.size (.tup [x, y])) g s.heap.objs.size (.tup [x, y]) :=
      ⟨by show 2 ≤ sizeLine; decide, [u, u2], .cons ru (.cons ru2 .nil), ⟨_, a5, rfl, _, rfl⟩⟩
    have I1 : Inv X pins σ (upd H s.heap.objs.size (.tup [x, y])) { s with heap := g } :=
      I.turnedNew (t' := s.toks) (ch := [e, z, TI, TO, i1, i2]) (fun c o hb q => a7 c o (fun r => hb (by simp [r])) (fun r => hb (by simp [r])) (fun r => hb (by simp [r])) (fun r => hb (by simp [r])) q) hf (Nat.le_refl _) new1
    have hf1 : ∀ c ∈ [e, z, TI, TO, i1, i2], FpOk X pins (upd H s.heap.objs.size (.tup [x, y])) c := fun c m => by
      obtain ⟨f0, fr⟩ := hf c m
      exact ⟨by rw [upd_ne (Nat.ne_of_lt (lt c m))]; exact f0, fr⟩
    have le : e < g.objs.size := by rw [a6]; exact Nat.lt_succ_of_lt (lt e List.mem_cons_self)
    have hT2 : h2'.get? g.objs.size = some { cls := .type "tuple", data := .seq #[.int i s.toks, .ref s.heap.objs.size] } := (sb.2 _ (Nat.ne_of_gt le)).trans ht
    have new2 : ObjOk X.prog X.w (upd (upd H s.heap.objs.size (.tup [x, y])) g.objs.size (.tup [.int (i : Nat), .ref s.heap.objs.size])) h2' g.objs.size (.tup [.int (i : Nat), .ref s.heap.objs.size]) :=
      ⟨by show 2 ≤ sizeLine; decide, [.int i s.toks, .ref s.heap.objs.size], .cons ⟨_, rfl⟩ (.cons rfl .nil), ⟨_, hT2, rfl, _, rfl⟩⟩
    have I2 : Inv X pins σ (upd (upd H s.heap.objs.size (.tup [x, y])) g.objs.size (.tup [.int (i : Nat), .ref s.heap.objs.size])) { s with heap := h2', toks := s.toks + 1 } :=
      I1.turnedNew (t' := s.toks + 1) (ch := [e, z, TI, TO, i1, i2]) (fun c o hb q => (sb.2 c (fun r => hb (by simp [r]))).trans (hk c o (fun r => hb (by simp [r])) q)) hf1 (Nat.le_refl _) new2
    have up : ∀ c o, c ≠ e → g.get? c = some o → h2'.get? c = some o := fun c o q r => (sb.2 c q).trans (hk c o q r)
    obtain ⟨aa, bb, a2⟩ := a2
    refine ⟨.ref g.objs.size, _, I2, rfl, ⟨s.heap.objs.size, g.objs.size, x, y, rfl, I.hok.fresh (Nat.le_refl _), I.hok.fresh (by rw [a6]; exact Nat.le_succ _), by rw [a6]; exact Nat.succ_ne_self _, rfl, fun l hl => by rw [I.list_inj hl hqx]; exact hx, fun l hl => by rw [I.list_inj hl hqy]; exact hy⟩, ⟨⟨.ref s.heap.objs.size, ?_⟩, a1.at fun o q => up _ o B.z.symm q, up _ _ B.TI.symm (a7 _ _ D.TIz D.TITO D.TIi1 D.TIi2 hTI), ⟨aa, bb, up _ _ B.TO.symm a2⟩, a3.at fun o q => up _ o B.i1.symm q, a4.at fun o q => up _ o B.i2.symm q⟩, fun c m => ?_⟩
    · rw [show ((i + 1 : Nat) : Int) = (i : Int) + 1 by omega]
      exact he2
    · have l := lt c m
      rw [upd_ne (Nat.ne_of_lt (by rw [a6]; exact Nat.lt_succ_of_lt l)), upd_ne (Nat.ne_of_lt l)]
      exact (hf c m).1
  done := by
    intro X hP hw hK hc i pins s σ H E I hf st hg
    subst hP hw hK
    obtain ⟨⟨old, he⟩, hz, hTI, ⟨x0, y0, hTO⟩, h1, h2⟩ := st
    obtain ⟨xs, ys, hqx, hqy, hend⟩ := hg
    obtain ⟨its, rv, p, _⟩ := I.list hqx
    obtain ⟨its2, rv2, p2, _⟩ := I.list hqy
    have l1 := rv.length
    have l2 := rv2.length
    have hE : its.toArray[i]? = none ∨ its2.toArray[i]? = none := by
      rcases hend with q | q
      · exact .inl (by simp; omega)
      · exact .inr (by simp; omega)
    have hTe : s.TypeIs (.ref e) "enumerate" := ⟨_, he, rfl⟩
    unfold pyNext
    refine wpAny_bind (wpAny_attempt (wpAny_callSpecial?_slot (name := Str.ofString "__next__") hTe F.slot_enumerate_next (wpAny_call_entry F.slot_enumerate_next hTe F.entry_enumerate_next ?_ (F.args_enumerate_next_1 _))))
    refine (show wpAny _ _ (field (.ref e) 2 >>= _) _ _ _ from ?_)
    refine wpAny_bind (wpAny_field he rfl (x := .ref z) rfl (wpAny_bind (nx_end (I.ok.hd hc) D hz hTI hTO h1 h2 p.isList p2.isList hE fun g x k hx => ?_)))
    obtain ⟨o, ho, hc2⟩ := hx
    exact wpAny_bind (wpAny_isInstance (T := "StopIteration") (b := true) ⟨o, ho, hc2⟩ isSubtype_stop (wpAny_pure ⟨rfl, I.turnedL (t' := s.toks) (ch := [e, z, TI, TO, i1, i2]) (fun c o hb q => k c o (fun r => hb (by simp [r])) (fun r => hb (by simp [r])) (fun r => hb (by simp [r])) (fun r => hb (by simp [r])) q) hf⟩))
  self := fun _ _ s Q E st h => by
    obtain ⟨⟨x, he⟩, _⟩ := st
    exact wpAny_pyIter_enum he h
theorem en_newO {v : Value} {Hd : Heap → Prop} (B : ∀ (prog : Program) (w : World) (A : Around) (E : Value → Shared → Prop) (s : Shared) (Q : Value → Shared → Prop), Hd s.heap → Q v s → wpAny (model prog w) A (pyIter v) Q E s) :
    Meets (Builtin.«enumerate.__new__» ⟨[.type "enumerate", v], []⟩) (fun _ R u => Hd u.heap ∧ R (.ok (.ret (.ref u.heap.objs.size))) { u with heap := u.heap.push { cls := .type "enumerate", data := .fields #[.none, .bool false, v, rawInt 0, .none, .none] } }) :=
  .of_wp fun prog w A R u h => by
    obtain ⟨x, g, d, k, os⟩ := u
    obtain ⟨h1, h⟩ := h
    have sb := sub_enumerate
    have q1 : ∀ {A2 : Around} {E : Value → Shared → Prop} {Q : Value → Shared → Prop}, Q v ⟨x, g, d, k, os⟩ → wpAny (model prog w) A2 (pyIter v) Q E ⟨x, g, d, k, os⟩ := fun q => B prog w _ _ ⟨x, g, d, k, os⟩ _ h1 q
    wp_walk using q1
    refine wpAny_stack_any fun _ => wpAny_pure ?_
    split
    · rename_i c _ _ _ _ _
      cases (c == Value.type "enumerate") <;> (wp_walk using q1; exact ⟨_, rfl, h⟩)
    · (wp_walk using q1; exact ⟨_, rfl, h⟩)
theorem en_callO {prog : Program} {w : World} {A : Around} {E : Value → Shared → Prop} {s : Shared} {z : Addr} {Hd : Heap → Prop} {Q : Value → Shared → Prop}
    (B : ∀ (prog : Program) (w : World) (A : Around) (E : Value → Shared → Prop) (s : Shared) (Q : Value → Shared → Prop), Hd s.heap → Q (.ref z) s → wpAny (model prog w) A (pyIter (.ref z)) Q E s) (h1 : Hd s.heap)
    (h : ∀ u, IsEnum u s.heap.objs.size z 0 .none → (∀ b p, s.heap.get? b = some p → u.get? b = some p) → Q (.ref s.heap.objs.size) { s with heap := u }) : wpAny (model prog w) A (call (.type "enumerate") [.ref z]) Q E s := by
  refine callType_new F.called_enumerate (by decide) (F.typeCall_enumerate_1 _) (F.newCall_enumerate_1 _) (fun x => F.args_object_init_2 x _) F.entry_enumerate_new (en_newO B) ⟨h1, ?_⟩
  have he := Heap.get?_push_size s.heap (o := { cls := .type "enumerate", data := .fields #[.none, .bool false, .ref z, rawInt 0, .none, .none] }) rfl
  exact ⟨⟨_, he, rfl⟩, h _ he fun b p e => Heap.get?_push_of_some _ e⟩
def iEz (K : PySem.W.Frag) (ta : TA) : TI := fun σ H R => ta σ H fun vs H1 => ∃ a b xs ys, vs = [.ref a, .ref b] ∧ SqL K H1 a xs ∧ SqL K H1 b ys ∧ R (Iez K a b) H1
theorem pi_ez {X : Cx} {e e2 : Expr} {ta : TA} {p p2 pos pos2 tpos : Pos} {elts : List Expr} {kk : Nat} (hg : Gl X "enumerate") (hm : X.mg "enumerate" = none) (hg2 : Gl X "zip") (hm2 : X.mg "zip" = none) (ha : PA X [e, e2] ta)
    (na : starEach [.Call (.Name "zip" p2) [e, e2] [] pos2] X.env = (false, eval (.Call (.Name "zip" p2) [e, e2] [] pos2) X.env) :: starEach [] X.env := by rfl)
    (hs : starEach [e, e2] X.env = (false, eval e X.env) :: starEach [e2] X.env := by rfl) (hpl : (backTo pos2 (starEach [e2] X.env)).any (·.1) = false := by rfl) :
    PI X (.Tuple elts kk tpos) (.Call (.Name "enumerate" p) [.Call (.Name "zip" p2) [e, e2] [] pos2] [] pos) (iEz X.K ta) := by
  refine ⟨fun pins s σ H R I h => ?_⟩
  refine Call_ (ld_blt I hg hm boot_enumerate ?_)
  refine PyProof.Rows.callWith_type1 (PyProof.Rows.args_cons ?_ rfl) na rfl
  refine Call_ (ld_blt I hg2 hm2 PyProof.Rows.boot_zip (PyProof.Rows.callWith_type1 (thn (ha.run pos2 pins s σ H _ I h) fun us s1 ⟨vs, H1, I1, r1, q1⟩ => ?_) hs hpl))
  obtain ⟨a, b, xs, ys, ex, hqx, hqy, q⟩ := q1
  subst ex
  cases r1 with
  | cons r rr =>
    cases rr with
    | cons r' rr =>
      cases rr
      cases r
      cases r'
      obtain ⟨its, rv, q1, _⟩ := I1.list hqx
      obtain ⟨its2, rv2, q2, _⟩ := I1.list hqy
      refine call_zip_2 q1.isList q2.isList fun g hz hTI hTO h1 h2 hsz hk => PyProof.Rows.args_nil ?_
      refine en_callO (s := { s1 with heap := g }) (Hd := fun h => IsZip h (s1.heap.objs.size + 4) (s1.heap.objs.size + 2) (s1.heap.objs.size + 3) .none) (fun prog w A E s Q x y => wpAny_pyIter_zip x y) hz fun g' he hk' => wpAny_pyIter_enum he ?_
      have I2 : Inv X pins σ H1 { s1 with heap := g' } := I1.kept (t' := s1.toks) fun c o e => hk' c o (hk c o e)
      have n : g.objs.size = s1.heap.objs.size + 5 := hsz
      refine ⟨g.objs.size, [g.objs.size, s1.heap.objs.size + 4, s1.heap.objs.size + 2, s1.heap.objs.size + 3, s1.heap.objs.size, s1.heap.objs.size + 1], _, _, H1, rfl, I2, turn (PySem.W.ktu_apart s1.heap.objs.size a b q1.lt q2.lt) (apart5 n),
        ⟨⟨.none, he⟩, .inl (hk' _ _ hz), hk' _ _ hTI, ⟨_, _, hk' _ _ hTO⟩, h1.at fun o x => hk' _ o x, h2.at fun o x => hk' _ o x⟩, fun c m => ?_, q⟩
      have le : s1.heap.objs.size ≤ c := above5 n (six m)
      exact I1.fpOk le (I1.hok.fresh le)
/-- a loop over enumerate(zip(..)) of two lists of one length -/
theorem for_ez {K : PySem.W.Frag} {a b : Addr} {xs ys : List V} {g : TG} {tb : TS} {D : Ends} {σ : L2.St} {H : Hp} (hl : xs.length = ys.length) (Pv : Nat → L2.St → Hp → Prop) (h0 : Pv 0 σ H) (hq : ∀ i σ H, Pv i σ H → SqL K H a xs ∧ SqL K H b ys)
    (hs : ∀ (i : Nat) (x y : V) (T U : Addr) (σ : L2.St) (H : Hp), xs[i]? = some x → ys[i]? = some y → Pv i σ H → H T = none → H U = none → U ≠ T → g (.ref U) σ (upd (upd H T (.tup [x, y])) U (.tup [.int (i : Nat), .ref T])) fun σ2 H2 => tb { D with nx := Pv (i + 1), ct := Pv (i + 1), bk := D.nx } σ2 H2) (hd : ∀ σ H, Pv xs.length σ H → D.nx σ H) :
    ∃ W : Nat → Nat → L2.St → Hp → Prop, (∃ m, W 0 m σ H) ∧ ∀ i m σ H, W i m σ H →
      ((Iez K a b).stop i H ∧ D.nx σ H) ∨ ((Iez K a b).go i H ∧ ∃ N : L2.St → Hp → Prop, (∀ σ' H', N σ' H' → ∃ m', m' < m ∧ W (i + 1) m' σ' H') ∧ ∀ v H', (Iez K a b).yld i H v H' → g v σ H' fun σ2 H2 => tb { D with nx := N, ct := N, bk := D.nx } σ2 H2) := by
  refine ⟨fun i m σ H => m = xs.length - i ∧ i ≤ xs.length ∧ Pv i σ H, ⟨xs.length, rfl, Nat.zero_le _, h0⟩, ?_⟩
  rintro i m σ H ⟨rfl, hi, p⟩
  obtain ⟨qx, qy⟩ := hq i σ H p
  by_cases hlt : i < xs.length
  · refine .inr ⟨⟨xs, ys, _, _, qx, qy, List.getElem?_eq_getElem hlt, List.getElem?_eq_getElem (hl ▸ hlt)⟩, Pv (i + 1), fun σ' H' p' => ⟨xs.length - (i + 1), by omega, rfl, hlt, p'⟩, fun v H' r => ?_⟩
    obtain ⟨T, U, x, y, rfl, n1, n2, n3, rfl, f1, f2⟩ := r
    exact hs i x y T U σ H (f1 xs qx) (f2 ys qy) p n1 n2 n3
  · exact .inl ⟨⟨xs, ys, qx, qy, .inl (Nat.le_of_not_lt hlt)⟩, hd σ H (by rw [show xs.length = i by omega]; exact p)⟩
end EZ

end
section
set_option autoImplicit false
set_option Elab.async false
set_option linter.all false
set_option maxRecDepth 100000
set_option maxHeartbeats 4000000
/-! ## least_difference -/
namespace CP
open PySem L2 G Y
abbrev sLeastD : Stmt := S.top 38
def resV : Option Nat → V
  | none => .non
  | some p => .int ((p : Nat) : Int)
theorem find_at {f : Nat → Bool} {n p : Nat} (h : ∀ q, q < p → f q = false) (hp : f p = true) (hn : p < n) : (List.range n).find? f = some p := by
  rw [List.find?_range_eq_some]
  exact ⟨hp, List.mem_range.mpr hn, fun j hj => by simpa using h j hj⟩
theorem find_no {f : Nat → Bool} {n : Nat} (h : ∀ q, q < n → f q = false) : (List.range n).find? f = none := by
  rw [List.find?_eq_none]
  intro x hx
  simpa using h x (List.mem_range.mp hx)
theorem bl_ne : ∀ {x y : Bool}, (!decide (V.bl x = V.bl y)) = true → (x != y) = true
  | true, true, h => by simp at h
  | false, false, h => by simp at h
  | true, false, _ => rfl
  | false, true, _ => rfl
theorem bl_eq : ∀ {x y : Bool}, ¬ (!decide (V.bl x = V.bl y)) = true → (x != y) = false
  | true, true, _ => rfl
  | false, false, _ => rfl
  | true, false, h => by simp at h
  | false, true, h => by simp at h
/-- so many places are looked at -/
def ldn (c1 c2 : List Nat) (L : Option Int) : Nat := nl (N.hd c1 + N.hd c2 + 1) L
def ldm (c1 c2 : List Nat) (p : Nat) : Bool := decide (N.rem c1 p = 0) != decide (N.rem c2 p = 0)
def ldf (c1 c2 : List Nat) (L : Option Int) : Option Nat := (List.range (ldn c1 c2 L)).find? (ldm c1 c2)
theorem ldn_le {c1 c2 : List Nat} (h1 : Cuts c1) (h2 : Cuts c2) (L : Option Int) : ldn c1 c2 L ≤ 2001 := by
  have a := hd_le h1
  have b := hd_le h2
  exact Nat.le_trans (nl_le _ L) (by omega)
theorem ldf_le {c1 c2 : List Nat} (h1 : Cuts c1) (h2 : Cuts c2) {L : Option Int} {p : Nat} (h : ldf c1 c2 L = some p) : p ≤ 4000 := by
  have a := ldn_le h1 h2 L
  have b := List.mem_range.mp (List.mem_of_find?_eq_some h)
  omega
section
variable {P : Program} {w : World} {K : PySem.W.Frag} {mg : Str → Option Value} {base : Heap} {C : Addr}
def spLeastD (C : Addr) : Sp := fun vs H Q _ => ∃ (a b : Addr) (L : Option Int) (c1 c2 : List Nat), vs = [.ref a, .ref b, lmV L] ∧ ChAt C H c1 a ∧ ChAt C H c2 b ∧ Cuts c1 ∧ Cuts c2 ∧ (∀ z, L = some z → 0 ≤ z) ∧ ∀ H', Same H H' → Q (resV (ldf c1 c2 L)) H'
abbrev NLd : List Str := ["first", "second", "limit", "length", "place", "one", "other"]
theorem scLd : FnScope NLd ["first", "second", "limit"] (defScope sLeastD) := ⟨rfl, rfl, rfl, by decide +kernel, rfl, by decide +kernel, by decide +kernel⟩
theorem ok_leastd {f : Addr} {fd : FuncData} (F : Fun K "least_difference" "least_difference" sLeastD f fd) (B : Bn mg) (DF : Df P w K mg base 1 "_first_cut" ["chain"] (spFirst C)) (DL : Df P w K mg base 1 "_length" ["places", "limit"] spLen)
    (DM : Df P w K mg base 1 "_marks" ["chain", "length"] (spMarks C)) : FnOk P w K mg base CX0 2 f fd ["first", "second", "limit"] (spLeastD C) := by
  obtain ⟨fF, fdF, GF, gF, kF, bF⟩ := DF.ex
  obtain ⟨fL, fdL, GL, gL, kL, bL⟩ := DL.ex
  obtain ⟨fM, fdM, GM, gM, kM, bM⟩ := DM.ex
  refine F.ok scLd (fun vs H Q E h => ?_) (fun cdv A outer s H vs Q E hr h => ?_)
  · obtain ⟨a, b, L, c1, c2, rfl, _⟩ := h
    rfl
  · obtain ⟨a, b, L, c1, c2, rfl, ha, hb, l1, l2, hL, k⟩ := h
    refine ⟨_, pss_cons (ps_set (i := 3) scLd.nd rfl (Or.inl rfl) (pe_call GL hr rfl gL kL bL .nil pass0 (pa_cons (pe_op op_add (pe_op op_add (pe_call GF hr rfl gF kF bF .nil pass0 (pa_cons (pv 0) pa_nil)) (pe_call GF hr rfl gF kF bF .nil pass0 (pa_cons (pv 1) pa_nil))) pe_int) (pa_cons (pv 2) pa_nil))))
      (pss_cons (ps_for PassesOwn.never rfl (EZ.pi_ez (by rfl) B.enum (by rfl) B.zip (pa_cons (pe_call GM hr rfl gM kM bM .nil pass0 (pa_cons (pv 0) (pa_cons (pv 3) pa_nil))) (pa_cons (pe_call GM hr rfl gM kM bM .nil pass0 (pa_cons (pv 1) (pa_cons (pv 3) pa_nil))) pa_nil)))
          (pg_tup (by rfl) (pgs_cons (pg_name (i := 4) scLd.nd rfl (.inl rfl)) (pgs_cons (pg_tup (by rfl) (pgs_cons (pg_name (i := 5) scLd.nd rfl (.inl rfl)) (pgs_cons (pg_name (i := 6) scLd.nd rfl (.inl rfl)) pgs_nil))) pgs_nil)))
        (pss_one (ps_if (pt_cmpR op_ne (pv 5) (pv 6) (nomark _)) (pss_one (ps_ret (pv 4))) pss_nil)))
      (pss_one (ps_ret pe_non))), ?_⟩
    have h1 := hd_le l1
    have h2 := hd_le l2
    refine set_then (i := 3) ⟨_, rfl, a, c1, rfl, ha, _, rfl, b, c2, rfl, hb, _, _, rfl, rfl, _, _, rfl, rfl, _, rfl, N.hd c1 + N.hd c2 + 1, L, rfl, hL, ?_⟩
    have nle : ldn c1 c2 L ≤ 2001 := ldn_le l1 l2 L
    have hk := k
    show tSeq _ _ _ _ _
    refine ⟨_, rfl, _, rfl, a, ldn c1 c2 L, c1, rfl, ha, l1, by omega, fun D1 G1 s1 hD1 => ?_⟩
    refine ⟨_, rfl, _, rfl, b, ldn c1 c2 L, c2, rfl, hb.mono s1, l2, by omega, fun D2 G2 s2 hD2 => ?_⟩
    refine ⟨D1, D2, _, _, rfl, SqL.of (s2 _ _ hD1), SqL.of hD2, ?_⟩
    refine EZ.for_ez (by rw [mv_len, mv_len]) (fun i σ G => Same G2 G ∧ (∃ q4 q5 q6, σ = [some (.ref a), some (.ref b), some (lmV L), some (.int ((ldn c1 c2 L : Nat) : Int)), q4, q5, q6]) ∧ ∀ q, q < i → ldm c1 c2 q = false)
      ⟨Same.refl _, ⟨_, _, _, rfl⟩, fun q hq => by omega⟩ (fun i σ G z => ⟨SqL.of (z.1 _ _ (s2 _ _ hD1)), SqL.of (z.1 _ _ hD2)⟩) ?_ ?_
    · rintro i x y T U σ G hx hy ⟨s3, ⟨q4, q5, q6, rfl⟩, hno⟩ hT hU hUT
      have hi : i < ldn c1 c2 L := by
        have := (List.getElem?_eq_some_iff.mp hx).1
        rwa [mv_len] at this
      rw [mv_at c1 hi] at hx
      rw [mv_at c2 hi] at hy
      cases hx
      cases hy
      have sT : Same G (upd G T (.tup [V.bl (decide (N.rem c1 i = 0)), V.bl (decide (N.rem c2 i = 0))])) := of_upd hT
      have sU : Same (upd G T (.tup [V.bl (decide (N.rem c1 i = 0)), V.bl (decide (N.rem c2 i = 0))])) (upd (upd G T (.tup [V.bl (decide (N.rem c1 i = 0)), V.bl (decide (N.rem c2 i = 0))])) U (.tup [.int (i : Nat), .ref T])) := of_upd (by rw [upd_ne hUT]; exact hU)
      have ss := s3.trans (sT.trans sU)
      refine ⟨U, _, rfl, SqT.of upd_same, rfl, _, _, rfl, _, _, rfl, ⟨T, _, rfl, SqT.of (sU _ _ upd_same), rfl, _, _, rfl, _, _, rfl, rfl, rfl, ?_⟩⟩
      refine ⟨_, rfl, _, rfl, rfl, _, rfl, ite2 (fun c => ?_) (fun c => ?_)⟩
      · have e : ldf c1 c2 L = some i := find_at hno (bl_ne c) hi
        have := k _ ((s1.trans s2).trans ss)
        rw [e] at this
        exact ⟨_, rfl, this⟩
      · refine ⟨ss, ⟨_, _, _, rfl⟩, fun q hq => ?_⟩
        by_cases z : q = i
        · rw [z]
          exact bl_eq c
        · exact hno q (by omega)
    · rintro σ G ⟨s3, ⟨q4, q5, q6, rfl⟩, hno⟩
      rw [mv_len] at hno
      have e : ldf c1 c2 L = none := find_no hno
      have := k G ((s1.trans s2).trans s3)
      rw [e] at this
      exact this
end
end CP

end
section
set_option autoImplicit false
set_option Elab.async false
set_option linter.all false
set_option maxRecDepth 100000
set_option maxHeartbeats 4000000
/-! ## where two ways part -/
namespace M
def leastT : List Stair → Option Int
  | [] => none
  | x :: r => some (max ((r.map (·.1)).foldl min x.1) 0)
def stIdx (ra rb : List Stair) : Option Nat := (List.range (min ra.length rb.length)).find? fun i => !decide (ra[i]? = rb[i]?)
def stPart (a b : List Stair) : Option Int := match stIdx a.reverse b.reverse with
  | some i => (match a.reverse[i]?, b.reverse[i]? with
    | some x, some y => some (min x.1 y.1 + 1)
    | _, _ => none)
  | none => if a.length > min a.length b.length then (a.reverse[min a.length b.length]?).map (fun s => s.1 + 1) else (b.reverse[min a.length b.length]?).map fun s => s.1 + 1
def both (s l : Option Int) : Option (Int × Bool) := match s, l with
  | some x, none => some (x, true)
  | some x, some y => if x ≤ y then some (x, true) else some (y, false)
  | none, some y => some (y, false)
  | none, none => none
theorem fold_min : ∀ (r : List Int) (x : Int), r.foldl min x ∈ x :: r ∧ ∀ y ∈ x :: r, r.foldl min x ≤ y
  | [], x => ⟨List.mem_cons_self, fun y hy => by rw [List.mem_singleton.mp hy]; exact Int.le_refl _⟩
  | z :: r, x => by
    obtain ⟨h1, h2⟩ := fold_min r (min x z)
    have h3 := h2 _ List.mem_cons_self
    refine ⟨?_, fun y hy => ?_⟩
    · rcases List.mem_cons.mp h1 with e | e
      · show r.foldl min (min x z) ∈ x :: z :: r
        rw [e]
        by_cases h : x ≤ z
        · rw [show min x z = x by omega]
          exact List.mem_cons_self
        · rw [show min x z = z by omega]
          exact List.mem_cons_of_mem _ List.mem_cons_self
      · exact List.mem_cons_of_mem _ (List.mem_cons_of_mem _ e)
    · show r.foldl min (min x z) ≤ y
      rcases List.mem_cons.mp hy with e | e
      · omega
      · rcases List.mem_cons.mp e with e | e
        · omega
        · exact h2 y (List.mem_cons_of_mem _ e)
end M
namespace RZ
open PySem PySem.Spec PyProof.Rows L2
/-- zip of two tuples, as far as the shorter one goes -/
theorem walk_zipT {K : PySem.W.Frag} {a b : Addr} {xs ys : List V} : Walk (ItzT K a b) (min xs.length ys.length) (fun H => SqT K H a xs ∧ SqT K H b ys) (fun i H v H' => ∃ T x y, v = .ref T ∧ H T = none ∧ H' = upd H T (.tup [x, y]) ∧ xs[i]? = some x ∧ ys[i]? = some y) :=
  ⟨fun i _ hi q => ⟨xs, ys, xs[i]'(by omega), ys[i]'(by omega), q.1, q.2, List.getElem?_eq_getElem _, List.getElem?_eq_getElem _⟩, fun _ q => ⟨xs, ys, q.1, q.2, by omega⟩, fun _ _ _ _ _ q y => by
    obtain ⟨T, x, y, rfl, hT, rfl, f1, f2⟩ := y
    exact ⟨T, x, y, rfl, hT, rfl, f1 xs q.1, f2 ys q.2⟩⟩
end RZ
namespace CP
open PySem L2 G Y
abbrev sAlike : Stmt := S.top 50
abbrev sParting : Stmt := S.top 51
abbrev sSPart : Stmt := S.top 53
abbrev sCPart2 : Stmt := S.top 54
abbrev sLeastT : Stmt := S.top 55
theorem vnon : Vals [V.non] [Value.none] := .cons (show RelV .non .none from rfl) .nil
theorem SsAt.get {H : Hp} {l : List M.Stair} {xs : List V} (h : SsAt H l xs) : ∀ {i : Nat} {v : V}, xs[i]? = some v → ∃ g, l[i]? = some g ∧ SAt H g v := by
  induction h with
  | nil => intro i v e; cases e
  | cons e2 _ ih =>
    intro i v e
    cases i with
    | zero =>
      cases e
      exact ⟨_, rfl, e2⟩
    | succ i => exact ih (i := i) e
theorem SsAt.app {H : Hp} {l m : List M.Stair} {xs ys : List V} (h : SsAt H l xs) (h2 : SsAt H m ys) : SsAt H (l ++ m) (xs ++ ys) := by
  induction h with
  | nil => exact h2
  | cons e2 _ ih => exact .cons e2 ih
theorem SsAt.rev {H : Hp} {l : List M.Stair} {xs : List V} (h : SsAt H l xs) : SsAt H l.reverse xs.reverse := by
  induction h with
  | nil => exact .nil
  | cons e2 _ ih =>
    rw [List.reverse_cons, List.reverse_cons]
    exact ih.snoc e2
theorem eqv_st (a b : Int) (o p : Option Int) : PyData.eqv (.tuple [.int a, dAns o]) (.tuple [.int b, dAns p]) = decide ((a, o) = (b, p)) := by
  cases o with
  | none => cases p with
    | none => by_cases h1 : a = b <;> simp [dAns, PyData.eqv, PyData.eqvAll, h1]
    | some y => simp [dAns, PyData.eqv, PyData.eqvAll]
  | some x => cases p with
    | none => simp [dAns, PyData.eqv, PyData.eqvAll]
    | some y =>
      by_cases h1 : a = b <;> by_cases h2 : x = y <;> simp [dAns, PyData.eqv, PyData.eqvAll, h1, h2]
theorem shp_st (a : Int) (o : Option Int) : SeqAt.shaped (.tuple [.int a, dAns o]) = true := by
  cases o <;> simp [SeqAt.shaped, dAns, PyData.canLay0, PyData.canLayAll0, PyData.depth, PyData.depthAll]
theorem dp_ans {K : PySem.W.Frag} {H : Hp} : ∀ o : Option Int, Dp K H (ansV o) (dAns o)
  | none => .non
  | some z => .int z
theorem ne_st {K : PySem.W.Frag} {H : Hp} {Q : VK} {s s' : M.Stair} {x y : V} (h : SAt H s x) (h2 : SAt H s' y) (q : Q (.bl (!decide (s = s'))) H) : rNeD K x y H Q := by
  obtain ⟨t, rfl, f1⟩ := h
  obtain ⟨u, rfl, f2⟩ := h2
  refine ⟨_, _, .tup (SqT.of f1) (.cons (.int _) (.cons (dp_ans _) .nil)), .tup (SqT.of f2) (.cons (.int _) (.cons (dp_ans _) .nil)), shp_st _ _, shp_st _ _, ?_⟩
  rw [eqv_st]
  exact q
theorem catA_own {K : PySem.W.Frag} {H : Hp} {Q : VK} {a b : Addr} {xs ys : List V} (ha : H a = some (.tup xs)) (hb : H b = some (.tup ys)) (hl : xs.length + ys.length ≤ sizeLine) (k : ∀ c H', Same H H' → H' c = some (.tup (xs ++ ys)) → Q (.ref c) H') : rCatA K (.ref a) (.ref b) H Q :=
  ⟨a, b, xs, ys, rfl, rfl, SqT.of ha, SqT.of hb, hl, fun z => k b H (Same.refl H) (by rw [z]; exact hb), fun _ z => k a H (Same.refl H) (by rw [z, List.append_nil]; exact ha), fun _ _ p hp => k p _ (of_upd hp) upd_same⟩
section
variable {P : Program} {w : World} {K : PySem.W.Frag} {mg : Str → Option Value} {base : Heap} {C CW : Addr}
def spLeastT : Sp := fun vs H Q _ => ∃ (t : Addr) (l : List M.Stair) (xs : List V), vs = [.ref t] ∧ H t = some (.tup xs) ∧ SsAt H l xs ∧ l.length ≤ 200 ∧ ∀ H', Same H H' → Q (ansV (M.leastT l)) H'
theorem scLt : FnScope ["stairs", "threshold", "_"] ["stairs"] (defScope sLeastT) := ⟨rfl, rfl, rfl, by decide +kernel, rfl, by decide +kernel, by decide +kernel⟩
theorem ok_leastt {f : Addr} {fd : FuncData} (F : Fun K "_least_threshold" "_least_threshold" sLeastT f fd) (B : Bn mg) : FnOk P w K mg base CX0 1 f fd ["stairs"] spLeastT := by
  refine F.ok scLt (fun vs H Q E h => ?_) (fun cdv A outer s H vs Q E hr h => ?_)
  · obtain ⟨t, l, xs, rfl, _⟩ := h
    rfl
  · obtain ⟨t, l, xs, rfl, ht, hs, hl, kk⟩ := h
    refine ⟨_, pss_one (ps_ret (pe_ifExp (pt_cmpR (op_gt) (pe_callB call_len_seq (by rfl) B.len PySem.boot_len (pa_cons (pv 0) pa_nil)) (pe_int) (nomark _)) (pe_callB (call_max2 rfl) (by rfl) B.max (by decide +kernel) (pa_cons (pe_callB (cr_min rfl) (by rfl) B.min (by decide +kernel) (pa_cons (pe_lc (own := [("threshold", 1), ("_", 2)]) (g := gTup K 2 (gCons (gName 1) (gCons (gName 2) gNil))) (tt := tYes) (te := tVar 1) rfl scLt.nd (pi_tup (pv 0)) (blkOk_by (N := ["stairs", "threshold", "_"]) (sc := defScope sLeastT) (by decide +kernel))
          (fun _ _ _ _ _ => by exact pg_tup (by rfl) (pgs_cons (pg_name (i := 1) scLt.nd rfl (Or.inl rfl)) (pgs_cons (pg_name (i := 2) scLt.nd rfl (Or.inl rfl)) pgs_nil))) (fun _ _ _ _ _ => pts_nil) (fun _ _ _ _ _ => by exact pv 1)) pa_nil)) (pa_cons (pe_int) pa_nil))) (pe_non))), ?_⟩
    have ll := hs.len
    refine ⟨_, rfl, t, _, rfl, .inr (SqT.of ht), _, _, rfl, rfl, _, rfl, ?_⟩
    cases l with
    | nil =>
      have e0 : xs.length = 0 := ll
      exact iteN (by rw [e0]; decide) (kk H (Same.refl H))
    | cons z r =>
      refine iteP (by rw [ll, List.length_cons]; omega) ?_
      refine ⟨_, rfl, t, rfl, ⟨_, SqT.of ht⟩, fun D hD => ?_⟩
      refine lc_it walk_tup (fun i G => Same H G ∧ G D = some (.lst (((((z :: r).take i).map (·.1)).map V.int)))) ⟨of_upd hD, upd_same⟩ (fun i G _ q => SqT.of (q.1 _ _ ht)) ?_ ?_
      · rintro i x G G' hi ⟨s1, hG⟩ ⟨rfl, hx⟩
        obtain ⟨s, hs2, t1, rfl, f1⟩ := hs.get hx
        refine ⟨t1, _, rfl, SqT.of (s1 _ _ f1), rfl, _, _, rfl, _, _, rfl, rfl, rfl, _, rfl, _, hG, ?_, add_upd hD s1, ?_⟩
        · rw [List.length_map, List.length_map]
          have := List.length_take_le' i (z :: r)
          exact small1000 (by omega)
        · rw [upd_same, take_snoc hs2, List.map_append, List.map_append]
          rfl
      · rintro G ⟨s1, hG⟩
        rw [ll, List.take_length] at hG
        obtain ⟨h1, h2⟩ := M.fold_min (r.map (·.1)) z.1
        refine ⟨D, _, rfl, SqL.of hG, by simp, fun m hm hle => ?_⟩
        have em : m = (r.map (·.1)).foldl min z.1 := by
          have a1 := hle _ h1
          have a2 := h2 _ hm
          omega
        refine ⟨_, _, rfl, ?_⟩
        have e3 : ansV (M.leastT (z :: r)) = .int (max m 0) := by
          show V.int (max ((r.map (·.1)).foldl min z.1) 0) = _
          rw [← em]
        have := kk G s1
        rw [e3] at this
        rw [show (if (0 : Int) > m then 0 else m) = max m 0 by split <;> omega]
        exact this
def spSPart : Sp := fun vs H Q _ => ∃ (t u : Addr) (a b : List M.Stair) (xs ys : List V), vs = [.ref t, .ref u] ∧ H t = some (.tup xs) ∧ H u = some (.tup ys) ∧ SsAt H a xs ∧ SsAt H b ys ∧ ∀ H', Same H H' → Q (ansV (M.stPart a b)) H'
abbrev NSp : List Str := ["first", "second", "one", "other", "shared", "longer"]
theorem scSp : FnScope NSp ["first", "second"] (defScope sSPart) := ⟨rfl, rfl, rfl, by decide +kernel, rfl, by decide +kernel, by decide +kernel⟩
theorem ok_spart {f : Addr} {fd : FuncData} (F : Fun K "_stairs_part" "_stairs_part" sSPart f fd) (B : Bn mg) : FnOk P w K mg base CX0 1 f fd ["first", "second"] spSPart := by
  refine F.ok scSp (fun vs H Q E h => ?_) (fun cdv A outer s H vs Q E hr h => ?_)
  · obtain ⟨t, u, a, b, xs, ys, rfl, _⟩ := h
    rfl
  · obtain ⟨t, u, a, b, xs, ys, rfl, ht, hu, ha, hb, kk⟩ := h
    refine ⟨_, pss_cons (ps_for PassesOwn.never rfl (RZ.pi_zipA (by rfl) B.zip (pa_cons (QR.pe_revT (pv 0)) (pa_cons (QR.pe_revT (pv 1)) pa_nil))) (pg_tup (by rfl) (pgs_cons (pg_name (i := 2) scSp.nd rfl (Or.inl rfl)) (pgs_cons (pg_name (i := 3) scSp.nd rfl (Or.inl rfl)) pgs_nil))) (pss_one (ps_if (pt_cmpR (op_neD hr.units) (pv 2) (pv 3) (nomark _)) (pss_one (ps_ret (pe_op op_add (pe_callB (call_min2 rfl) (by rfl) B.min (by decide +kernel) (pa_cons (pe_ix ix_tup (pv 2) (pe_int) (fun _ _ => rfl)) (pa_cons (pe_ix ix_tup (pv 3) (pe_int) (fun _ _ => rfl)) pa_nil))) (pe_int)))) (pss_nil))))
      (pss_cons (ps_set (i := 4) scSp.nd rfl (Or.inl rfl) (pe_callB (call_min2 rfl) (by rfl) B.min (by decide +kernel) (pa_cons (pe_callB call_len_seq (by rfl) B.len PySem.boot_len (pa_cons (pv 0) pa_nil)) (pa_cons (pe_callB call_len_seq (by rfl) B.len PySem.boot_len (pa_cons (pv 1) pa_nil)) pa_nil))))
      (pss_cons (ps_set (i := 5) scSp.nd rfl (Or.inl rfl) (pe_ifExp (pt_cmpR (op_gt) (pe_callB call_len_seq (by rfl) B.len PySem.boot_len (pa_cons (pv 0) pa_nil)) (pv 4) (nomark _)) (pv 0) (pv 1)))
      (pss_one (ps_ret (pe_ifExp (pt_cmpR (op_gt) (pe_callB call_len_seq (by rfl) B.len PySem.boot_len (pa_cons (pv 5) pa_nil)) (pv 4) (nomark _)) (pe_op op_add (pe_ix ix_tup (pe_ix ix_tup (QR.pe_revT (pv 5)) (pv 4) (fun _ _ => rfl)) (pe_int) (fun _ _ => rfl)) (pe_int)) (pe_non)))))), ?_⟩
    have la := ha.len
    have lb := hb.len
    have i0 : ∀ {z o : V}, atI [z, o] (0 : Int) = some z := fun {z o} => by exact atI_nat (xs := [z, o]) (j := 0) rfl
    refine ⟨_, rfl, t, _, rfl, SqT.of ht, fun t2 n2 => ?_⟩
    have s1 := of_upd (o := .tup xs.reverse) n2
    have e1 : upd H t2 (.tup xs.reverse) t2 = some (.tup xs.reverse) := upd_same
    refine ⟨_, rfl, u, _, rfl, SqT.of (s1 _ _ hu), fun u2 m2 => ?_⟩
    have s2 := of_upd (o := .tup ys.reverse) m2
    have e2 : upd (upd H t2 (.tup xs.reverse)) u2 (.tup ys.reverse) u2 = some (.tup ys.reverse) := upd_same
    have s3 := s1.trans s2
    replace e1 := s2 _ _ e1
    generalize upd (upd H t2 (.tup xs.reverse)) u2 (.tup ys.reverse) = G0 at e1 e2 s3
    clear s1 s2 n2 m2
    have ra := (ha.mono s3).rev
    have rb := (hb.mono s3).rev
    refine ⟨t2, u2, _, _, rfl, .inr ⟨SqT.of e1, SqT.of e2, ?_⟩⟩
    refine for_it RZ.walk_zipT (fun i σ G => Same G0 G ∧ (∃ q2 q3 q4 q5, σ = [some (.ref t), some (.ref u), q2, q3, q4, q5]) ∧ ∀ q, q < i → (!decide (a.reverse[q]? = b.reverse[q]?)) = false)
      ⟨Same.refl _, ⟨_, _, _, _, rfl⟩, fun q hq => by omega⟩ (fun i σ G _ z => ⟨SqT.of (z.1 _ _ e1), SqT.of (z.1 _ _ e2)⟩) ?_ ?_
    · rintro i v σ G G' hi ⟨s4, ⟨q2, q3, q4, q5, rfl⟩, hno⟩ ⟨T, x, y, rfl, hT, rfl, hx, hy⟩
      obtain ⟨p, hp, px⟩ := ra.get hx
      obtain ⟨q, hq, py⟩ := rb.get hy
      have s5 := s4.trans (of_upd (o := .tup [x, y]) hT)
      refine ⟨T, _, rfl, SqT.of upd_same, rfl, _, _, rfl, _, _, rfl, rfl, ?_⟩
      obtain ⟨tx, rfl, f1⟩ := px
      obtain ⟨ty, rfl, f2⟩ := py
      refine ⟨_, rfl, _, rfl, ne_st ⟨tx, rfl, s5 _ _ f1⟩ ⟨ty, rfl, s5 _ _ f2⟩ ⟨_, rfl, ite2 (fun c => ?_) (fun c => ?_)⟩⟩
      · have c2 : p ≠ q := fun z => by simp [z] at c
        have hlt : i < min a.reverse.length b.reverse.length := by
          rw [List.length_reverse, List.length_reverse] at hi ⊢
          omega
        have e : M.stIdx a.reverse b.reverse = some i := find_at hno (by rw [hp, hq]; simp [c2]) hlt
        refine ⟨_, rfl, tx, _, _, _, rfl, rfl, SqT.of (s5 _ _ f1), i0, _, rfl, ty, _, _, _, rfl, rfl, SqT.of (s5 _ _ f2), i0, _, _, rfl, _, _, rfl, rfl, ?_⟩
        have := kk _ (s3.trans s5)
        unfold M.stPart at this
        rw [e] at this
        dsimp only at this
        rw [hp, hq] at this
        rw [show (if q.1 < p.1 then q.1 else p.1) = min p.1 q.1 by split <;> omega]
        exact this
      · have c2 : p = q := by
          by_cases z : p = q
          · exact z
          · exact absurd (by simp [z]) c
        refine ⟨s5, ⟨_, _, _, _, rfl⟩, fun r hr => ?_⟩
        by_cases z : r = i
        · rw [z, hp, hq, c2]
          simp
        · exact hno r (by omega)
    · rintro σ G ⟨s4, ⟨q2, q3, q4, q5, rfl⟩, hno⟩
      have s5 := s3.trans s4
      rw [List.length_reverse, List.length_reverse] at hno
      have e : M.stIdx a.reverse b.reverse = none := find_no (by
        rw [List.length_reverse, List.length_reverse]
        rw [la, lb] at hno
        exact hno)
      have kk2 : Q (ansV (if a.length > min a.length b.length then (a.reverse[min a.length b.length]?).map (fun s => s.1 + 1) else (b.reverse[min a.length b.length]?).map fun s => s.1 + 1)) = Q (ansV (M.stPart a b)) := by
        unfold M.stPart
        rw [e]
      dsimp only
      refine set_then (i := 4) ⟨_, rfl, t, _, rfl, .inr (SqT.of (s5 _ _ ht)), _, rfl, u, _, rfl, .inr (SqT.of (s5 _ _ hu)), _, _, rfl, ?_⟩
      rw [show (if ((ys.length : Nat) : Int) < ((xs.length : Nat) : Int) then ((ys.length : Nat) : Int) else ((xs.length : Nat) : Int)) = ((min a.length b.length : Nat) : Int) by rw [la, lb]; split <;> omega]
      refine set_k (fun v G' => G' = G ∧ ∃ (z : Addr) (l : List M.Stair) (zs : List V), v = .ref z ∧ G z = some (.tup zs) ∧ SsAt G l zs ∧ M.stPart a b = (l.reverse[min a.length b.length]?).map fun s => s.1 + 1) (fun v G' hv => ?_) (fun k1 => ?_)
      · obtain ⟨rfl, z, l, zs, rfl, hz, hzs, ez⟩ := hv
        have lz := hzs.len
        have lz2 := hzs.rev.len
        refine ⟨_, rfl, z, _, rfl, .inr (SqT.of hz), _, rfl, _, _, rfl, rfl, _, rfl, ite2 (fun c => ?_) (fun c => ?_)⟩
        · have c2 : ((min a.length b.length : Nat) : Int) < ((zs.length : Nat) : Int) := of_decide_eq_true c
          refine ⟨_, rfl, z, _, rfl, SqT.of hz, fun z2 hz2 => ?_⟩
          have hlt : min a.length b.length < zs.reverse.length := by
            rw [List.length_reverse]
            omega
          obtain ⟨v, hv⟩ : ∃ v, zs.reverse[min a.length b.length]? = some v := ⟨_, List.getElem?_eq_getElem hlt⟩
          obtain ⟨s, hs, ts, rfl, fs⟩ := hzs.rev.get hv
          have g2 := of_upd (o := .tup zs.reverse) hz2
          refine ⟨_, rfl, z2, _, _, _, rfl, rfl, SqT.of upd_same, atI_nat hv, ts, _, _, _, rfl, rfl, SqT.of (g2 _ _ fs), i0, _, _, rfl, rfl, ?_⟩
          have := kk _ (s5.trans g2)
          rw [ez, hs] at this
          exact this
        · have c2 : ¬ ((min a.length b.length : Nat) : Int) < ((zs.length : Nat) : Int) := fun q => c (decide_eq_true q)
          have := kk _ s5
          rw [ez, List.getElem?_eq_none (by rw [List.length_reverse]; omega)] at this
          exact this
      · refine ⟨_, rfl, t, _, rfl, .inr (SqT.of (s5 _ _ ht)), _, rfl, _, _, rfl, rfl, _, rfl, ite2 (fun c => ?_) (fun c => ?_)⟩
        · have c2 : ((min a.length b.length : Nat) : Int) < ((xs.length : Nat) : Int) := of_decide_eq_true c
          refine ⟨_, rfl, k1 _ _ ⟨rfl, t, a, xs, rfl, s5 _ _ ht, ha.mono s5, ?_⟩⟩
          unfold M.stPart
          rw [e]
          dsimp only
          rw [if_pos (by omega)]
        · have c2 : ¬ ((min a.length b.length : Nat) : Int) < ((xs.length : Nat) : Int) := fun q => c (decide_eq_true q)
          refine ⟨_, rfl, k1 _ _ ⟨rfl, u, b, ys, rfl, s5 _ _ hu, hb.mono s5, ?_⟩⟩
          unfold M.stPart
          rw [e]
          dsimp only
          rw [if_neg (by omega)]
end
end CP

end
section
set_option autoImplicit false
set_option Elab.async false
set_option linter.all false
set_option maxRecDepth 100000
set_option maxHeartbeats 4000000
/-! ## parting; alike -/
namespace CP
open PySem L2 G Y
section
variable {P : Program} {w : World} {K : PySem.W.Frag} {mg : Str → Option Value} {base : Heap} {C CW : Addr}
def chPart (c1 c2 : List Nat) (L : Option Int) : Option Int := (ldf c1 c2 L).map fun n => ((n : Nat) : Int) + 1
def spCPart2 (C : Addr) : Sp := fun vs H Q _ => ∃ (a b : Addr) (L : Option Int) (c1 c2 : List Nat), vs = [.ref a, .ref b, ansV L] ∧ ChAt C H c1 a ∧ ChAt C H c2 b ∧ Cuts c1 ∧ Cuts c2 ∧ (∀ z, L = some z → 0 ≤ z) ∧ ∀ H', Same H H' → Q (ansV (chPart c1 c2 L)) H'
structure Dl (P : Program) (w : World) (K : PySem.W.Frag) (mg : Str → Option Value) (base : Heap) (k : Nat) (x : Str) (ps ks : List Str) (sp : Sp) : Prop where
  ex : ∃ (f : Addr) (fd : FuncData), FnOk P w K mg base CX0 k f fd ps sp ∧ mg x = some (.ref f) ∧ PySem.W.keepIn K (.ref f) = true ∧ KBinds K fd ps ks g21 g21
theorem scCp : FnScope ["first", "second", "limit", "place"] ["first", "second", "limit"] (defScope sCPart2) := ⟨rfl, rfl, rfl, by decide +kernel, rfl, by decide +kernel, by decide +kernel⟩
theorem ok_cpart2 {f : Addr} {fd : FuncData} (F : Fun K "_chains_part" "_chains_part" sCPart2 f fd) (DL : Dl P w K mg base 2 "least_difference" ["first", "second", "limit"] ["limit"] (spLeastD C)) : FnOk P w K mg base CX0 3 f fd ["first", "second", "limit"] (spCPart2 C) := by
  obtain ⟨fL, fdL, GL, gL, kL, bL⟩ := DL.ex
  refine F.ok scCp (fun vs H Q E h => ?_) (fun cdv A outer s H vs Q E hr h => ?_)
  · obtain ⟨a, b, L, c1, c2, rfl, _⟩ := h
    rfl
  · obtain ⟨a, b, L, c1, c2, rfl, h1, h2, l1, l2, hL, kk⟩ := h
    refine ⟨_, pss_cons (ps_set (i := 3) scCp.nd rfl (Or.inl rfl) (pe_callK GL (hr.mono (by omega)) rfl gL kL bL pass0 (pa_cons (pv 0) (pa_cons (pv 1) pa_nil)) (pk_cons (pv 2) pk_nil)))
      (pss_one (ps_ret (pe_ifExp (pt_cmp (pc_isN (pv 3))) (pe_non) (pe_op op_add (pv 3) (pe_int))))), ?_⟩
    refine set_then (i := 3) ⟨_, rfl, _, rfl, _, rfl, a, b, L, c1, c2, (by cases L <;> rfl), h1, h2, l1, l2, hL, fun G s1 => ?_⟩
    have kk2 := kk G s1
    unfold chPart at kk2
    cases e : ldf c1 c2 L with
    | none =>
      rw [e] at kk2
      exact ⟨_, rfl, _, rfl, iteT kk2⟩
    | some p =>
      rw [e] at kk2
      exact ⟨_, rfl, _, rfl, iteF ⟨_, rfl, _, _, rfl, rfl, kk2⟩⟩
/-- the chain of a form -/
def fch (wy : M.Way) (L : Option Int) : List Nat := N.nrm (N.fm (M.chE false wy.head wy.steps [])) (nn (M.chE false wy.head wy.steps []) (M.limOf (M.Way.stairs false L wy) L))
theorem fch_cuts {wy : M.Way} (h : wy.fine) (L : Option Int) : Cuts (fch wy L) := cuts_nrm (ck_cuts (M.ck_all M.ck_nil (fine_all h).1)) _
def partW (w1 w2 : M.Way) : Option (Int × Bool) :=
  M.both (M.stPart (M.Way.stairs true none w1) (M.Way.stairs true none w2))
    (match chPart (fch w1 none) (fch w2 none) (M.leastT (M.Way.stairs false none w1 ++ M.Way.stairs false none w2)) with
      | some z => some z
      | none => M.stPart (M.Way.stairs false none w1) (M.Way.stairs false none w2))
theorem stairs_le {se : Bool} {L : Option Int} {wy : M.Way} (h : wy.fine) : (M.Way.stairs se L wy).length ≤ 80 := by
  have a := M.stairs_len L (M.Way.lows se wy) []
  have b := M.Way.lows_len se (fine_all h).2.2
  unfold M.Way.stairs M.stairsOf
  simp only [List.length_nil] at a
  omega
theorem least_pos (l : List M.Stair) : ∀ z, M.leastT l = some z → 0 ≤ z := fun z h => by
  cases l with
  | nil => cases h
  | cons x r =>
    cases h
    omega
def PartAt (H : Hp) (p : Option (Int × Bool)) (v : V) : Prop := match p with
  | none => v = .non
  | some (z, b) => ∃ t, v = .ref t ∧ H t = some (.tup [.int z, .bl b])
theorem PartAt.mono {H H' : Hp} (s : Same H H') {p : Option (Int × Bool)} {v : V} (h : PartAt H p v) : PartAt H' p v := by
  cases p with
  | none => exact h
  | some q =>
    obtain ⟨t, e, h1⟩ := h
    exact ⟨t, e, s _ _ h1⟩
/-- form called with one argument -/
structure Df1 (P : Program) (w : World) (K : PySem.W.Frag) (mg : Str → Option Value) (base : Heap) (k : Nat) (sp : Sp) : Prop where
  ex : ∃ (f : Addr) (fd : FuncData), FnOk P w K mg base CX0 k f fd ["way", "upto"] sp ∧ mg "form" = some (.ref f) ∧ PySem.W.keepIn K (.ref f) = true ∧ KBinds K fd ["way", "upto"] ["upto"] g11 g11 ∧ Binds K fd ["way", "upto"] [.none]
def spPart (CW : Addr) (n : Nat) : Sp := fun vs H Q _ => ∃ (a b : Addr) (w1 w2 : M.Way), vs = [.ref a, .ref b] ∧ WP.WayAt CW H w1 a ∧ WP.WayAt CW H w2 b ∧ M.Way.fine w1 ∧ M.Way.fine w2 ∧ w1.depth ≤ n ∧ w2.depth ≤ n ∧ ∀ v H', Same H H' → PartAt H' (partW w1 w2) v → Q v H'
abbrev NPt : List Str := ["first", "second", "first_sealed", "first_loose", "first_chain", "second_sealed", "second_loose", "second_chain", "sealed", "loose"]
theorem scPt : FnScope NPt ["first", "second"] (defScope sParting) := ⟨rfl, rfl, rfl, by decide +kernel, rfl, by decide +kernel, by decide +kernel⟩
theorem ok_part {k n : Nat} {f : Addr} {fd : FuncData} (F : Fun K "parting" "parting" sParting f fd) (hk : 3 ≤ k) (DF : Df1 P w K mg base k (spForm C CW n)) (DS : Df P w K mg base 1 "_stairs_part" ["first", "second"] spSPart) (DC : Df P w K mg base 3 "_chains_part" ["first", "second", "limit"] (spCPart2 C)) (DT : Df P w K mg base 1 "_least_threshold" ["stairs"] spLeastT) :
    FnOk P w K mg base CX0 (k + 1) f fd ["first", "second"] (spPart CW n) := by
  obtain ⟨fF, fdF, GF, gF, kF, kbF, bF⟩ := DF.ex
  obtain ⟨fS, fdS, GS, gS, kS, bS⟩ := DS.ex
  obtain ⟨fC, fdC, GC, gC, kC, bC⟩ := DC.ex
  obtain ⟨fT, fdT, GT, gT, kT, bT⟩ := DT.ex
  refine F.ok scPt (fun vs H Q E h => ?_) (fun cdv A outer s H vs Q E hr h => ?_)
  · obtain ⟨a, b, w1, w2, rfl, _⟩ := h
    rfl
  · obtain ⟨a, b, w1, w2, rfl, h1, h2, f1, f2, d1, d2, kk⟩ := h
    refine ⟨_, pss_cons (ps_asg (pe_call GF (hr.mono (by omega)) rfl gF kF bF vnon pass0 (pa_cons (pv 0) pa_nil)) (pg_tup (by rfl) (pgs_cons (pg_name (i := 2) scPt.nd rfl (Or.inl rfl)) (pgs_cons (pg_name (i := 3) scPt.nd rfl (Or.inl rfl)) (pgs_cons (pg_name (i := 4) scPt.nd rfl (Or.inl rfl)) pgs_nil)))))
      (pss_cons (ps_asg (pe_call GF (hr.mono (by omega)) rfl gF kF bF vnon pass0 (pa_cons (pv 1) pa_nil)) (pg_tup (by rfl) (pgs_cons (pg_name (i := 5) scPt.nd rfl (Or.inl rfl)) (pgs_cons (pg_name (i := 6) scPt.nd rfl (Or.inl rfl)) (pgs_cons (pg_name (i := 7) scPt.nd rfl (Or.inl rfl)) pgs_nil)))))
      (pss_cons (ps_set (i := 8) scPt.nd rfl (Or.inl rfl) (pe_call GS (hr.mono (by omega)) rfl gS kS bS .nil pass0 (pa_cons (pv 2) (pa_cons (pv 5) pa_nil))))
      (pss_cons (ps_set (i := 9) scPt.nd rfl (Or.inl rfl) (pe_call GC (hr.mono (by omega)) rfl gC kC bC .nil pass0 (pa_cons (pv 4) (pa_cons (pv 7) (pa_cons (pe_call GT (hr.mono (by omega)) rfl gT kT bT .nil pass0 (pa_cons (pe_op op_catA (pv 3) (pv 6)) pa_nil)) pa_nil)))))
      (pss_cons (ps_if (pt_cmp (pc_isN (pv 9))) (pss_one (ps_set (i := 9) scPt.nd rfl (Or.inl rfl) (pe_call GS (hr.mono (by omega)) rfl gS kS bS .nil pass0 (pa_cons (pv 3) (pa_cons (pv 6) pa_nil))))) (pss_nil))
      (pss_cons (ps_if (PW.pt (pw_and (pt_cmp (pc_notN (pv 8))) (pw_and1 (PW.pt (pw_or (pt_cmp (pc_isN (pv 9))) (pw_or1 (pt_cmpR (op_le) (pv 8) (pv 9) (nomark _)))))))) (pss_one (ps_ret (pe_tup (pa_cons (pv 8) (pa_cons (pe_bl) pa_nil))))) (pss_nil))
      (pss_one (ps_ret (pe_ifExp (pt_cmp (pc_isN (pv 9))) (pe_non) (pe_tup (pa_cons (pv 9) (pa_cons (pe_bl) pa_nil))))))))))), ?_⟩
    have hN : ∀ z : Int, none = some z → 0 ≤ z := fun z hz => nomatch hz
    refine ⟨_, rfl, a, w1, none, rfl, h1, f1, d1, hN, fun t1 G1 s1 k1 => ?_⟩
    obtain ⟨p1, p2, pc, xs1, xs2, a1, a2, a3, a4, a5, a6⟩ := k1
    refine ⟨t1, _, rfl, SqT.of a1, rfl, _, _, rfl, _, _, rfl, _, _, rfl, rfl, ?_⟩
    dsimp only
    refine ⟨_, rfl, b, w2, none, rfl, h2.mono s1, f2, d2, hN, fun t2 G2 s2 k2 => ?_⟩
    obtain ⟨r1, r2, rc, ys1, ys2, b1, b2, b3, b4, b5, b6⟩ := k2
    refine ⟨t2, _, rfl, SqT.of b1, rfl, _, _, rfl, _, _, rfl, _, _, rfl, rfl, ?_⟩
    dsimp only
    replace a2 := s2 _ _ a2
    replace a3 := a3.mono s2
    replace a4 := s2 _ _ a4
    replace a5 := a5.mono s2
    replace a6 := a6.mono s2
    have s12 := s1.trans s2
    clear a1 b1 h1 h2 s1 s2
    have n1 := stairs_le (se := false) (L := none) f1
    have n2 := stairs_le (se := false) (L := none) f2
    have c1 := fch_cuts f1 none
    have c2 := fch_cuts f2 none
    have lx := a5.len
    have ly := b5.len
    unfold partW at kk
    change ChAt C G2 (fch w1 none) pc at a6
    change ChAt C G2 (fch w2 none) rc at b6
    generalize M.Way.stairs true none w1 = u1 at a3 kk
    generalize M.Way.stairs true none w2 = u2 at b3 kk
    generalize M.Way.stairs false none w1 = v1 at a5 kk n1 lx
    generalize M.Way.stairs false none w2 = v2 at b5 kk n2 ly
    generalize fch w1 none = e1 at a6 kk c1
    generalize fch w2 none = e2 at b6 kk c2
    refine set_then (i := 8) ⟨_, rfl, _, rfl, p1, r1, u1, u2, xs1, ys1, rfl, a2, b2, a3, b3, fun G3 s3 => ?_⟩
    have a6 := a6.mono s3
    have b6 := b6.mono s3
    refine set_then (i := 9) ⟨_, rfl, _, rfl, _, rfl, _, rfl, catA_own (s3 _ _ a4) (s3 _ _ b4) (Nat.le_trans (show xs2.length + ys2.length ≤ 1000 by omega) (by decide)) fun c G4 s4 hc => ?_⟩
    refine ⟨c, v1 ++ v2, xs2 ++ ys2, rfl, hc, (a5.mono (s3.trans s4)).app (b5.mono (s3.trans s4)), by rw [List.length_append]; omega, fun G5 s5 => ?_⟩
    refine ⟨pc, rc, _, e1, e2, rfl, (a6.mono s4).mono s5, (b6.mono s4).mono s5, c1, c2, least_pos _, fun G6 s6 => ?_⟩
    have s36 := (s3.trans s4).trans (s5.trans s6)
    refine if_then (fun σ' G => Same G6 G ∧ ∃ lo : Option Int, lo = (match chPart e1 e2 (M.leastT (v1 ++ v2)) with | some z => some z | none => M.stPart v1 v2) ∧ σ' = [some (.ref a), some (.ref b), some (.ref p1), some (.ref p2), some (.ref pc), some (.ref r1), some (.ref r2), some (.ref rc), some (ansV (M.stPart u1 u2)), some (ansV lo)]) ?r1 (fun k1 => ?_)
    case r1 =>
      rintro σ' G ⟨s7, lo, hlo, rfl⟩
      rw [← hlo] at kk
      have sA := (s12.trans s36).trans s7
      generalize M.stPart u1 u2 = sl at kk
      have give : ∀ (z : Int) (bb : Bool), M.both sl lo = some (z, bb) → ∀ t, G t = none → Q (.ref t) (upd G t (.tup [.int z, .bl bb])) := fun z bb e t ht => by
        refine kk _ _ (sA.trans (of_upd ht)) ?_
        rw [e]
        exact ⟨t, rfl, upd_same⟩
      have last : ∀ σ : L2.St, σ[9]? = some (some (ansV lo)) → (∀ y, lo = some y → M.both sl lo = some (y, false)) → (lo = none → M.both sl lo = none) → tRet (tIf (tB (tIsN (tVar 9))) (tC .non) (tTup (tCons (tVar 9) (tCons (tC (.bl false)) tNil)))) { nx := fun _ H' => Q .non H', rt := Q } σ G := fun σ hσ g1 g2 => by
        cases lo with
        | none =>
          refine ⟨_, hσ, _, rfl, iteT (kk _ _ sA ?_)⟩
          rw [g2 rfl]
          rfl
        | some y => exact ⟨_, hσ, _, rfl, iteF ⟨_, hσ, line2.1, fun t ht => give y false (g1 y rfl) t ht⟩⟩
      cases sl with
      | none => exact ⟨_, rfl, _, rfl, iteF (iteF (last _ rfl (fun y e => by subst e; rfl) (fun e => by subst e; rfl)))⟩
      | some x =>
        refine ⟨_, rfl, _, rfl, iteT ?_⟩
        cases lo with
        | none => exact ⟨_, rfl, _, rfl, iteT (iteT ⟨_, rfl, line2.1, fun t ht => give x true rfl t ht⟩)⟩
        | some y =>
          refine ⟨_, rfl, _, rfl, iteF ⟨_, rfl, _, rfl, _, _, rfl, rfl, _, rfl, ite2 (fun c => ?_) (fun c => ?_)⟩⟩
          · have c2 : x ≤ y := of_decide_eq_true c
            exact ⟨_, rfl, line2.1, fun t ht => give x true (by unfold M.both; dsimp only; rw [if_pos c2]) t ht⟩
          · have c2 : ¬ x ≤ y := fun z => c (decide_eq_true z)
            exact last _ rfl (fun z e => by cases e; unfold M.both; dsimp only; rw [if_neg c2]) (fun e => by cases e)
    cases e : chPart e1 e2 (M.leastT (v1 ++ v2)) with
    | none =>
      refine ⟨_, rfl, _, rfl, iteT ⟨_, rfl, _, rfl, p2, r2, v1, v2, xs2, ys2, rfl, s36 _ _ a4, s36 _ _ b4, a5.mono s36, b5.mono s36, fun G7 s7 => ?_⟩⟩
      exact k1 _ _ ⟨s7, _, by rw [e], rfl⟩
    | some z => exact ⟨_, rfl, _, rfl, iteF (k1 _ _ ⟨Same.refl _, _, by rw [e], rfl⟩)⟩
end
end CP

end
section
set_option autoImplicit false
set_option Elab.async false
set_option linter.all false
set_option maxRecDepth 100000
set_option maxHeartbeats 4000000
/-! ## plans as data; ways == with either answer -/
namespace CP
open PySem L2 G Y
mutual
/-- a plan as data -/
def dWay : M.Way → PyData
  | .mk h s => .tuple [.int (h : Int), .tuple (dSteps s)]
def dSteps : List M.Step → List PyData
  | [] => []
  | s :: r => dStep s :: dSteps r
def dStep : M.Step → PyData
  | .road size ts lw => .tuple [.str "road", .int (size : Int), .str (WP.sdS ts), .str (WP.lwS lw)]
  | .join most => .tuple [.str "join", .int (most : Int)]
  | .tunnel w most t => .tuple [.str "tunnel", dWay w, .int (most : Int), .str (WP.twS t)]
end
mutual
theorem dp_way {K : PySem.W.Frag} {H : Hp} : ∀ {w : M.Way} {v : V}, PlanAt H w v → Dp K H v (dWay w)
  | .mk h s, v, x => by
    unfold PlanAt at x
    unfold dWay
    obtain ⟨t, L, xs, rfl, h1, h2, h3⟩ := x
    exact .tup (SqT.of h1) (.cons (.int _) (.cons (.tup (SqT.of h2) (dp_steps h3)) .nil))
theorem dp_steps {K : PySem.W.Frag} {H : Hp} : ∀ {s : List M.Step} {xs : List V}, PlAll H s xs → DpAll K H xs (dSteps s)
  | [], xs, x => by
    unfold PlAll at x
    unfold dSteps
    subst x
    exact .nil
  | y :: r, xs, x => by
    unfold PlAll at x
    unfold dSteps
    obtain ⟨u, ys, rfl, h1, h2⟩ := x
    exact .cons (dp_step h1) (dp_steps h2)
theorem dp_step {K : PySem.W.Frag} {H : Hp} : ∀ {s : M.Step} {v : V}, PlStep H s v → Dp K H v (dStep s)
  | .road size ts lw, v, x => by
    unfold PlStep at x
    unfold dStep
    obtain ⟨t, rfl, h⟩ := x
    exact .tup (SqT.of h) (.cons (.str _) (.cons (.int _) (.cons (.str _) (.cons (.str _) .nil))))
  | .join most, v, x => by
    unfold PlStep at x
    unfold dStep
    obtain ⟨t, rfl, h⟩ := x
    exact .tup (SqT.of h) (.cons (.str _) (.cons (.int _) .nil))
  | .tunnel w most tw, v, x => by
    unfold PlStep at x
    unfold dStep
    obtain ⟨t, u, rfl, h, h2⟩ := x
    exact .tup (SqT.of h) (.cons (.str _) (.cons (dp_way h2) (.cons (.int _) (.cons (.str _) .nil))))
end
theorem lay_words : (∀ ts, (PyData.str (WP.sdS ts)).canLay0 = true) ∧ (∀ lw, (PyData.str (WP.lwS lw)).canLay0 = true) ∧ (∀ t, (PyData.str (WP.twS t)).canLay0 = true) ∧ (PyData.str "road").canLay0 = true ∧ (PyData.str "join").canLay0 = true ∧ (PyData.str "tunnel").canLay0 = true := by
  refine ⟨fun ts => ?_, fun lw => ?_, fun t => ?_, by decide +kernel, by decide +kernel, by decide +kernel⟩
  · cases ts <;> decide +kernel
  · cases lw <;> decide +kernel
  · cases t <;> decide +kernel
mutual
theorem lay_way : ∀ w : M.Way, (dWay w).canLay0 = true ∧ (dWay w).depth ≤ 3 * w.depth
  | .mk h s => by
    obtain ⟨a, b⟩ := lay_steps s
    unfold dWay M.Way.depth
    refine ⟨by simp only [PyData.canLay0, PyData.canLayAll0, a, Bool.and_self], ?_⟩
    simp only [PyData.depth, PyData.depthAll]
    omega
theorem lay_steps : ∀ s : List M.Step, PyData.canLayAll0 (dSteps s) = true ∧ PyData.depthAll (dSteps s) ≤ 3 * M.Step.deepest s + 1
  | [] => by
    unfold dSteps
    exact ⟨rfl, by simp only [PyData.depthAll]; omega⟩
  | y :: r => by
    obtain ⟨a, b⟩ := lay_step y
    obtain ⟨c, d⟩ := lay_steps r
    unfold dSteps
    rw [M.deep_cons]
    refine ⟨by simp only [PyData.canLayAll0, a, c, Bool.and_self], ?_⟩
    simp only [PyData.depthAll]
    omega
theorem lay_step : ∀ s : M.Step, (dStep s).canLay0 = true ∧ (dStep s).depth ≤ 3 * M.Step.dep s + 1
  | .road size ts lw => by
    unfold dStep
    refine ⟨by simp only [PyData.canLayAll0, show ∀ l, (PyData.tuple l).canLay0 = PyData.canLayAll0 l from fun l => by simp only [PyData.canLay0], lay_words.1, lay_words.2.1, lay_words.2.2.2.1, show (PyData.int (size : Int)).canLay0 = true from rfl, Bool.and_self], ?_⟩
    simp only [PyData.depth, PyData.depthAll]
    omega
  | .join most => by
    unfold dStep
    refine ⟨by simp only [PyData.canLayAll0, show ∀ l, (PyData.tuple l).canLay0 = PyData.canLayAll0 l from fun l => by simp only [PyData.canLay0], lay_words.2.2.2.2.1, show (PyData.int (most : Int)).canLay0 = true from rfl, Bool.and_self], ?_⟩
    simp only [PyData.depth, PyData.depthAll]
    omega
  | .tunnel w most t => by
    obtain ⟨a, b⟩ := lay_way w
    unfold dStep
    refine ⟨by simp only [PyData.canLayAll0, show ∀ l, (PyData.tuple l).canLay0 = PyData.canLayAll0 l from fun l => by simp only [PyData.canLay0], lay_words.2.2.1, lay_words.2.2.2.2.2, a, show (PyData.int (most : Int)).canLay0 = true from rfl, Bool.and_self], ?_⟩
    simp only [PyData.depth, PyData.depthAll]
    have e : M.Step.dep (.tunnel w most t) = w.depth := rfl
    omega
end
theorem shp_way {w : M.Way} (h : w.depth ≤ 3) : SeqAt.shaped (dWay w) = true := by
  obtain ⟨a, b⟩ := lay_way w
  unfold SeqAt.shaped
  rw [a, Bool.true_and]
  exact decide_eq_true (by omega)
theorem eqv_str {x y : Str} (h : PyData.eqv (.str x) (.str y) = true) : x = y := by
  simp only [PyData.eqv] at h
  exact eq_of_beq h
theorem eqv_nat {x y : Nat} (h : PyData.eqv (.int (x : Int)) (.int (y : Int)) = true) : x = y := by
  simp only [PyData.eqv] at h
  have := eq_of_beq h
  omega
theorem eqv_cons {x y : PyData} {xs ys : List PyData} (h : PyData.eqvAll (x :: xs) (y :: ys) = true) : PyData.eqv x y = true ∧ PyData.eqvAll xs ys = true := by
  simp only [PyData.eqvAll] at h
  exact Bool.and_eq_true_iff.mp h
theorem eqv_tp {xs ys : List PyData} (h : PyData.eqv (.tuple xs) (.tuple ys) = true) : PyData.eqvAll xs ys = true := by
  simp only [PyData.eqv] at h
  exact h
theorem sd_inj {a b : Bool} (h : WP.sdS a = WP.sdS b) : a = b := by
  cases a <;> cases b <;> first | rfl | exact absurd h (by decide +kernel)
theorem lw_inj {a b : M.LW} (h : WP.lwS a = WP.lwS b) : a = b := by
  cases a <;> cases b <;> first | rfl | exact absurd h (by decide +kernel)
theorem tw_inj {a b : M.TW} (h : WP.twS a = WP.twS b) : a = b := by
  cases a <;> cases b <;> first | rfl | exact absurd h (by decide +kernel)
theorem kinds_ne : ("road" : Str) ≠ "join" ∧ ("road" : Str) ≠ "tunnel" ∧ ("join" : Str) ≠ "road" ∧ ("join" : Str) ≠ "tunnel" ∧ ("tunnel" : Str) ≠ "road" ∧ ("tunnel" : Str) ≠ "join" := by decide +kernel
mutual
theorem way_inj : ∀ {w u : M.Way}, PyData.eqv (dWay w) (dWay u) = true → w = u
  | .mk h s, .mk g r, e => by
    unfold dWay at e
    obtain ⟨e1, e2⟩ := eqv_cons (eqv_tp e)
    obtain ⟨e3, _⟩ := eqv_cons e2
    rw [eqv_nat e1, steps_inj (eqv_tp e3)]
theorem steps_inj : ∀ {s r : List M.Step}, PyData.eqvAll (dSteps s) (dSteps r) = true → s = r
  | [], [], e => rfl
  | [], y :: r, e => by
    unfold dSteps at e
    simp only [PyData.eqvAll] at e
    cases e
  | x :: s, [], e => by
    unfold dSteps at e
    simp only [PyData.eqvAll] at e
    cases e
  | x :: s, y :: r, e => by
    unfold dSteps at e
    obtain ⟨e1, e2⟩ := eqv_cons e
    rw [step_inj e1, steps_inj e2]
theorem step_inj : ∀ {s r : M.Step}, PyData.eqv (dStep s) (dStep r) = true → s = r
  | .road a b c, .road a' b' c', e => by
    unfold dStep at e
    obtain ⟨_, e2⟩ := eqv_cons (eqv_tp e)
    obtain ⟨e3, e4⟩ := eqv_cons e2
    obtain ⟨e5, e6⟩ := eqv_cons e4
    obtain ⟨e7, _⟩ := eqv_cons e6
    rw [eqv_nat e3, sd_inj (eqv_str e5), lw_inj (eqv_str e7)]
  | .join a, .join b, e => by
    unfold dStep at e
    obtain ⟨_, e2⟩ := eqv_cons (eqv_tp e)
    obtain ⟨e3, _⟩ := eqv_cons e2
    rw [eqv_nat e3]
  | .tunnel w a b, .tunnel w' a' b', e => by
    unfold dStep at e
    obtain ⟨_, e2⟩ := eqv_cons (eqv_tp e)
    obtain ⟨e3, e4⟩ := eqv_cons e2
    obtain ⟨e5, e6⟩ := eqv_cons e4
    obtain ⟨e7, _⟩ := eqv_cons e6
    rw [way_inj e3, eqv_nat e5, tw_inj (eqv_str e7)]
  | .road a b c, .join d, e => by unfold dStep at e; exact absurd (eqv_str (eqv_cons (eqv_tp e)).1) kinds_ne.1
  | .road a b c, .tunnel x y z, e => by unfold dStep at e; exact absurd (eqv_str (eqv_cons (eqv_tp e)).1) kinds_ne.2.1
  | .join d, .road a b c, e => by unfold dStep at e; exact absurd (eqv_str (eqv_cons (eqv_tp e)).1) kinds_ne.2.2.1
  | .join d, .tunnel x y z, e => by unfold dStep at e; exact absurd (eqv_str (eqv_cons (eqv_tp e)).1) kinds_ne.2.2.2.1
  | .tunnel x y z, .road a b c, e => by unfold dStep at e; exact absurd (eqv_str (eqv_cons (eqv_tp e)).1) kinds_ne.2.2.2.2.1
  | .tunnel x y z, .join d, e => by unfold dStep at e; exact absurd (eqv_str (eqv_cons (eqv_tp e)).1) kinds_ne.2.2.2.2.2
end
theorem eqv_rfl (w : M.Way) : PyData.eqv (dWay w) (dWay w) = true := SeqAt.eqv_refl _ (lay_way w).1
def weq (a b : M.Way) : Bool := PyData.eqv (dWay a) (dWay b)
def seq (a b : M.Step) : Bool := PyData.eqv (dStep a) (dStep b)
theorem weq_iff {a b : M.Way} : weq a b = true ↔ a = b := ⟨way_inj, fun e => by rw [e]; exact eqv_rfl b⟩
theorem seq_refl (a : M.Step) : seq a a = true := SeqAt.eqv_refl _ (lay_step a).1
theorem seq_iff {a b : M.Step} : seq a b = true ↔ a = b := ⟨step_inj, fun e => by rw [e]; exact seq_refl b⟩
theorem all_steps : ∀ (s r : List M.Step), PyData.eqvAll (dSteps s) (dSteps r) = ((List.zipWith seq s r).all id && decide (s.length = r.length))
  | [], [] => by unfold dSteps; rfl
  | [], y :: r => by
    unfold dSteps
    simp only [PyData.eqvAll, List.zipWith_nil_left, List.length_nil, List.length_cons]
    simp
  | x :: s, [] => by
    unfold dSteps
    simp only [PyData.eqvAll, List.zipWith_nil_right, List.length_nil, List.length_cons]
    simp
  | x :: s, y :: r => by
    have ih := all_steps s r
    unfold dSteps
    simp only [PyData.eqvAll, List.zipWith_cons_cons, List.all_cons, id, List.length_cons, Nat.add_right_cancel_iff]
    rw [ih, Bool.and_assoc]
    rfl
theorem weq_mk (h g : Nat) (s r : List M.Step) : weq (.mk h s) (.mk g r) = (decide (h = g) && ((List.zipWith seq s r).all id && decide (s.length = r.length))) := by
  unfold weq dWay
  simp only [PyData.eqv, PyData.eqvAll, Bool.and_true]
  rw [all_steps]
  congr 1
  by_cases e : h = g
  · subst e
    simp
  · rw [decide_eq_false e]
    exact beq_eq_false_iff_ne.mpr (by omega)
end CP
namespace WP
open PySem L2 G
mutual
/-- what stands at a place is one way -/
theorem way_fun {C : Addr} {H : Hp} : ∀ {w u : M.Way} {a : Addr}, WayAt C H w a → WayAt C H u a → w = u
  | .mk h s, .mk g r, a, x, y => by
    unfold WayAt at x y
    obtain ⟨dx, t, xs, a1, a2, a3⟩ := x
    obtain ⟨dy, u, ys, b1, b2, b3⟩ := y
    rw [a1] at b1
    have e := HO.ins.inj (Option.some.inj b1)
    have e1 := flds_head (h : Int) t ((1 + M.Step.deepest s : Nat) : Int) ((s.length + M.Step.inner s : Nat) : Int)
    have e2 := flds_steps (h : Int) t ((1 + M.Step.deepest s : Nat) : Int) ((s.length + M.Step.inner s : Nat) : Int)
    rw [e.2.2, flds_head] at e1
    rw [e.2.2, flds_steps] at e2
    have e1 := V.int.inj (Option.some.inj e1)
    have e2 := V.ref.inj (Option.some.inj e2)
    subst e2
    rw [a2] at b2
    cases b2
    rw [show h = g by omega, steps_fun a3 b3]
theorem steps_fun {C : Addr} {H : Hp} : ∀ {s r : List M.Step} {xs : List V}, StepsAt C H s xs → StepsAt C H r xs → s = r
  | [], [], xs, _, _ => rfl
  | [], y :: r, xs, a, b => by
    unfold StepsAt at a b
    obtain ⟨_, _, e, _⟩ := b
    rw [a] at e
    cases e
  | x :: s, [], xs, a, b => by
    unfold StepsAt at a b
    obtain ⟨_, _, e, _⟩ := a
    rw [b] at e
    cases e
  | x :: s, y :: r, xs, a, b => by
    unfold StepsAt at a b
    obtain ⟨u, us, rfl, a1, a2⟩ := a
    obtain ⟨v, vs, e, b1, b2⟩ := b
    cases e
    rw [step_fun a1 b1, steps_fun a2 b2]
theorem step_fun {C : Addr} {H : Hp} : ∀ {s r : M.Step} {x : V}, StepAt C H s x → StepAt C H r x → s = r
  | .road a b c, .road a' b' c', x, h, k => by
    unfold StepAt at h k
    obtain ⟨t, rfl, h⟩ := h
    obtain ⟨u, e, k⟩ := k
    cases e
    rw [h] at k
    have e := HO.tup.inj (Option.some.inj k)
    simp only [List.cons.injEq, V.int.injEq, V.str.injEq, and_true, true_and] at e
    rw [show a = a' by omega, CP.sd_inj e.2.1, CP.lw_inj e.2.2]
  | .join a, .join b, x, h, k => by
    unfold StepAt at h k
    obtain ⟨t, rfl, h⟩ := h
    obtain ⟨u, e, k⟩ := k
    cases e
    rw [h] at k
    have e := HO.tup.inj (Option.some.inj k)
    simp only [List.cons.injEq, V.int.injEq, and_true, true_and] at e
    rw [show a = b by omega]
  | .tunnel w a b, .tunnel w' a' b', x, h, k => by
    unfold StepAt at h k
    obtain ⟨t, i, rfl, h, h2⟩ := h
    obtain ⟨u, j, e, k, k2⟩ := k
    cases e
    rw [h] at k
    have e := HO.tup.inj (Option.some.inj k)
    simp only [List.cons.injEq, V.int.injEq, V.str.injEq, V.ref.injEq, and_true, true_and] at e
    obtain ⟨e1, e2, e3⟩ := e
    subst e1
    rw [way_fun h2 k2, show a = a' by omega, CP.tw_inj e3]
  | .road a b c, .join d, x, h, k => by
    unfold StepAt at h k
    obtain ⟨t, rfl, h⟩ := h
    obtain ⟨u, e, k⟩ := k
    cases e
    rw [h] at k
    exact absurd (congrArg List.length (HO.tup.inj (Option.some.inj k))) (by simp)
  | .join d, .road a b c, x, h, k => by
    unfold StepAt at h k
    obtain ⟨t, rfl, h⟩ := h
    obtain ⟨u, e, k⟩ := k
    cases e
    rw [h] at k
    exact absurd (congrArg List.length (HO.tup.inj (Option.some.inj k))) (by simp)
  | .tunnel w a b, .join d, x, h, k => by
    unfold StepAt at h k
    obtain ⟨t, i, rfl, h, _⟩ := h
    obtain ⟨u, e, k⟩ := k
    cases e
    rw [h] at k
    exact absurd (congrArg List.length (HO.tup.inj (Option.some.inj k))) (by simp)
  | .join d, .tunnel w a b, x, h, k => by
    unfold StepAt at h k
    obtain ⟨t, rfl, h⟩ := h
    obtain ⟨u, i, e, k, _⟩ := k
    cases e
    rw [h] at k
    exact absurd (congrArg List.length (HO.tup.inj (Option.some.inj k))) (by simp)
  | .road a b c, .tunnel w d e0, x, h, k => by
    unfold StepAt at h k
    obtain ⟨t, rfl, h⟩ := h
    obtain ⟨u, i, e, k, _⟩ := k
    cases e
    rw [h] at k
    have e := HO.tup.inj (Option.some.inj k)
    simp only [List.cons.injEq, V.str.injEq] at e
    exact absurd e.1 (by decide +kernel)
  | .tunnel w d e0, .road a b c, x, h, k => by
    unfold StepAt at h k
    obtain ⟨t, i, rfl, h, _⟩ := h
    obtain ⟨u, e, k⟩ := k
    cases e
    rw [h] at k
    have e := HO.tup.inj (Option.some.inj k)
    simp only [List.cons.injEq, V.str.injEq] at e
    exact absurd e.1 (by decide +kernel)
end
end WP

end
section
set_option autoImplicit false
set_option Elab.async false
set_option linter.all false
set_option maxRecDepth 100000
set_option maxHeartbeats 4000000
/-! ## alike -/
namespace CP
open PySem L2 G Y
def stB (s s' : M.Stair) : Bool := [eqV (.int s.1) (.int s'.1), eqV (ansV s.2) (ansV s'.2)].all id && true
def ssB (a b : List M.Stair) : Bool := (List.zipWith stB a b).all id && decide (a.length = b.length)
theorem eqv_self (o : Option Int) : eqV (ansV o) (ansV o) = true := by
  cases o <;> simp [ansV, eqV]
theorem st_self (s : M.Stair) : stB s s = true := by
  unfold stB
  rw [show eqV (V.int s.1) (V.int s.1) = true by simp [eqV], eqv_self]
  rfl
theorem ss_self : ∀ a : List M.Stair, ssB a a = true := fun a => by
  unfold ssB
  rw [decide_eq_true rfl, Bool.and_true, List.all_eq_true]
  intro x hx
  obtain ⟨i, hi, rfl⟩ := List.getElem_of_mem hx
  rw [List.getElem_zipWith]
  exact st_self _
def BSt (K : PySem.W.Frag) : EB.Cmp := EB.BSm (EB.BTup K EB.BFlat)
def BIt (K : PySem.W.Frag) (C : Addr) : EB.Cmp := fun x y c H => EB.BSm (EB.BTup K (BSt K)) x y c H ∨ EB.BSm (EB.BCh C) x y c H
theorem ans_flat (o : Option Int) : flatV (ansV o) = true := by cases o <;> rfl
theorem ans_inj {o p : Option Int} (h : ansV o = ansV p) : o = p := by
  cases o <;> cases p
  · rfl
  · cases h
  · cases h
  · cases h
    rfl
theorem st_cmp {K : PySem.W.Frag} {H : Hp} {s s' : M.Stair} {x y : V} (h : SAt H s x) (h2 : SAt H s' y) : BSt K x y (stB s s') H := by
  obtain ⟨t, rfl, f1⟩ := h
  obtain ⟨u, rfl, f2⟩ := h2
  refine ⟨⟨t, u, _, _, [eqV (.int s.1) (.int s'.1), eqV (ansV s.2) (ansV s'.2)], rfl, rfl, SqT.of f1, SqT.of f2, ⟨rfl, fun i x y c _ g1 g2 g3 => ?_⟩, rfl⟩, fun e => ?_⟩
  · match i, g1, g2, g3 with
    | 0, g1, g2, g3 =>
      cases g1
      cases g2
      cases g3
      exact ⟨rfl, rfl, rfl⟩
    | 1, g1, g2, g3 =>
      cases g1
      cases g2
      cases g3
      exact ⟨ans_flat _, ans_flat _, rfl⟩
    | i + 2, g1, _, _ => cases g1
  · cases e
    rw [f1] at f2
    injection f2 with f2
    injection f2 with f2
    injection f2 with e1 e2
    injection e1 with e1
    injection e2 with e2 _
    have e3 := ans_inj e2
    rw [show s = s' from Prod.ext e1 e3]
    exact st_self _
theorem ss_at {K : PySem.W.Frag} {H : Hp} : ∀ {a b : List M.Stair} {xs ys : List V}, SsAt H a xs → SsAt H b ys → ∀ (i : Nat) x y c, xs[i]? = some x → ys[i]? = some y → (List.zipWith stB a b)[i]? = some c → BSt K x y c H
  | a, b, xs, ys, h1, h2, i, x, y, c, g1, g2, g3 => by
    obtain ⟨p, hp, px⟩ := h1.get g1
    obtain ⟨q, hq, py⟩ := h2.get g2
    rw [List.getElem?_zipWith, hp, hq] at g3
    cases g3
    exact st_cmp px py
theorem ss_inj {H : Hp} {xs : List V} : ∀ {a b : List M.Stair}, SsAt H a xs → SsAt H b xs → a = b := by
  intro a b h
  induction h generalizing b with
  | nil =>
    intro h2
    cases h2
    rfl
  | cons e _ ih =>
    intro h2
    cases h2 with
    | cons e2 h2 =>
      rw [ih h2]
      obtain ⟨t, rfl, f1⟩ := e
      obtain ⟨u, e3, f2⟩ := e2
      cases e3
      rw [f1] at f2
      injection f2 with f2
      injection f2 with f2
      injection f2 with e1 e2
      injection e1 with e1
      injection e2 with e2 _
      rw [Prod.ext e1 (ans_inj e2)]
theorem ss_cmp {K : PySem.W.Frag} {H : Hp} {a b : List M.Stair} {xs ys : List V} {t u : Addr} (h1 : H t = some (.tup xs)) (h2 : H u = some (.tup ys)) (h3 : SsAt H a xs) (h4 : SsAt H b ys) : EB.BSm (EB.BTup K (BSt K)) (.ref t) (.ref u) (ssB a b) H := by
  refine ⟨⟨t, u, xs, ys, List.zipWith stB a b, rfl, rfl, SqT.of h1, SqT.of h2, ⟨by rw [List.length_zipWith, h3.len, h4.len], fun i x y c _ => ss_at h3 h4 i x y c⟩, ?_⟩, fun e => ?_⟩
  · unfold ssB
    rw [h3.len, h4.len]
  · cases e
    rw [h1] at h2
    injection h2 with h2
    injection h2 with h2
    subst h2
    rw [ss_inj h3 h4]
    exact ss_self _
def alikeW (L : Option Int) (w1 w2 : M.Way) : Bool := [ssB (M.Way.stairs true L w1) (M.Way.stairs true L w2), ssB (M.Way.stairs false L w1) (M.Way.stairs false L w2), decide (fch w1 L = fch w2 L)].all id && true
theorem ni_inj : ∀ {a b : List Nat}, ni a = ni b → a = b
  | [], [], _ => rfl
  | [], _ :: _, h => by cases h
  | _ :: _, [], h => by cases h
  | x :: a, y :: b, h => by
    have h : V.int ((x : Nat) : Int) :: ni a = V.int ((y : Nat) : Int) :: ni b := h
    injection h with h1 h2
    injection h1 with h1
    rw [ni_inj h2, Int.ofNat.inj h1]
theorem ch_inj {C : Addr} {H : Hp} {l m : List Nat} {a : Addr} (h : ChAt C H l a) (h2 : ChAt C H m a) : l = m := by
  obtain ⟨dx, t, u, a1, a2, a3⟩ := h
  obtain ⟨dy, t', u', b1, b2, b3⟩ := h2
  rw [a1] at b1
  injection b1 with b1
  injection b1 with b1 b4 b5
  have e := congrArg (List.lookup ("cuts" : Str)) b5
  rw [cfl_cuts, cfl_cuts] at e
  injection e with e
  injection e with e
  subst e
  rw [a2] at b2
  injection b2 with b2
  injection b2 with b2
  exact ni_inj b2
theorem ch_cmp {C : Addr} {H : Hp} {l m : List Nat} {a b : Addr} (h : ChAt C H l a) (h2 : ChAt C H m b) : EB.BSm (EB.BCh C) (.ref a) (.ref b) (decide (l = m)) H :=
  ⟨⟨a, b, l, m, rfl, rfl, h, h2, rfl⟩, fun e => by
    cases e
    exact decide_eq_true (ch_inj h h2)⟩
theorem form_cmp {K : PySem.W.Frag} {C : Addr} {H : Hp} {L : Option Int} {w1 w2 : M.Way} {t u : Addr} (h1 : FormAt C H L w1 t) (h2 : FormAt C H L w2 u) : EB.BTup K (BIt K C) (.ref t) (.ref u) (alikeW L w1 w2) H := by
  obtain ⟨s1, s2, c, xs1, xs2, a1, a2, a3, a4, a5, a6⟩ := h1
  obtain ⟨r1, r2, d, ys1, ys2, b1, b2, b3, b4, b5, b6⟩ := h2
  refine ⟨t, u, _, _, [ssB (M.Way.stairs true L w1) (M.Way.stairs true L w2), ssB (M.Way.stairs false L w1) (M.Way.stairs false L w2), decide (fch w1 L = fch w2 L)], rfl, rfl, SqT.of a1, SqT.of b1, ⟨rfl, fun i x y c _ g1 g2 g3 => ?_⟩, rfl⟩
  match i, g1, g2, g3 with
  | 0, g1, g2, g3 =>
    cases g1
    cases g2
    cases g3
    exact .inl (ss_cmp a2 b2 a3 b3)
  | 1, g1, g2, g3 =>
    cases g1
    cases g2
    cases g3
    exact .inl (ss_cmp a4 b4 a5 b5)
  | 2, g1, g2, g3 =>
    cases g1
    cases g2
    cases g3
    exact .inr (ch_cmp a6 b6)
  | i + 3, g1, _, _ => cases g1
theorem mon_it2 (K : PySem.W.Frag) (C : Addr) : EB.MonB (BIt K C) := EB.mon_or (EB.mon_sm (EB.mon_tup (EB.mon_sm (EB.mon_tup EB.mon_flat)))) (EB.mon_sm EB.mon_ch)
theorem rcB_form {X : Cx} {C f : Addr} {fd : FuncData} (F : FnOk X.prog X.w X.K X.mg X.base CX0 1 f fd ["self", "other"] (EB.spEqC C)) (O : WO.Own X.K C f "__eq__") (b : Binds X.K fd ["self", "other"] []) : EB.RcB X 3 (EB.BTup X.K (BIt X.K C)) :=
  EB.rcB_tup (mon_it2 _ _) ((EB.eqB_tup (EB.mon_sm (EB.mon_tup EB.mon_flat)) (EB.eqB_tup EB.mon_flat EB.eqB_flat)).or (((EB.rcB_ch F O b).eqB fun _ _ _ _ d => let ⟨a, b, _, _, hx, hy, _⟩ := d; ⟨a, b, hx, hy⟩).mono (by decide)))
theorem eqv_tups (l m : List Nat) : PyData.eqv (.tuple (l.map dI)) (.tuple (m.map dI)) = decide (l = m) := by
  rw [show PyData.eqv (.tuple (l.map dI)) (.tuple (m.map dI)) = PyData.eqvAll (l.map dI) (m.map dI) by simp [PyData.eqv]]
  induction l generalizing m with
  | nil => cases m <;> simp [PyData.eqvAll]
  | cons x l ih =>
    cases m with
    | nil => simp [PyData.eqvAll]
    | cons y m =>
      simp only [List.map_cons, PyData.eqvAll, ih m]
      have e : PyData.eqv (dI x) (dI y) = decide (x = y) := by
        show PyData.eqv (.int (x : Int)) (.int (y : Int)) = _
        by_cases h : x = y
        · simp [h, PyData.eqv]
        · have : (x : Int) ≠ (y : Int) := by omega
          simp [h, this, PyData.eqv]
      rw [e]
      by_cases h : x = y <;> by_cases h2 : l = m <;> simp [h, h2]
section
variable {P : Program} {w : World} {K : PySem.W.Frag} {mg : Str → Option Value} {base : Heap} {C CW : Addr}
theorem ok_eqc {f : Addr} {fd : FuncData} (F : Fun K "__eq__" "Chain.__eq__" sCEq f fd) (B : Bn mg) (T : Ct K mg C) (T2 : Cn2 K C) : FnOk P w K mg base CX0 1 f fd ["self", "other"] (EB.spEqC C) := by
  refine F.ok scEq (fun vs H Q E h => ?_) (fun cdv A outer s H vs Q E hr h => ?_)
  · obtain ⟨a, b, l, m, rfl, _⟩ := h
    rfl
  · obtain ⟨a, b, l, m, rfl, ha, hb, k⟩ := h
    refine ⟨_, pss_one (ps_ret (pe_and (pe_callB call_isi (by rfl) B.isi (by decide +kernel) (pa_cons (pv 1) (pa_cons (pe_glob (v := .ref C) rfl T.g rfl) pa_nil)))
      (pe_one (pe_cmpR (op_eqD hr.units) (pe_fld (pv 0) rfl) (pe_fld (pv 1) rfl) (nomark _))))), ?_⟩
    obtain ⟨dx, t, u, h1, h2, h3⟩ := ha
    obtain ⟨dy, t', u', g1, g2, g3⟩ := hb
    refine ⟨_, rfl, _, _, _, _, true, rfl, .own C, .base (.ins g1 T.cl T2.iA T2.iN T2.iT T2.iM), ?_, _, rfl, iteT ⟨_, rfl, a, C, dx, _, _, rfl, h1, T.cl, T.nC, cfl_cuts t u, _, rfl, b, C, dy, _, _, rfl, g1, T.cl, T.nC, cfl_cuts t' u', ?_⟩⟩
    · unfold PySem.W.kitOne
      rw [if_pos (by simp)]
    · exact ⟨_, _, .tup (SqT.of h2) (dp_ints l), .tup (SqT.of g2) (dp_ints m), shp_tup l, shp_tup m, by rw [eqv_tups]; exact k _ (Same.refl _)⟩
def spAlike (CW : Addr) (n : Nat) : Sp := fun vs H Q _ => ∃ (a b : Addr) (w1 w2 : M.Way) (L : Option Int), vs = [.ref a, .ref b, lmV L] ∧ WP.WayAt CW H w1 a ∧ WP.WayAt CW H w2 b ∧ M.Way.fine w1 ∧ M.Way.fine w2 ∧ w1.depth ≤ n ∧ w2.depth ≤ n ∧ (∀ z, L = some z → 0 ≤ z) ∧ ∀ H', Same H H' → Q (.bl (alikeW L w1 w2)) H'
theorem scAk : FnScope ["first", "second", "upto"] ["first", "second", "upto"] (defScope sAlike) := ⟨rfl, rfl, rfl, by decide +kernel, rfl, by decide +kernel, by decide +kernel⟩
theorem ok_alike {k n : Nat} {f : Addr} {fd : FuncData} (F : Fun K "alike" "alike" sAlike f fd) (hk : 3 ≤ k) (DF : Df1 P w K mg base k (spForm C CW n)) (DE : Oe P w K mg base C 1 "__eq__" ["self", "other"] (EB.spEqC C)) : FnOk P w K mg base CX0 (k + 1) f fd ["first", "second", "upto"] (spAlike CW n) := by
  obtain ⟨fF, fdF, GF, gF, kF, kbF, bF⟩ := DF.ex
  obtain ⟨fE, fdE, GE, OE, bE⟩ := DE.ex
  refine F.ok scAk (fun vs H Q E h => ?_) (fun cdv A outer s H vs Q E hr h => ?_)
  · obtain ⟨a, b, w1, w2, L, rfl, _⟩ := h
    rfl
  · obtain ⟨a, b, w1, w2, L, rfl, h1, h2, f1, f2, d1, d2, hL, kk⟩ := h
    refine ⟨_, pss_one (ps_ret (pe_cmpR (EB.op_eqB (rcB_form GE OE bE) (hr.mono (by omega))) (pe_callK GF hr rfl gF kF kbF pass0 (pa_cons (pv 0) pa_nil) (pk_cons (pv 2) pk_nil)) (pe_callK GF hr rfl gF kF kbF pass0 (pa_cons (pv 1) pa_nil) (pk_cons (pv 2) pk_nil)) (nomark _))), ?_⟩
    refine ⟨_, rfl, _, rfl, a, w1, L, rfl, h1, f1, d1, hL, fun t1 G1 s1 k1 => ⟨_, rfl, _, rfl, b, w2, L, rfl, h2.mono s1, f2, d2, hL, fun t2 G2 s2 k2 => ?_⟩⟩
    exact ⟨_, form_cmp (FormAt.mono s2 k1) k2, fun H' e => kk H' ((s1.trans s2).trans e)⟩
end
end CP

end
section
set_option autoImplicit false
set_option Elab.async false
set_option linter.all false
set_option maxRecDepth 100000
set_option maxHeartbeats 4000000
/-! ## lean; a way as its plan -/
namespace M
theorem inner_app : ∀ (a b : List Step), Step.inner (a ++ b) = Step.inner a + Step.inner b
  | [], b => by
    show Step.inner b = Step.inner [] + Step.inner b
    rw [show Step.inner [] = 0 by unfold Step.inner; rfl, Nat.zero_add]
  | s :: a, b => by
    show Step.inner (s :: (a ++ b)) = _
    rw [inner_cons, inner_cons, inner_app a b]
    omega
theorem deep_app : ∀ (a b : List Step), Step.deepest (a ++ b) = max (Step.deepest a) (Step.deepest b)
  | [], b => by
    show Step.deepest b = max (Step.deepest []) (Step.deepest b)
    rw [show Step.deepest [] = 0 by unfold Step.deepest; rfl, Nat.zero_max]
  | s :: a, b => by
    show Step.deepest (s :: (a ++ b)) = _
    rw [deep_cons, deep_cons, deep_app a b, Nat.max_assoc]
theorem all_app {h : Nat} : ∀ (a b : List Step), Step.fineAll h (a ++ b) ↔ Step.fineAll h a ∧ Step.fineAll h b
  | [], b => by
    constructor
    · intro q
      exact ⟨by unfold Step.fineAll; trivial, q⟩
    · intro q
      exact q.2
  | s :: a, b => by
    have e : Step.fineAll h (s :: (a ++ b)) ↔ Step.fine h s ∧ Step.fineAll h (a ++ b) := by
      conv => lhs; unfold Step.fineAll
    have e2 : Step.fineAll h (s :: a) ↔ Step.fine h s ∧ Step.fineAll h a := by
      conv => lhs; unfold Step.fineAll
    show Step.fineAll h (s :: (a ++ b)) ↔ _
    rw [e, e2, all_app a b]
    exact and_assoc.symm
/-- a way without one of its steps -/
theorem fine_cut {h i : Nat} {s : List Step} (f : Way.fine (.mk h s)) (hi : i < s.length) (h2 : 2 ≤ s.length) : Way.fine (.mk h (s.take i ++ s.drop (i + 1))) ∧ Way.depth (.mk h (s.take i ++ s.drop (i + 1))) ≤ Way.depth (.mk h s) := by
  have e : s = s.take i ++ (s[i] :: s.drop (i + 1)) := by
    rw [← List.drop_eq_getElem_cons hi, List.take_append_drop]
  have a1 := inner_app (s.take i) (s[i] :: s.drop (i + 1))
  have a2 := inner_app (s.take i) (s.drop (i + 1))
  have b1 := deep_app (s.take i) (s[i] :: s.drop (i + 1))
  have b2 := deep_app (s.take i) (s.drop (i + 1))
  rw [← e] at a1 b1
  rw [inner_cons] at a1
  rw [deep_cons] at b1
  unfold Way.fine at f ⊢
  unfold Way.depth
  obtain ⟨hh, hl, hall, hd, hz⟩ := f
  have c : Step.fineAll h (s.take i) ∧ Step.fineAll h (s.drop (i + 1)) := by
    rw [e] at hall
    obtain ⟨c1, c2⟩ := (all_app _ _).mp hall
    unfold Step.fineAll at c2
    exact ⟨c1, c2.2⟩
  have ll : (s.take i ++ s.drop (i + 1)).length = s.length - 1 := by
    rw [List.length_append, List.length_take, List.length_drop]
    omega
  exact ⟨⟨hh, by omega, (all_app _ _).mpr c, by omega, by omega⟩, by omega⟩
theorem cut_len {i : Nat} {s : List Step} (hi : i < s.length) : (s.take i ++ s.drop (i + 1)).length = s.length - 1 := by
  rw [List.length_append, List.length_take, List.length_drop]
  omega
abbrev Reason := Nat × Int × Bool
def leanStep (wy : Way) (st : List Step × List Reason) (pos : Nat) : List Step × List Reason :=
  if st.1.length = 1 then st else match CP.partW wy (.mk wy.head (st.1.take pos ++ st.1.drop (pos + 1))) with
    | none => (st.1.take pos ++ st.1.drop (pos + 1), st.2)
    | some q => (st.1, st.2 ++ [(pos, q.1, q.2)])
def posns (n : Nat) : List Nat := (List.range n).reverse
theorem pos_at {n i : Nat} (h : i < n) : (posns n)[i]? = some (n - 1 - i) := by
  unfold posns
  rw [List.getElem?_reverse (by rw [List.length_range]; exact h), List.length_range, List.getElem?_range (by omega)]
theorem pos_len (n : Nat) : (posns n).length = n := by
  unfold posns
  rw [List.length_reverse, List.length_range]
def leanW (wy : Way) : List Step × List Reason := (posns wy.steps.length).foldl (leanStep wy) (wy.steps, [])
theorem lean_one {wy : Way} {st : List Step × List Reason} (h : st.1.length = 1) : ∀ l : List Nat, l.foldl (leanStep wy) st = st
  | [] => rfl
  | x :: l => by
    rw [List.foldl_cons, show leanStep wy st x = st by unfold leanStep; rw [if_pos h]]
    exact lean_one h l
theorem fold_split {α β : Type} (f : β → α → β) (b : β) (l : List α) (i : Nat) : l.foldl f b = (l.drop i).foldl f ((l.take i).foldl f b) := by
  rw [← List.foldl_append, List.take_append_drop]
end M
namespace CP
open PySem L2 G Y
abbrev sLean : Stmt := S.top 52
abbrev sLike : Stmt := S.top 78
/-! ### how great the bodies are at which ways part -/
theorem stairs_mem (L : Option Int) : ∀ (l : List M.Gate) (acc : List M.Stair), ∀ s ∈ l.foldl (M.stStep L) acc, s ∈ acc ∨ ∃ g ∈ l, s.1 = g.thr
  | [], acc, s, h => .inl h
  | g :: l, acc, s, h => by
    rcases stairs_mem L l (M.stStep L acc g) s h with h | ⟨g2, h2, e⟩
    · unfold M.stStep at h
      split at h
      · exact .inl h
      · rcases List.mem_append.mp h with h | h
        · split at h
          · exact .inl ((List.dropLast_sublist _).subset h)
          · exact .inl h
        · rw [List.mem_singleton.mp h]
          exact .inr ⟨g, List.mem_cons_self, rfl⟩
    · exact .inr ⟨g2, List.mem_cons_of_mem _ h2, e⟩
theorem stairs_thr {se : Bool} {L : Option Int} {wy : M.Way} (hf : wy.fine) : ∀ s ∈ M.Way.stairs se L wy, -1 ≤ s.1 ∧ s.1 ≤ 1000000000000000 := fun s h => by
  rcases stairs_mem L (M.Way.lows se wy) [] s h with h | ⟨g, hg, e⟩
  · cases h
  · have b := M.Way.gb se wy hf g (M.Way.lows_mem hg)
    rw [e]
    exact ⟨b.lo, b.hi⟩
def BZ (o : Option Int) : Prop := ∀ z, o = some z → z.natAbs < 100000000000000000
theorem stPart_bz {a b : List M.Stair} (ha : ∀ s ∈ a, -1 ≤ s.1 ∧ s.1 ≤ 1000000000000000) (hb : ∀ s ∈ b, -1 ≤ s.1 ∧ s.1 ≤ 1000000000000000) : BZ (M.stPart a b) := fun z h => by
  have ra : ∀ {i : Nat} {s : M.Stair}, a.reverse[i]? = some s → -1 ≤ s.1 ∧ s.1 ≤ 1000000000000000 := fun e => ha _ (List.mem_reverse.mp (List.mem_of_getElem? e))
  have rb : ∀ {i : Nat} {s : M.Stair}, b.reverse[i]? = some s → -1 ≤ s.1 ∧ s.1 ≤ 1000000000000000 := fun e => hb _ (List.mem_reverse.mp (List.mem_of_getElem? e))
  unfold M.stPart at h
  split at h
  · split at h
    · rename_i x y e1 e2
      have h1 := ra e1
      have h2 := rb e2
      cases h
      omega
    · cases h
  · split at h
    · cases e : a.reverse[min a.length b.length]? with
      | none =>
        rw [e] at h
        cases h
      | some s =>
        rw [e] at h
        have := ra e
        cases h
        show (s.1 + 1).natAbs < _
        omega
    · cases e : b.reverse[min a.length b.length]? with
      | none =>
        rw [e] at h
        cases h
      | some s =>
        rw [e] at h
        have := rb e
        cases h
        show (s.1 + 1).natAbs < _
        omega
theorem both_bz {s l : Option Int} (h1 : BZ s) (h2 : BZ l) (z : Int) (b : Bool) (h : M.both s l = some (z, b)) : z.natAbs < 100000000000000000 := by
  unfold M.both at h
  split at h
  · cases h
    exact h1 _ rfl
  · split at h
    · cases h
      exact h1 _ rfl
    · cases h
      exact h2 _ rfl
  · cases h
    exact h2 _ rfl
  · cases h
theorem part_bz {w1 w2 : M.Way} (f1 : w1.fine) (f2 : w2.fine) (z : Int) (b : Bool) (h : partW w1 w2 = some (z, b)) : z.natAbs < 100000000000000000 := by
  unfold partW at h
  refine both_bz (stPart_bz (stairs_thr f1) (stairs_thr f2)) ?_ z b h
  intro y hy
  split at hy
  · rename_i x e
    cases hy
    unfold chPart at e
    cases e2 : ldf (fch w1 none) (fch w2 none) (M.leastT (M.Way.stairs false none w1 ++ M.Way.stairs false none w2)) with
    | none =>
      rw [e2] at e
      cases e
    | some p =>
      rw [e2] at e
      have := ldf_le (fch_cuts f1 none) (fch_cuts f2 none) e2
      cases e
      show (((p : Nat) : Int) + 1).natAbs < _
      omega
  · exact stPart_bz (stairs_thr f1) (stairs_thr f2) y hy
def RB (r : M.Reason) : Prop := r.1 ≤ 12 ∧ r.2.1.natAbs < 100000000000000000
def RAt (H : Hp) (r : M.Reason) (v : V) : Prop := ∃ t, v = .ref t ∧ H t = some (.tup [.int ((r.1 : Nat) : Int), .int r.2.1, .bl r.2.2])
inductive RsAt (H : Hp) : List M.Reason → List V → Prop
  | nil : RsAt H [] []
  | cons {g : M.Reason} {l : List M.Reason} {v : V} {xs : List V} : RAt H g v → RsAt H l xs → RsAt H (g :: l) (v :: xs)
theorem RsAt.mono {H H' : Hp} (s : Same H H') {l : List M.Reason} {xs : List V} (h : RsAt H l xs) : RsAt H' l xs := by
  induction h with
  | nil => exact .nil
  | cons e _ ih =>
    obtain ⟨t, e, h1⟩ := e
    exact .cons ⟨t, e, s _ _ h1⟩ ih
theorem RsAt.keep {H H' : Hp} (s : KeepT H H') {l : List M.Reason} {xs : List V} (h : RsAt H l xs) : RsAt H' l xs := by
  induction h with
  | nil => exact .nil
  | cons e _ ih =>
    obtain ⟨t, e, h1⟩ := e
    exact .cons ⟨t, e, s.tup h1⟩ ih
theorem RsAt.snoc {H : Hp} {l : List M.Reason} {xs : List V} {g : M.Reason} {v : V} (h : RsAt H l xs) (e : RAt H g v) : RsAt H (l ++ [g]) (xs ++ [v]) := by
  induction h with
  | nil => exact .cons e .nil
  | cons e2 _ ih => exact .cons e2 ih
theorem RsAt.len {H : Hp} {l : List M.Reason} {xs : List V} (h : RsAt H l xs) : xs.length = l.length := by
  induction h with
  | nil => rfl
  | cons _ _ ih => rw [List.length_cons, List.length_cons, ih]
theorem RsAt.rev {H : Hp} {l : List M.Reason} {xs : List V} (h : RsAt H l xs) : RsAt H l.reverse xs.reverse := by
  induction h with
  | nil => exact .nil
  | cons e2 _ ih =>
    rw [List.reverse_cons, List.reverse_cons]
    exact ih.snoc e2
section
variable {P : Program} {w : World} {K : PySem.W.Frag} {mg : Str → Option Value} {base : Heap} {C CW : Addr}
structure Mx (P : Program) (w : World) (K : PySem.W.Frag) (mg : Str → Option Value) (base : Heap) (C : Addr) : Prop where
  ex : ∃ (f : Addr) (fd : FuncData), FnOk P w K mg base CX0 8 f fd ["self", "position"] (WP.spOutW C) ∧ Meth K C "without" f ∧ Binds K fd ["self", "position"] []
structure Ow (P : Program) (w : World) (K : PySem.W.Frag) (mg : Str → Option Value) (base : Heap) (C : Addr) : Prop where
  ex : ∃ (f : Addr) (fd : FuncData), FnOk P w K mg base CX0 1 f fd ["self"] (WP.spLenW C) ∧ WO.Own K C f "__len__" ∧ Binds K fd ["self"] []
theorem nk_wo : ¬ (("without" : Str) = "head") ∧ ¬ (("without" : Str) = "steps") ∧ ¬ (("without" : Str) = "depth") ∧ ¬ (("without" : Str) = "size") := by decide +kernel
theorem way_ins {H : Hp} {wy : M.Way} {a : Addr} (h : WP.WayAt C H wy a) : ∃ dx fs, H a = some (.ins C dx fs) ∧ fs.lookup ("without" : Str) = none := by
  obtain ⟨wh, ws⟩ := wy
  unfold WP.WayAt at h
  obtain ⟨dx, t, xs, h1, _, _⟩ := h
  refine ⟨dx, _, h1, ?_⟩
  unfold WP.flds
  simp only [lookup_putF, if_neg nk_wo.1, if_neg nk_wo.2.1, if_neg nk_wo.2.2.1, if_neg nk_wo.2.2.2]
  rfl
theorem way_is {H : Hp} {wy : M.Way} {a : Addr} (h : WP.WayAt C H wy a) : WO.InsC C H a := by
  obtain ⟨dx, fs, h1, _⟩ := WP.head_fld h
  exact ⟨dx, fs, h1⟩
/-- what lean tells -/
def LeanAt (CW : Addr) (H : Hp) (wy : M.Way) (t D : Addr) : Prop := ∃ (x : Addr) (ys : List V), H t = some (.tup [.ref x, .ref D]) ∧ WP.WayAt CW H (.mk wy.head (M.leanW wy).1) x ∧ H D = some (.lst ys) ∧ RsAt H (M.leanW wy).2.reverse ys ∧ ((M.leanW wy).2.length ≤ 12 ∧ ∀ r ∈ (M.leanW wy).2, RB r) ∧ (M.Way.mk wy.head (M.leanW wy).1).depth ≤ 3
def spLean (CW : Addr) (n : Nat) : Sp := fun vs H Q _ => ∃ (a : Addr) (wy : M.Way), vs = [.ref a] ∧ WP.WayAt CW H wy a ∧ M.Way.fine wy ∧ wy.depth ≤ n ∧ ∀ t D H', Same H H' → H D = none → LeanAt CW H' wy t D → Q (.ref t) H'
abbrev NLe : List Str := ["way", "stand", "reasons", "position", "tried", "parted"]
theorem scLe : FnScope NLe ["way"] (defScope sLean) := ⟨rfl, rfl, rfl, by decide +kernel, rfl, by decide +kernel, by decide +kernel⟩
theorem ok_lean {k n : Nat} {f : Addr} {fd : FuncData} (F : Fun K "lean" "lean" sLean f fd) (hk : 9 ≤ k) (B : Bn mg) (T : WP.Wt K mg CW) (DP : Df P w K mg base k "parting" ["first", "second"] (spPart CW n)) (DX : Mx P w K mg base CW) (DW : Ow P w K mg base CW) (hn : n ≤ 3) : FnOk P w K mg base CX0 (k + 1) f fd ["way"] (spLean CW n) := by
  obtain ⟨fP, fdP, GP, gP, kP, bP⟩ := DP.ex
  obtain ⟨fX, fdX, GX, mX, bX⟩ := DX.ex
  obtain ⟨fW, fdW, GW, OW, bW⟩ := DW.ex
  refine F.ok scLe (fun vs H Q E h => ?_) (fun cdv A outer s H vs Q E hr h => ?_)
  · obtain ⟨a, wy, rfl, _⟩ := h
    rfl
  · obtain ⟨a, wy, rfl, hw, hf, hd, kk⟩ := h
    refine ⟨_, pss_cons (ps_set (i := 1) scLe.nd rfl (Or.inl rfl) (pv 0))
      (pss_cons (ps_set (i := 2) scLe.nd rfl (Or.inl rfl) (pe_lst pa_nil))
      (pss_cons (ps_for PassesOwn.never rfl (pi_range3 (by rfl) B.range (pa_cons (pe_op op_sub (pe_callB (WO.call_lenO GW (hr.mono (by omega)) OW bW pass0) (by rfl) B.len PySem.boot_len (pa_cons (pv 0) pa_nil)) (pe_int)) (pa_cons (pe_un un_neg pe_int) (pa_cons (pe_un un_neg pe_int) pa_nil)))) (pg_name (i := 3) scLe.nd rfl (Or.inl rfl)) (pss_cons (ps_if (pt_cmpR (op_eq) (pe_callB (WO.call_lenO GW (hr.mono (by omega)) OW bW pass0) (by rfl) B.len PySem.boot_len (pa_cons (pv 1) pa_nil)) (pe_int) (nomark _)) (pss_one (ps_break)) (pss_nil))
      (pss_cons (ps_set (i := 4) scLe.nd rfl (Or.inl rfl) (pe_meth (pv 1) T.cl mX GX (hr.mono (by omega)) bX .nil pass0 (pa_cons (pv 3) pa_nil)))
      (pss_cons (ps_set (i := 5) scLe.nd rfl (Or.inl rfl) (pe_call GP (hr.mono (by omega)) rfl gP kP bP .nil pass0 (pa_cons (pv 0) (pa_cons (pv 4) pa_nil))))
      (pss_one (ps_if (pt_cmp (pc_isN (pv 5))) (pss_one (ps_set (i := 1) scLe.nd rfl (Or.inl rfl) (pv 4))) (pss_one (ps_expr (pe_bm PySem.F.plainAttrs_list PySem.F.slot_list_append PySem.F.type_list_append mt_append (pv 2) (pa_cons (pe_tup (pa_cons (pv 3) (StX.pa_star (pv 5) pa_nil))) pa_nil))))))))))
      (pss_one (ps_ret (pe_tup (pa_cons (pv 1) (pa_cons (pe_revL (pv 2)) pa_nil))))))), ?_⟩
    have fl := (fine_all hf).2.1
    have fl1 : 1 ≤ wy.steps.length := by
      obtain ⟨wh, st⟩ := wy
      unfold M.Way.fine at hf
      exact hf.2.1.1
    have lf : ∀ (m : Nat), m ≤ 12 → m < 1000000 := fun m h => by omega
    refine set_then (i := 1) ⟨_, rfl, ?_⟩
    refine set_then (i := 2) ⟨line2.2.2.2, fun D hD => ?_⟩
    have s0 := of_upd (o := .lst []) hD
    have fin : ∀ (G : Hp) (x : Addr) (q3 q4 q5 : Option V) (st : List M.Step × List M.Reason) (ys : List V), Same H G → WP.WayAt CW G (.mk wy.head st.1) x → (M.Way.mk wy.head st.1).depth ≤ 3 → G D = some (.lst ys) → RsAt G st.2 ys → (st.2.length ≤ 12 ∧ ∀ r ∈ st.2, RB r) → M.leanW wy = st →
        tRet (tTup (tCons (tVar 1) (tCons (tRevL K (tVar 2)) tNil))) { nx := fun _ H' => Q .non H', rt := Q } [some (.ref a), some (.ref x), some (.ref D), q3, q4, q5] G := fun G x q3 q4 q5 st ys s1 h1 h5 h2 h3 h4 e => by
      refine ⟨_, rfl, _, rfl, D, ys, rfl, SqL.of h2, fun p hp => ⟨line2.1, fun t ht => ?_⟩⟩
      have g1 := of_upd (o := .lst ys.reverse) hp
      have g2 := of_upd (o := .tup [V.ref x, .ref p]) ht
      refine kk t p _ ((s1.trans g1).trans g2) (s1.free hp) ⟨x, ys.reverse, upd_same, ?_, g2 _ _ upd_same, ?_, by rw [e]; exact h4, by rw [e]; exact h5⟩
      · rw [e]
        exact h1.mono (g1.trans g2)
      · rw [e]
        exact h3.rev.mono (g1.trans g2)
    refine ⟨_, rfl, a, rfl, way_is (hw.mono s0), a, wy, rfl, hw.mono s0, wy.steps.length, rfl, lf _ fl, _, _, rfl, rfl, 1, rfl, 1, rfl, _, _, _, _, rfl, RgC.neg (by omega) (by omega) (by decide) (by decide), ?_⟩
    refine for_rangeC (n := ((wy.steps.length : Int) - 1 - -1).toNat) (fun i σ G => Same H G ∧ ∃ (x : Addr) (ys : List V) (st : List M.Step × List M.Reason) (q3 q4 q5 : Option V), σ = [some (.ref a), some (.ref x), some (.ref D), q3, q4, q5] ∧ WP.WayAt CW G (.mk wy.head st.1) x ∧ G D = some (.lst ys) ∧ RsAt G st.2 ys ∧ M.Way.fine (.mk wy.head st.1) ∧ (M.Way.mk wy.head st.1).depth ≤ n ∧ wy.steps.length - i ≤ st.1.length ∧ (st.2.length ≤ i ∧ ∀ r ∈ st.2, RB r) ∧ ((M.posns wy.steps.length).take i).foldl (M.leanStep wy) (wy.steps, []) = st)
      ⟨s0, a, [], (wy.steps, []), _, _, _, rfl, ?_, upd_same, .nil, ?_, ?_, Nat.le_refl _, ⟨Nat.le_refl _, (fun r hr => by cases hr)⟩, rfl⟩ ?_ ?_
    · obtain ⟨wh, st⟩ := wy
      exact hw.mono s0
    · obtain ⟨wh, st⟩ := wy
      exact hf
    · obtain ⟨wh, st⟩ := wy
      exact hd
    · rintro i σ G hi ⟨s1, x, ys, st, q3, q4, q5, rfl, hx, hDy, hR, fx, dx, le1, ⟨le2, lb⟩, eq⟩
      have hi2 : i < wy.steps.length := by omega
      have ep : (wy.steps.length : Int) - 1 + (i : Int) * -1 = ((wy.steps.length - 1 - i : Nat) : Int) := by omega
      have fx2 := fine_all fx
      have nx := M.foldl_snoc (M.leanStep wy) (wy.steps, []) (M.pos_at hi2)
      rw [eq] at nx
      dsimp only
      rw [ep]
      generalize hp : wy.steps.length - 1 - i = pos at nx
      have lst1 : st.1.length < 1000000 := lf _ fx2.2.1
      refine ⟨_, rfl, x, rfl, way_is hx, x, _, rfl, hx, st.1.length, rfl, lst1, rfl, _, rfl, ?_⟩
      by_cases c1 : st.1.length = 1
      · refine iteP (by rw [c1]; rfl) ?_
        exact fin G x _ _ _ st ys s1 hx (Nat.le_trans dx hn) hDy hR ⟨by omega, lb⟩ (by
          unfold M.leanW
          rw [M.fold_split (M.leanStep wy) (wy.steps, []) (M.posns wy.steps.length) i, eq]
          exact M.lean_one c1 _)
      · have l2 : 2 ≤ st.1.length := by
          have := (by unfold M.Way.fine at fx; exact fx.2.1.1 : 1 ≤ st.1.length)
          omega
        have hps : pos < st.1.length := by omega
        obtain ⟨f3, d3⟩ := M.fine_cut fx hps l2
        obtain ⟨dw, fw, w1, w2⟩ := way_ins hx
        refine iteN (fun z => by injection z with z; omega) ?_
        unfold tNext
        dsimp only
        refine set_then (i := 4) ?_
        refine ⟨_, rfl, x, dw, fw, rfl, w1, w2, _, rfl, x, pos, wy.head, st.1, rfl, hx, hps, Nat.le_trans fx2.2.1 (by decide), f3, fun c G2 s2 hc => ?_⟩
        refine set_then (i := 5) ⟨_, rfl, _, rfl, a, c, wy, _, rfl, (hw.mono s1).mono s2, hc, hf, f3, hd, Nat.le_trans d3 dx, fun v G3 s3 hv => ?_⟩
        have s13 := (s1.trans s2).trans s3
        have hDy3 := s3 _ _ (s2 _ _ hDy)
        have hR3 := (hR.mono s2).mono s3
        have cl := M.cut_len hps
        have ns : M.leanStep wy st pos = match CP.partW wy (.mk wy.head (st.1.take pos ++ st.1.drop (pos + 1))) with
            | none => (st.1.take pos ++ st.1.drop (pos + 1), st.2)
            | some q => (st.1, st.2 ++ [(pos, q.1, q.2)]) := by
          conv => lhs; unfold M.leanStep
          rw [if_neg c1]
        cases e : partW wy (.mk wy.head (st.1.take pos ++ st.1.drop (pos + 1))) with
        | none =>
          rw [e] at hv ns
          have hv : v = .non := hv
          subst hv
          refine ⟨_, rfl, _, rfl, iteT ⟨_, rfl, ?_⟩⟩
          exact ⟨s13, c, ys, (st.1.take pos ++ st.1.drop (pos + 1), st.2), _, _, _, rfl, hc.mono s3, hDy3, hR3, f3, Nat.le_trans d3 dx, (by show wy.steps.length - (i + 1) ≤ (st.1.take pos ++ st.1.drop (pos + 1)).length; rw [cl]; omega), ⟨by show st.2.length ≤ i + 1; omega, lb⟩, by rw [nx, ns]⟩
        | some q =>
          rw [e] at hv ns
          obtain ⟨tq, rfl, fq⟩ := hv
          refine ⟨_, rfl, _, rfl, iteF ?_⟩
          have ly := hR3.len
          refine ⟨_, rfl, .inl ⟨rfl, _, SqL.of hDy3⟩, _, rfl, _, rfl, tq, _, rfl, .inl (SqT.of fq), (by show 3 ≤ sizeLine; decide), fun t2 ht2 => ?_⟩
          have g2 := of_upd (o := .tup [V.int ((pos : Nat) : Int), .int q.1, .bl q.2]) ht2
          have eD := g2 _ _ hDy3
          have kp := put_keepT (o := .lst (ys ++ [.ref t2])) eD
          refine ⟨D, ys, _, rfl, rfl, eD, small1000 (by omega), add_upd hD (s13.trans g2), x, _, (st.1, st.2 ++ [(pos, q.1, q.2)]), _, _, _, rfl, (((hx.mono s2).mono s3).mono g2).keep kp, upd_same, ((hR3.mono g2).keep kp).snoc ⟨t2, rfl, kp _ _ (fun _ z => by cases z) upd_same⟩, fx, dx, by show wy.steps.length - (i + 1) ≤ st.1.length; omega, ⟨by simp; omega, fun r hr => ?_⟩, by rw [nx, ns]⟩
          rcases List.mem_append.mp hr with hr | hr
          · exact lb r hr
          · rw [List.mem_singleton.mp hr]
            exact ⟨by show pos ≤ 12; omega, part_bz hf f3 q.1 q.2 e⟩
    · rintro σ G ⟨s1, x, ys, st, q3, q4, q5, rfl, hx, hDy, hR, fx, dx, le1, ⟨le2, lb⟩, eq⟩
      refine fin G x _ _ _ st ys s1 hx (Nat.le_trans dx hn) hDy hR ⟨by omega, lb⟩ ?_
      unfold M.leanW
      rw [← eq]
      rw [List.take_of_length_le (by rw [M.pos_len]; omega)]
end
end CP

end
section
set_option autoImplicit false
set_option linter.all false
/-! ## stretches and their ends -/
namespace N
/-- how far a place lies behind the begin of its stretch -/
def off : List Nat → Nat → Nat
  | [], p => p
  | s :: r, p => if p < s then p else off r (p - s)
/-- whether a stretch begins at a place -/
def st (ss : List Nat) (p : Nat) : Bool := off ss p == 0
theorem off_lt {s p : Nat} (r : List Nat) (h : p < s) : off (s :: r) p = p := by
  rw [off, if_pos h]
theorem off_ge {s p : Nat} (r : List Nat) (h : s ≤ p) : off (s :: r) p = off r (p - s) := by
  rw [off, if_neg (by omega)]
theorem off_app : ∀ (a b : List Nat) (p : Nat), a.sum ≤ p → off (a ++ b) p = off b (p - a.sum)
  | [], b, p, _ => rfl
  | s :: a, b, p, h => by
    rw [List.sum_cons] at h ⊢
    rw [List.cons_append, off_ge _ (by omega), off_app a b (p - s) (by omega)]
    congr 1
    omega
theorem off_cu {c : Nat} (h : 0 < c) (X : List Nat) : ∀ (s p : Nat), p < s → off (cu c s ++ X) p = p % c := by
  intro s
  induction s using Nat.strongRecOn with
  | ind s ih =>
    intro p hp
    by_cases h2 : c < s
    · rw [cu_lt h h2, List.cons_append]
      by_cases h3 : p < c
      · rw [off_lt _ h3, Nat.mod_eq_of_lt h3]
      · rw [off_ge _ (by omega), ih (s - c) (by omega) (p - c) (by omega), ← Nat.mod_eq_sub_mod (by omega)]
    · rw [cu_le (by omega), List.singleton_append, off_lt _ hp, Nat.mod_eq_of_lt (by omega)]
theorem off_flat {c : Nat} (h : 0 < c) : ∀ (ss : List Nat) (p : Nat), p < ss.sum → off (ss.flatMap (cu c)) p = off ss p % c
  | [], p, hp => by simp at hp
  | s :: r, p, hp => by
    rw [List.sum_cons] at hp
    rw [List.flatMap_cons]
    by_cases h2 : p < s
    · rw [off_cu h _ s p h2, off_lt _ h2]
    · rw [off_app _ _ _ (by rw [cu_sum h]; omega), cu_sum h, off_flat h r _ (by omega), off_ge _ (by omega)]
theorem off_pt : ∀ {cs : List Nat}, (∀ c ∈ cs, 0 < c) → ∀ (ss : List Nat) (p : Nat), p < ss.sum → off (pt cs ss) p = rem cs (off ss p)
  | [], _, ss, p, _ => rfl
  | c :: r, f, ss, p, hp => by
    have hc := f c List.mem_cons_self
    show off (pt r (ss.flatMap (cu c))) p = _
    rw [off_pt (fun d hd => f d (List.mem_cons_of_mem _ hd)) _ p (by rw [flat_sum hc]; exact hp), off_flat hc ss p hp, rem_cons]
theorem st_pt {cs : List Nat} (f : ∀ c ∈ cs, 0 < c) {n p : Nat} (hp : p < n) : st (pt cs [n]) p = fm cs p := by
  unfold st fm
  rw [off_pt f [n] p (by simpa using hp), off_lt _ hp]
  rfl
theorem st_zero {s : Nat} (r : List Nat) (h : 0 < s) : st (s :: r) 0 = true := by
  unfold st
  rw [off_lt _ h]
  rfl
theorem st_inj : ∀ {a b : List Nat}, (∀ s ∈ a, 0 < s) → (∀ s ∈ b, 0 < s) → a.sum = b.sum → (∀ p, p < a.sum → st a p = st b p) → a = b
  | [], [], _, _, _, _ => rfl
  | [], s :: r, _, hb, h, _ => by
    have := hb s List.mem_cons_self
    simp at h
    omega
  | s :: r, [], ha, _, h, _ => by
    have := ha s List.mem_cons_self
    simp at h
    omega
  | s :: a, t :: b, ha, hb, h, hp => by
    have s0 := ha s List.mem_cons_self
    have t0 := hb t List.mem_cons_self
    have ha' : ∀ x ∈ a, 0 < x := fun x hx => ha x (List.mem_cons_of_mem _ hx)
    have hb' : ∀ x ∈ b, 0 < x := fun x hx => hb x (List.mem_cons_of_mem _ hx)
    rw [List.sum_cons, List.sum_cons] at h
    have first : ∀ {s t : Nat} {a b : List Nat}, 0 < s → s < t → (∀ x ∈ a, 0 < x) → s + a.sum = t + b.sum → (∀ p, p < s + a.sum → st (s :: a) p = st (t :: b) p) → False := fun {s t a b} s0 lt ha h hp => by
      have := hp s (by omega)
      unfold st at this
      rw [off_ge _ (Nat.le_refl s), off_lt _ lt, Nat.sub_self] at this
      cases a with
      | nil => simp at h; omega
      | cons x a =>
        rw [off_lt _ (ha x List.mem_cons_self)] at this
        have e : s = 0 := by simpa using this
        omega
    rw [List.sum_cons] at hp
    have e : s = t := by
      rcases Nat.lt_trichotomy s t with q | q | q
      · exact (first s0 q ha' h hp).elim
      · exact q
      · exact (first t0 q hb' h.symm fun p h2 => (hp p (by omega)).symm).elim
    subst e
    rw [st_inj ha' hb' (by omega) fun p h2 => by
      have := hp (s + p) (by omega)
      unfold st at this ⊢
      rw [off_ge _ (by omega), off_ge _ (by omega), Nat.add_sub_cancel_left] at this
      exact this]
theorem off_at : ∀ (row : List Nat) (i s j : Nat), row[i]? = some s → j < s → off row ((row.take i).sum + j) = j
  | [], i, s, j, h, _ => by cases i <;> cases h
  | x :: r, 0, s, j, h, hj => by
    cases h
    simp [off_lt _ hj]
  | x :: r, i + 1, s, j, h, hj => by
    rw [List.take_succ_cons, List.sum_cons, off_ge _ (by omega), show x + (r.take i).sum + j - x = (r.take i).sum + j by omega]
    exact off_at r i s j h hj
/-! ### a row of periods that stops too early -/
def an (φ : Nat → Bool) (n : Nat) : Bool := (List.range n).any fun p => decide (1 ≤ p) && φ p
theorem an_iff {φ : Nat → Bool} {n : Nat} : an φ n = true ↔ ∃ p, 1 ≤ p ∧ p < n ∧ φ p = true := by
  unfold an
  rw [List.any_eq_true]
  constructor
  · rintro ⟨p, h1, h2⟩
    rw [Bool.and_eq_true, decide_eq_true_iff] at h2
    exact ⟨p, h2.1, List.mem_range.mp h1, h2.2⟩
  · rintro ⟨p, h1, h2, h3⟩
    exact ⟨p, List.mem_range.mpr h2, by rw [Bool.and_eq_true, decide_eq_true_iff]; exact ⟨h1, h3⟩⟩
def skF (φ : Nat → Bool) : Nat → Nat → Bool
  | 0, _ => false
  | s + 1, n => if lp φ n < n then skF φ s (lp φ n) else an φ n
/-- whether a place is left where there is no period any more -/
def sk (φ : Nat → Bool) (n : Nat) : Bool := skF φ n n
theorem skF_eq {φ : Nat → Bool} : ∀ n s, n ≤ s → skF φ s n = skF φ n n := by
  intro n
  induction n using Nat.strongRecOn with
  | ind n ih =>
    intro s hs
    cases n with
    | zero =>
      cases s with
      | zero => rfl
      | succ s =>
        unfold skF
        rw [if_neg (by rw [lp_zero]; omega)]
        rfl
    | succ n =>
      cases s with
      | zero => omega
      | succ s =>
        unfold skF
        by_cases c : lp φ (n + 1) < n + 1
        · rw [if_pos c, if_pos c, ih _ c s (by omega), ih _ c n (by omega)]
        · rw [if_neg c, if_neg c]
theorem sk_step (φ : Nat → Bool) (n : Nat) : sk φ n = if lp φ n < n then sk φ (lp φ n) else an φ n := by
  cases n with
  | zero => rw [if_neg (by rw [lp_zero]; omega)]; rfl
  | succ n =>
    show skF φ (n + 1) (n + 1) = _
    rw [skF]
    by_cases c : lp φ (n + 1) < n + 1
    · rw [if_pos c, if_pos c, skF_eq _ n (by omega)]
      rfl
    · rw [if_neg c, if_neg c]
theorem nrm_tells {φ : Nat → Bool} (h0 : φ 0 = true) : ∀ n, sk φ n = false → ∀ p, p < n → φ p = fm (nrm φ n) p := by
  intro n
  induction n using Nat.strongRecOn with
  | ind n ih =>
    intro hs p hp
    rw [sk_step] at hs
    rw [nrm_step]
    by_cases c : lp φ n < n
    · rw [if_pos c] at hs ⊢
      obtain ⟨h1, h2, h3, h4⟩ := lp_spec (f := φ) (k := n) (by omega)
      have per := pd_iff.mp h3
      have back : ∀ k i, i + k * lp φ n < n → φ i = φ (i + k * lp φ n) := by
        intro k
        induction k with
        | zero => intro i _; rw [Nat.zero_mul, Nat.add_zero]
        | succ k ik =>
          intro i hi
          rw [Nat.add_mul, Nat.one_mul] at hi ⊢
          rw [ik i (by omega), per (i + k * lp φ n) (by omega)]
          congr 1
          omega
      have e := Nat.mod_add_div p (lp φ n)
      rw [Nat.mul_comm] at e
      have := back (p / lp φ n) (p % lp φ n) (by omega)
      rw [e] at this
      have ml := Nat.mod_lt p (show 0 < lp φ n by omega)
      rw [← this, ih _ c hs (p % lp φ n) ml]
      unfold fm
      rw [rem_cons]
    · rw [if_neg c] at hs ⊢
      unfold fm
      rw [rem_nil]
      by_cases z : p = 0
      · rw [z, h0]
        rfl
      · rw [decide_eq_false z]
        cases e : φ p with
        | false => rfl
        | true =>
          rw [an_iff.mpr ⟨p, by omega, hp, e⟩] at hs
          cases hs
theorem lp_congr {φ ψ : Nat → Bool} {n : Nat} (h : ∀ i, i < n → φ i = ψ i) (hn : 0 < n) : lp φ n = lp ψ n := by
  obtain ⟨h1, h2, h3, h4⟩ := lp_spec (f := ψ) (k := n) hn
  exact lp_eq hn h1 (by rw [pd_congr h]; exact h3) fun q q1 _ hq => h4 q q1 (by rw [← pd_congr h]; exact hq)
theorem chain_sk {φ : Nat → Bool} {cs : List Nat} (hf : Fall cs) : ∀ n, (∀ p, p < n → φ p = fm cs p) → sk φ n = false := by
  intro n
  induction n using Nat.strongRecOn with
  | ind n ih =>
    intro h
    rw [sk_step]
    by_cases c : lp φ n < n
    · rw [if_pos c]
      exact ih _ c fun p hp => h p (by omega)
    · rw [if_neg c]
      cases e : an φ n with
      | false => rfl
      | true =>
        exfalso
        obtain ⟨p, h1, h2, h3⟩ := an_iff.mp e
        apply c
        rw [lp_congr h (by omega), lp_lt hf]
        exact ⟨p, h1, h2, by rw [← h p h2]; exact h3⟩
/-- what is parted so: just if no place is left -/
theorem parts_so {row : List Nat} (h : ∀ s ∈ row, 0 < s) (hr : row ≠ []) : pt (nrm (st row) row.sum) [row.sum] = row ↔ sk (st row) row.sum = false := by
  have h0 : st row 0 = true := by
    cases row with
    | nil => exact (hr rfl).elim
    | cons s r => exact st_zero r (h s List.mem_cons_self)
  have hsum : 0 < row.sum := by
    cases row with
    | nil => exact (hr rfl).elim
    | cons s r =>
      have := h s List.mem_cons_self
      rw [List.sum_cons]
      omega
  obtain ⟨f1, f2, f3⟩ := nrm_fall (f := st row) row.sum
  constructor
  · intro e
    refine chain_sk f1 _ fun p hp => ?_
    rw [← st_pt f1.pos hp, e]
  · intro e
    refine st_inj (pt_pos f1.pos _ (by simpa using hsum)) h ((pt_sum f1.pos _).trans (by simp)) fun p hp => ?_
    rw [pt_sum f1.pos] at hp
    have hp : p < row.sum := by simpa using hp
    rw [st_pt f1.pos hp, nrm_tells h0 _ e p hp]
end N

end
section
set_option autoImplicit false
set_option Elab.async false
set_option linter.all false
set_option maxRecDepth 100000
set_option maxHeartbeats 4000000
/-! ## normal chains, their boundaries and one another -/
namespace N
theorem nrm_congr {f g : Nat → Bool} : ∀ n, (∀ i, i < n → f i = g i) → nrm f n = nrm g n := by
  intro n
  induction n using Nat.strongRecOn with
  | _ n ih =>
    intro h
    rw [nrm_step f n, nrm_step g n]
    by_cases hn : 0 < n
    · have e := lp_congr h hn
      rw [e]
      by_cases c : lp g n < n
      · rw [if_pos c, if_pos c, ih _ c fun i hi => h i (by omega)]
      · rw [if_neg c, if_neg c]
    · have e : n = 0 := by omega
      subst e
      rw [lp_zero, lp_zero, if_neg (by omega), if_neg (by omega)]
/-- the normal chain tells the marks -/
theorem nrm_fm {cs : List Nat} (hf : Fall cs) (n : Nat) {p : Nat} (hp : p < n) : fm cs p = fm (nrm (fm cs) n) p :=
  nrm_tells (fm_zero cs) n (chain_sk hf n fun _ _ => rfl) p hp
/-- the normal chain of all places -/
def nm (cs : List Nat) : List Nat := nrm (fm cs) (2 * hd cs)
theorem nrm_far {cs : List Nat} (hf : Fall cs) {m : Nat} (hm : 2 * hd cs ≤ m) : nrm (fm cs) m = nm cs := by
  cases cs with
  | nil => rw [nrm_nil, nm, nrm_nil]
  | cons c l => exact nrm_more hf.1 m hm
theorem nm_fm {cs : List Nat} (hf : Fall cs) (p : Nat) : fm cs p = fm (nm cs) p := by
  rw [← nrm_far hf (m := 2 * hd cs + p + 1) (by omega)]
  exact nrm_fm hf _ (by omega)
theorem nm_eq {a b : List Nat} (ha : Fall a) (hb : Fall b) : nm a = nm b ↔ ∀ p, fm a p = fm b p := by
  constructor
  · intro e p
    rw [nm_fm ha, nm_fm hb, e]
  · intro h
    rw [← nrm_far ha (m := 2 * hd a + 2 * hd b) (by omega), ← nrm_far hb (m := 2 * hd a + 2 * hd b) (by omega)]
    exact nrm_congr _ fun i _ => h i
theorem fm_nil {p : Nat} (h : 0 < p) : fm [] p = false := by
  unfold fm
  rw [rem_nil]
  exact decide_eq_false (by omega)
/-- what agrees on both first cuts and one place more agrees everywhere -/
theorem fm_all {a b : List Nat} (ha : Fall a) (hb : Fall b) (h : ∀ p, p < hd a + hd b + 1 → fm a p = fm b p) : ∀ p, fm a p = fm b p := by
  cases a with
  | nil =>
    cases b with
    | nil => exact fun p => rfl
    | cons d r =>
      have := h d (by show d < 0 + d + 1; omega)
      have e := fm_head d r 0
      rw [Nat.zero_add, fm_zero] at e
      rw [fm_nil hb.1, e] at this
      cases this
  | cons c l =>
    cases b with
    | nil =>
      have := h c (by show c < c + 0 + 1; omega)
      have e := fm_head c l 0
      rw [Nat.zero_add, fm_zero] at e
      rw [fm_nil ha.1, e] at this
      cases this
    | cons d r =>
      have c0 := ha.1
      have d0 := hb.1
      intro p
      induction p using Nat.strongRecOn with
      | _ p ih =>
        by_cases hp : p < c + d + 1
        · exact h p hp
        · have e1 := fm_head c l (p - c)
          have e2 := fm_head d r (p - c - d)
          have e3 := fm_head c l (p - d - c)
          have e4 := fm_head d r (p - d)
          rw [show p - c + c = p by omega] at e1
          rw [show p - c - d + d = p - c by omega] at e2
          rw [show p - d - c + c = p - d by omega] at e3
          rw [show p - d + d = p by omega] at e4
          rw [e1, ih (p - c) (by omega), e2, ← ih (p - c - d) (by omega), show p - c - d = p - d - c by omega, ← e3, ih (p - d) (by omega), ← e4]
/-- place by place, the normal chain is at most the chain -/
theorem nrm_le : ∀ {cs : List Nat}, Fall cs → ∀ n, (nrm (fm cs) n).length ≤ cs.length ∧ ∀ (i x c : Nat), (nrm (fm cs) n)[i]? = some x → cs[i]? = some c → x ≤ c
  | [], _, n => by
    rw [nrm_nil]
    exact ⟨Nat.le_refl _, fun i x c h => by cases h⟩
  | c :: l, hf, n => by
    rw [nrm_step]
    by_cases h : lp (fm (c :: l)) n < n
    · rw [if_pos h]
      have c0 := hf.1
      obtain ⟨_, _, _, least⟩ := lp_spec (f := fm (c :: l)) (k := n) (by omega)
      have hc := least c c0 (pd_head c l n)
      obtain ⟨i1, i2⟩ := nrm_le hf.2.2 (lp (fm (c :: l)) n)
      rw [nrm_congr (f := fm (c :: l)) (g := fm l) (lp (fm (c :: l)) n) fun i hi => fm_low (by omega)]
      refine ⟨by rw [List.length_cons, List.length_cons]; omega, fun i x y h1 h2 => ?_⟩
      cases i with
      | zero =>
        cases h1
        cases h2
        exact hc
      | succ i => exact i2 i x y h1 h2
    · rw [if_neg h]
      exact ⟨Nat.zero_le _, fun i x c h => by cases h⟩
end N

end
section
set_option autoImplicit false
set_option Elab.async false
set_option linter.all false
set_option maxRecDepth 100000
set_option maxHeartbeats 4000000
/-! ## boundaries tell rests, pieces and sums -/
namespace N
theorem rem_succ : ∀ (l : List Nat) (p : Nat), Fall l → rem l (p + 1) = 0 ∨ rem l (p + 1) = rem l p + 1
  | [], p, _ => .inr rfl
  | c :: r, p, f => by
    rw [rem_cons, rem_cons]
    have hc := f.1
    by_cases h : (p + 1) % c = 0
    · rw [h, rem_zero]
      exact .inl rfl
    · have e : (p + 1) % c = p % c + 1 := by
        have h1 := Nat.mod_lt p hc
        have h2 := Nat.div_add_mod p c
        by_cases q : p % c + 1 = c
        · exfalso
          apply h
          have : p + 1 = c * (p / c + 1) := by rw [Nat.mul_add, Nat.mul_one]; omega
          rw [this]
          exact Nat.mul_mod_right c _
        · have : p + 1 = (p % c + 1) + c * (p / c) := by omega
          rw [this, Nat.add_mul_mod_self_left]
          exact Nat.mod_eq_of_lt (by omega)
      rw [e]
      exact rem_succ r (p % c) f.2.2
theorem fm_eq {a b : List Nat} {p : Nat} : fm a p = fm b p ↔ (rem a p = 0 ↔ rem b p = 0) := by
  unfold fm
  rw [decide_eq_decide]
theorem rem_congr {a b : List Nat} (fa : Fall a) (fb : Fall b) : ∀ p, (∀ q, q ≤ p → fm a q = fm b q) → rem a p = rem b p
  | 0, _ => by rw [rem_zero, rem_zero]
  | p + 1, h => by
    have ih := rem_congr fa fb p fun q hq => h q (by omega)
    have e := fm_eq.mp (h (p + 1) (Nat.le_refl _))
    rcases rem_succ a p fa with x | x
    · rw [x, e.mp x]
    · rcases rem_succ b p fb with y | y
      · have := e.mpr y
        omega
      · omega
theorem L_one {l : List Nat} (f : Fall l) : L l 1 = 1 := by
  have a := L_pos l f 1 (by decide)
  have b := L_le f (b := 1) (by decide)
  omega
theorem L_succ : ∀ (l : List Nat), Fall l → ∀ b, 0 < b → L l (b + 1) = L l b + (if rem l b = 0 then 1 else 0)
  | [], _, b, hb => by
    show 1 = 1 + (if b = 0 then 1 else 0)
    rw [if_neg (by omega)]
  | c :: r, f, b, hb => by
    have hc := f.1
    have h1 := Nat.mod_lt b hc
    have h2 := Nat.div_add_mod b c
    rw [L_cons, L_cons, rem_cons]
    by_cases h : b % c = 0
    · rw [h, rem_zero, if_pos rfl, if_pos rfl]
      by_cases c1 : c = 1
      · subst c1
        have : r = [] := by
          cases r with
          | nil => rfl
          | cons d s =>
            have a1 := f.2.1 d List.mem_cons_self
            have a2 := f.2.2.1
            omega
        subst this
        rw [Nat.div_one, Nat.div_one, Nat.mod_one, if_pos rfl]
        show (b + 1) * 1 + 0 = b * 1 + 0 + 1
        omega
      · have e1 : (b + 1) / c = b / c := by
          have : b + 1 = 1 + c * (b / c) := by omega
          rw [this, Nat.add_mul_div_left _ _ hc, Nat.div_eq_of_lt (by omega : 1 < c)]
          omega
        have e2 : (b + 1) % c = 1 := by
          have : b + 1 = 1 + c * (b / c) := by omega
          rw [this, Nat.add_mul_mod_self_left]
          exact Nat.mod_eq_of_lt (by omega)
        rw [e1, e2, if_neg (by decide), L_one f.2.2]
    · have ih := L_succ r f.2.2 (b % c) (by omega)
      by_cases q : b % c + 1 = c
      · have e : b + 1 = c * (b / c + 1) := by rw [Nat.mul_add, Nat.mul_one]; omega
        have e1 : (b + 1) / c = b / c + 1 := by rw [e, Nat.mul_div_cancel_left _ hc]
        have e2 : (b + 1) % c = 0 := by rw [e]; exact Nat.mul_mod_right c _
        rw [q] at ih
        rw [e1, e2, if_pos rfl, if_neg h, ih, Nat.add_mul, Nat.one_mul]
        omega
      · have e : b + 1 = (b % c + 1) + c * (b / c) := by omega
        have e1 : (b + 1) / c = b / c := by
          rw [e, Nat.add_mul_div_left _ _ hc, Nat.div_eq_of_lt (by omega : b % c + 1 < c)]
          omega
        have e2 : (b + 1) % c = b % c + 1 := by
          rw [e, Nat.add_mul_mod_self_left]
          exact Nat.mod_eq_of_lt (by omega)
        rw [e1, e2, if_neg (by omega), if_neg h, ih]
        omega
theorem L_congr {a b : List Nat} (fa : Fall a) (fb : Fall b) : ∀ n, (∀ q, q < n + 1 → fm a q = fm b q) → L a (n + 1) = L b (n + 1)
  | 0, _ => by rw [L_one fa, L_one fb]
  | n + 1, h => by
    rw [L_succ a fa (n + 1) (by omega), L_succ b fb (n + 1) (by omega), L_congr fa fb n fun q hq => h q (by omega)]
    have e := fm_eq.mp (h (n + 1) (by omega))
    by_cases x : rem a (n + 1) = 0
    · rw [if_pos x, if_pos (e.mp x)]
    · rw [if_neg x, if_neg fun y => x (e.mpr y)]
/-- the pieces of two chains that first differ at a place -/
theorem PC_ne {a b : List Nat} (fa : Fall a) (fb : Fall b) {p : Nat} (h : ∀ q, q < p → fm a q = fm b q) (ne : fm a p ≠ fm b p) : PC a (p + 1) ≠ PC b (p + 1) := by
  have p0 : p ≠ 0 := fun e => by
    subst e
    exact ne (by rw [fm_zero, fm_zero])
  obtain ⟨n, rfl⟩ : ∃ n, p = n + 1 := ⟨p - 1, by omega⟩
  unfold PC
  rw [if_neg (by omega), if_neg (by omega), L_succ a fa (n + 1) (by omega), L_succ b fb (n + 1) (by omega), L_congr fa fb n h]
  have e : ¬ (rem a (n + 1) = 0 ↔ rem b (n + 1) = 0) := fun z => ne (fm_eq.mpr z)
  by_cases x : rem a (n + 1) = 0
  · rw [if_pos x, if_neg fun y => e ⟨fun _ => y, fun _ => x⟩]
    omega
  · rw [if_neg x, if_pos (Classical.byContradiction fun y => e ⟨fun z => absurd z x, fun z => absurd z y⟩)]
    omega
/-- the first boundary -/
theorem rem_low : ∀ {l : List Nat}, ∀ {p : Nat}, (∀ d ∈ l, p < d) → rem l p = p
  | [], p, _ => rfl
  | c :: r, p, h => by
    rw [rem_cons, Nat.mod_eq_of_lt (h c List.mem_cons_self)]
    exact rem_low fun d hd => h d (List.mem_cons_of_mem _ hd)
theorem leaves_fm {l : List Nat} (f : Fall l) (h : l ≠ []) (x : Nat) : x < l.getLastD 0 ↔ ∀ p, 1 ≤ p → p ≤ x → fm l p = false := by
  have e : l.getLastD 0 = l.getLast h := by
    cases l with
    | nil => exact absurd rfl h
    | cons c r => rw [List.getLastD_cons, List.getLast_eq_getLastD]
  rw [e]
  constructor
  · intro hx p h1 h2
    unfold fm
    refine decide_eq_false ?_
    rw [rem_low fun d hd => by have := last_le l f h d hd; omega]
    omega
  · intro q
    refine Nat.lt_of_not_le fun hx => ?_
    have := q (l.getLast h) (f.pos _ (List.getLast_mem h)) hx
    unfold fm at this
    rw [← B_one l f h, rem_B l f 1 (fun e => absurd e h)] at this
    cases this
/-- one cut more -/
theorem rem_lt {l : List Nat} (f : Fall l) (h : l ≠ []) (p : Nat) : rem l p < l.getLast h := by
  induction l generalizing p with
  | nil => exact absurd rfl h
  | cons c r ih =>
    rw [rem_cons]
    cases r with
    | nil => exact Nat.mod_lt p f.1
    | cons d s =>
      rw [List.getLast_cons (by simp)]
      exact ih f.2.2 (by simp) (p % c)
theorem rem_app : ∀ (a b : List Nat) (p : Nat), rem (a ++ b) p = rem b (rem a p)
  | [], b, p => rfl
  | c :: r, b, p => by
    rw [List.cons_append, rem_cons, rem_cons]
    exact rem_app r b _
theorem rem_add {a : List Nat} (fa : Fall a) {c : Nat} (hc : 0 < c) (h1000 : c ≤ 1000) (p : Nat) : rem (add a [c]) p = rem a p % c := by
  unfold add
  by_cases h : c < lo a
  · rw [show ([c].filter fun d => decide (d < lo a)) = [c] by simp [h], rem_app, rem_cons]
    rfl
  · rw [show ([c].filter fun d => decide (d < lo a)) = [] by simp [h], List.append_nil]
    rw [lo_last fa h1000] at h
    have hn : a ≠ [] := fun e => h (.inl e)
    have hl : a.getLast hn ≤ c := Nat.le_of_not_lt fun z => h (.inr ⟨_, List.getLast?_eq_some_getLast hn, z⟩)
    exact (Nat.mod_eq_of_lt (Nat.lt_of_lt_of_le (rem_lt fa hn p) hl)).symm
end N
namespace CP
open PySem L2 G Y
/-- the normal chain below a limit -/
def nr (cs : List Nat) : Option Int → List Nat
  | none => N.nm cs
  | some z => N.nrm (N.fm cs) z.toNat
theorem nrm_nn {cs : List Nat} (hf : N.Fall cs) (L : Option Int) : N.nrm (N.fm cs) (nn cs L) = nr cs L := by
  cases L with
  | none => rfl
  | some z =>
    show N.nrm (N.fm cs) (min (2 * N.hd cs) z.toNat) = N.nrm (N.fm cs) z.toNat
    by_cases h : z.toNat ≤ 2 * N.hd cs
    · rw [Nat.min_eq_right h]
    · rw [Nat.min_eq_left (by omega), N.nrm_far hf (Nat.le_refl _), N.nrm_far hf (m := z.toNat) (by omega)]
theorem nr_fall (cs : List Nat) (L : Option Int) : N.Fall (nr cs L) := by
  cases L with
  | none => exact (N.nrm_fall _).1
  | some z => exact (N.nrm_fall _).1
/-- places below a limit -/
def Bel (L : Option Int) (p : Nat) : Prop := ∀ z, L = some z → p < z.toNat
theorem nr_fm {cs : List Nat} (hf : N.Fall cs) (L : Option Int) {p : Nat} (hp : Bel L p) : N.fm cs p = N.fm (nr cs L) p := by
  cases L with
  | none => exact N.nm_fm hf p
  | some z => exact N.nrm_fm hf _ (hp z rfl)
theorem nr_eq {a b : List Nat} (ha : N.Fall a) (hb : N.Fall b) (L : Option Int) : nr a L = nr b L ↔ ∀ p, Bel L p → N.fm a p = N.fm b p := by
  constructor
  · intro e p hp
    rw [nr_fm ha L hp, nr_fm hb L hp, e]
  · intro h
    cases L with
    | none => exact (N.nm_eq ha hb).mpr fun p => h p fun z e => by cases e
    | some z => exact N.nrm_congr _ fun i hi => h i fun z' e => by cases e; exact hi
theorem ldm_eq {a b : List Nat} {p : Nat} : ldm a b p = false ↔ N.fm a p = N.fm b p := by
  unfold ldm N.fm
  cases decide (N.rem a p = 0) <;> cases decide (N.rem b p = 0) <;> decide
theorem ldn_lt {a b : List Nat} {L : Option Int} {p : Nat} (h : p < ldn a b L) : Bel L p := fun z e => by
  subst e
  have : ldn a b (some z) = min (N.hd a + N.hd b + 1) z.toNat := rfl
  omega
theorem lt_ldn {a b : List Nat} {L : Option Int} {p : Nat} (h : p < N.hd a + N.hd b + 1) (hp : Bel L p) : p < ldn a b L := by
  cases L with
  | none => exact h
  | some z =>
    have := hp z rfl
    show p < min (N.hd a + N.hd b + 1) z.toNat
    omega
theorem ldf_no {a b : List Nat} (ha : N.Fall a) (hb : N.Fall b) {L : Option Int} (h : ldf a b L = none) : ∀ p, Bel L p → N.fm a p = N.fm b p := by
  unfold ldf at h
  rw [List.find?_eq_none] at h
  have h : ∀ p, p < ldn a b L → N.fm a p = N.fm b p := fun p hp => ldm_eq.mp (by simpa using h p (List.mem_range.mpr hp))
  cases L with
  | none => exact fun p _ => N.fm_all ha hb (fun q hq => h q hq) p
  | some z =>
    by_cases q : N.hd a + N.hd b + 1 ≤ z.toNat
    · exact fun p _ => N.fm_all ha hb (fun q hq => h q (lt_ldn hq fun z' e => by cases e; omega)) p
    · exact fun p hp => h p (lt_ldn (by have := hp z rfl; omega) hp)
theorem ldf_yes {a b : List Nat} {L : Option Int} {p : Nat} (h : ldf a b L = some p) : Bel L p ∧ N.fm a p ≠ N.fm b p ∧ ∀ q, q < p → N.fm a q = N.fm b q := by
  unfold ldf at h
  rw [List.find?_range_eq_some] at h
  obtain ⟨h1, h2, h3⟩ := h
  refine ⟨ldn_lt (List.mem_range.mp h2), fun e => ?_, fun q hq => ldm_eq.mp (by simpa using h3 q hq)⟩
  rw [ldm_eq.mpr e] at h1
  cases h1
end CP

end
section
set_option autoImplicit false
set_option Elab.async false
set_option linter.all false
set_option maxRecDepth 100000
set_option maxHeartbeats 4000000
/-! ## what stairs tell: where letters of each size end -/
namespace M
def sg (g : Gate) : Stair := (g.thr, g.ans)
/-- the answer to a body, if it ends -/
def Ef (l : List Stair) (b : Nat) : Option (Option Int) := (l.find? fun s => decide (s.1 < (b : Int))).map (·.2)
theorem ef_nil (b : Nat) : Ef [] b = none := rfl
theorem ef_app (l m : List Stair) (b : Nat) : Ef (l ++ m) b = (Ef l b).or (Ef m b) := by
  unfold Ef
  rw [List.find?_append]
  cases List.find? (fun s : Stair => decide (s.1 < (b : Int))) l <;> rfl
theorem ef_one (t : Int) (a : Option Int) (b : Nat) : Ef [(t, a)] b = if t < (b : Int) then some a else none := by
  unfold Ef
  by_cases h : t < (b : Int)
  · rw [if_pos h]
    simp [h]
  · rw [if_neg h]
    simp [h]
theorem ef_none {l : List Stair} {b : Nat} : Ef l b = none ↔ ∀ s ∈ l, (b : Int) ≤ s.1 := by
  unfold Ef
  rw [Option.map_eq_none_iff, List.find?_eq_none]
  constructor
  · intro h s hs
    have := h s hs
    simp only [decide_eq_true_eq] at this
    omega
  · intro h s hs
    have := h s hs
    simp only [decide_eq_true_eq]
    omega
theorem ef_mono {l : List Stair} {b c : Nat} (h : Ef l b = none) (hc : c ≤ b) : Ef l c = none := ef_none.mpr fun s hs => by
  have := ef_none.mp h s hs
  omega
/-! ### lows -/
theorem last_mem {acc : List Gate} (h : acc ≠ []) : ∃ g ∈ acc, lastT acc = g.thr := by
  unfold lastT
  rw [List.getLast?_eq_some_getLast h]
  exact ⟨_, List.getLast_mem h, rfl⟩
def Desc (l : List Gate) : Prop := l.Pairwise fun x y => y.thr < x.thr
theorem desc_last : ∀ {l : List Gate}, Desc l → ∀ x ∈ l, lastT l ≤ x.thr
  | [], _, x, h => by cases h
  | [y], _, x, h => by
    rw [List.mem_singleton.mp h]
    exact Int.le_refl _
  | y :: z :: r, d, x, h => by
    have e : lastT (y :: z :: r) = lastT (z :: r) := by
      unfold lastT
      rw [List.getLast?_cons_cons]
    rw [e]
    have d' := List.pairwise_cons.mp d
    rcases List.mem_cons.mp h with q | q
    · subst q
      have a := d'.1 z List.mem_cons_self
      have b := desc_last d'.2 z List.mem_cons_self
      omega
    · exact desc_last d'.2 x q
theorem lows_desc : ∀ (l acc : List Gate), Desc acc → Desc (l.foldl lowStep acc)
  | [], acc, d => d
  | g :: l, acc, d => by
    rw [List.foldl_cons]
    refine lows_desc l _ ?_
    unfold lowStep
    split
    · rename_i h
      refine List.pairwise_append.mpr ⟨d, List.pairwise_singleton _ _, fun x hx y hy => ?_⟩
      rw [List.mem_singleton.mp hy]
      rcases h with e | e
      · subst e
        cases hx
      · have := desc_last d x hx
        omega
    · exact d
theorem lows_ef (b : Nat) : ∀ (l acc : List Gate), Ef ((l.foldl lowStep acc).map sg) b = (Ef (acc.map sg) b).or (Ef (l.map sg) b)
  | [], acc => by
    rw [List.foldl_nil, List.map_nil, ef_nil, Option.or_none]
  | g :: l, acc => by
    rw [List.foldl_cons, lows_ef b l, List.map_cons, show sg g :: l.map sg = [sg g] ++ l.map sg from rfl, ef_app, ← Option.or_assoc]
    congr 1
    unfold lowStep
    split
    · rw [List.map_append, ef_app]
      rfl
    · rename_i h
      have hn : acc ≠ [] := fun e => h (.inl e)
      have hl : ¬ g.thr < lastT acc := fun e => h (.inr e)
      cases e : Ef (acc.map sg) b with
      | some a => rfl
      | none =>
        obtain ⟨x, hx, ex⟩ := last_mem hn
        have := ef_none.mp e _ (List.mem_map_of_mem (f := sg) hx)
        rw [show sg g = (g.thr, g.ans) from rfl, ef_one, if_neg (by simp only [sg] at this; omega)]
        rfl
/-! ### stairs from below -/
def Gf (p : Option (Option Int)) : List Stair → Nat → Option (Option Int)
  | [], _ => p
  | x :: r, b => if x.1 < (b : Int) then Gf (some x.2) r b else p
def Asc (p : Option (Option Int)) (lo : Int) : List Stair → Prop
  | [] => True
  | x :: r => lo ≤ x.1 ∧ some x.2 ≠ p ∧ Asc (some x.2) (x.1 + 1) r
theorem gf_or : ∀ (l : List Stair) (p : Option (Option Int)) (b : Nat), Gf p l b = (Gf none l b).or p
  | [], p, b => by
    unfold Gf
    rfl
  | x :: r, p, b => by
    unfold Gf
    split
    · rw [gf_or r (some x.2) b]
      cases Gf none r b <;> rfl
    · rfl
theorem asc_mem : ∀ {l : List Stair} {p : Option (Option Int)} {lo : Int}, Asc p lo l → ∀ x ∈ l, lo ≤ x.1
  | [], p, lo, _, x, h => by cases h
  | y :: r, p, lo, a, x, h => by
    unfold Asc at a
    rcases List.mem_cons.mp h with e | e
    · rw [e]
      exact a.1
    · have := asc_mem a.2.2 x e
      omega
theorem gf_high : ∀ {l : List Stair} {p : Option (Option Int)} {b : Nat}, (∀ x ∈ l, (b : Int) ≤ x.1) → Gf p l b = p
  | [], p, b, _ => rfl
  | x :: r, p, b, h => by
    unfold Gf
    rw [if_neg (by have := h x List.mem_cons_self; omega)]
theorem gf_some (l : List Stair) (a : Option Int) (b : Nat) : ∃ c, Gf (some a) l b = some c := by
  rw [gf_or]
  cases Gf none l b with
  | none => exact ⟨_, rfl⟩
  | some c => exact ⟨_, rfl⟩
theorem asc_uniq {U : Nat → Prop} : ∀ {l m : List Stair} {p : Option (Option Int)} {lo : Int}, -1 ≤ lo → Asc p lo l → Asc p lo m → (∀ x ∈ l, U (x.1 + 1).toNat) → (∀ x ∈ m, U (x.1 + 1).toNat) → (∀ b : Nat, lo < (b : Int) → U b → Gf p l b = Gf p m b) → l = m := by
  have key : ∀ {x : Stair} {r m : List Stair} {p : Option (Option Int)} {lo : Int}, -1 ≤ lo → Asc p lo (x :: r) → (∀ y ∈ m, x.1 < y.1) → U (x.1 + 1).toNat → (∀ b : Nat, lo < (b : Int) → U b → Gf p (x :: r) b = Gf p m b) → False := fun {x r m p lo} h0 a hm hu h => by
    unfold Asc at a
    have e := h (x.1 + 1).toNat (by omega) hu
    rw [gf_high (l := m) (fun y hy => by have := hm y hy; omega)] at e
    unfold Gf at e
    rw [if_pos (by omega), gf_high fun y hy => by have := asc_mem a.2.2 y hy; omega] at e
    exact a.2.1 e
  intro l
  induction l with
  | nil =>
    intro m p lo h0 a a' hl hm h
    cases m with
    | nil => rfl
    | cons y s => exact (key h0 a' (m := []) (fun z hz => by cases hz) (hm y List.mem_cons_self) fun b h1 h2 => (h b h1 h2).symm).elim
  | cons x r ih =>
    intro m p lo h0 a a' hl hm h
    cases m with
    | nil => exact (key h0 a (m := []) (fun z hz => by cases hz) (hl x List.mem_cons_self) h).elim
    | cons y s =>
      have a2 := a
      have b2 := a'
      unfold Asc at a2 b2
      rcases Int.lt_trichotomy x.1 y.1 with q | q | q
      · exact (key h0 a (m := y :: s) (fun z hz => by
          rcases List.mem_cons.mp hz with e | e
          · rw [e]
            exact q
          · have := asc_mem b2.2.2 z e
            omega) (hl x List.mem_cons_self) h).elim
      · have e := h (x.1 + 1).toNat (by omega) (hl x List.mem_cons_self)
        unfold Gf at e
        rw [if_pos (by omega), if_pos (by omega), gf_high (fun z hz => by have := asc_mem a2.2.2 z hz; omega), gf_high (fun z hz => by have := asc_mem b2.2.2 z hz; omega)] at e
        have e2 : x.2 = y.2 := Option.some.inj e
        have exy : x = y := Prod.ext q e2
        subst exy
        rw [ih (p := some x.2) (lo := x.1 + 1) (by omega) a2.2.2 b2.2.2 (fun z hz => hl z (List.mem_cons_of_mem _ hz)) (fun z hz => hm z (List.mem_cons_of_mem _ hz)) fun b h1 h2 => by
          have := h b (by omega) h2
          unfold Gf at this
          rw [if_pos (by omega), if_pos (by omega)] at this
          exact this]
      · exact (key h0 a' (m := x :: r) (fun z hz => by
          rcases List.mem_cons.mp hz with e | e
          · rw [e]
            exact q
          · have := asc_mem a2.2.2 z e
            omega) (hm y List.mem_cons_self) fun b h1 h2 => (h b h1 h2).symm).elim
/-! ### stairs of lows -/
/-- bodies up to a limit -/
def BelB (L : Option Int) (b : Nat) : Prop := ∀ u, L = some u → (b : Int) ≤ u
theorem st_rev (L : Option Int) (rev : List Stair) (g : Gate) (ov : over L g.thr = false) : (stStep L rev.reverse g).reverse = match rev with
    | x :: r => if x.2 = g.ans then sg g :: r else sg g :: x :: r
    | [] => [sg g] := by
  unfold stStep
  rw [if_neg (by rw [ov]; exact Bool.false_ne_true)]
  cases rev with
  | nil => rfl
  | cons x r =>
    have e1 : (x :: r).reverse.getLast? = some x := by rw [List.getLast?_reverse]; rfl
    have e2 : (x :: r).reverse.dropLast = r.reverse := by rw [List.reverse_cons, List.dropLast_concat]
    rw [e1, e2]
    show (List.reverse ((if some x.2 = some g.ans then _ else _) ++ _)) = _
    by_cases h : x.2 = g.ans
    · rw [if_pos (congrArg some h), List.reverse_append, List.reverse_reverse]
      show sg g :: r = if _ then _ else _
      rw [if_pos h]
    · rw [if_neg fun z => h (Option.some.inj z), List.reverse_append, List.reverse_reverse]
      show sg g :: x :: r = if _ then _ else _
      rw [if_neg h]
theorem asc_up {l : List Stair} {p : Option (Option Int)} {lo lo' : Int} (a : Asc p lo l) (h : lo' ≤ lo) : Asc p lo' l := by
  cases l with
  | nil => trivial
  | cons x r =>
    unfold Asc at a ⊢
    exact ⟨by omega, a.2.1, a.2.2⟩
theorem over_no {L : Option Int} {z : Int} (h : over L z = false) : ∀ u, L = some u → z < u := fun u e => by
  subst e
  unfold over at h
  have := of_decide_eq_false h
  omega
theorem over_yes {L : Option Int} {z : Int} (h : over L z = true) : ∃ u, L = some u ∧ u ≤ z := by
  cases L with
  | none => cases h
  | some u => exact ⟨u, rfl, of_decide_eq_true h⟩
theorem st_fold (L : Option Int) : ∀ (l : List Gate) (rev : List Stair), Desc l → (∀ g ∈ l, -1 ≤ g.thr) → (∀ g ∈ l, ∀ x ∈ rev, g.thr < x.1) → Asc none (-1) rev → (∀ x ∈ rev, ∀ u, L = some u → x.1 < u) →
    ∃ R, l.foldl (stStep L) rev.reverse = R.reverse ∧ Asc none (-1) R ∧ (∀ x ∈ R, ∀ u, L = some u → x.1 < u) ∧ ∀ b, BelB L b → Gf none R b = (Gf none rev b).or (Ef (l.map sg) b)
  | [], rev, d, h1, h2, a, hu => ⟨rev, rfl, a, hu, fun b hb => by rw [List.map_nil, ef_nil, Option.or_none]⟩
  | g :: l, rev, d, h1, h2, a, hu => by
    obtain ⟨d1, d2⟩ := List.pairwise_cons.mp d
    rw [List.foldl_cons]
    have k1 := fun y (hy : y ∈ l) => h1 y (List.mem_cons_of_mem _ hy)
    cases ov : over L g.thr with
    | true =>
      obtain ⟨u, eu, hu2⟩ := over_yes ov
      have e : stStep L rev.reverse g = rev.reverse := by
        unfold stStep
        rw [if_pos ov]
      rw [e]
      obtain ⟨R, r1, r2, r3, r4⟩ := st_fold L l rev d2 k1 (fun y hy => h2 y (List.mem_cons_of_mem _ hy)) a hu
      refine ⟨R, r1, r2, r3, fun b hb => ?_⟩
      rw [r4 b hb, List.map_cons, show sg g :: l.map sg = [(g.thr, g.ans)] ++ l.map sg from rfl, ef_app, ef_one, if_neg (by have := hb u eu; omega)]
      rfl
    | false =>
      have hg := over_no ov
      have a1 : -1 ≤ g.thr := h1 g List.mem_cons_self
      have step : ∀ rev2, (stStep L rev.reverse g).reverse = rev2 → Asc none (-1) rev2 → (∀ x ∈ rev2, x = sg g ∨ x ∈ rev) → (∀ b, Gf none rev2 b = (Gf none rev b).or (if g.thr < (b : Int) then some g.ans else none)) →
          ∃ R, l.foldl (stStep L) (stStep L rev.reverse g) = R.reverse ∧ Asc none (-1) R ∧ (∀ x ∈ R, ∀ u, L = some u → x.1 < u) ∧ ∀ b, BelB L b → Gf none R b = (Gf none rev b).or (Ef ((g :: l).map sg) b) := fun rev2 e a2 hm he => by
        have e' : stStep L rev.reverse g = rev2.reverse := by rw [← e, List.reverse_reverse]
        rw [e']
        obtain ⟨R, r1, r2, r3, r4⟩ := st_fold L l rev2 d2 k1 (fun y hy x hx => by
          rcases hm x hx with z | z
          · rw [z]
            exact d1 y hy
          · exact h2 y (List.mem_cons_of_mem _ hy) x z) a2 (fun x hx => by
          rcases hm x hx with z | z
          · rw [z]
            exact hg
          · exact hu x z)
        refine ⟨R, r1, r2, r3, fun b hb => ?_⟩
        rw [r4 b hb, he b, List.map_cons, show sg g :: l.map sg = [(g.thr, g.ans)] ++ l.map sg from rfl, ef_app, ef_one, Option.or_assoc]
      have h2g := h2 g List.mem_cons_self
      have push : (∀ x ∈ rev, g.thr < x.1) → ∀ b, Gf none (sg g :: rev) b = (Gf none rev b).or (if g.thr < (b : Int) then some g.ans else none) := fun hr b => by
        conv => lhs; unfold Gf
        show (if g.thr < (b : Int) then Gf (some g.ans) rev b else none) = _
        split
        · exact gf_or rev (some g.ans) b
        · rw [gf_high fun x hx => by have := hr x hx; omega]
          rfl
      cases rev with
      | nil =>
        refine step [sg g] (st_rev L [] g ov) ?_ (fun x hx => .inl (List.mem_singleton.mp hx)) (push h2g)
        unfold Asc
        exact ⟨a1, (fun e => nomatch e), trivial⟩
      | cons x r =>
        have hx := h2g x List.mem_cons_self
        have a' := a
        unfold Asc at a'
        by_cases q : x.2 = g.ans
        · refine step (sg g :: r) (by rw [st_rev L (x :: r) g ov]; exact if_pos q) ?_ (fun y hy => (List.mem_cons.mp hy).imp id fun z => List.mem_cons_of_mem _ z) fun b => ?_
          · unfold Asc
            refine ⟨a1, (fun e => nomatch e), ?_⟩
            rw [show (sg g).2 = x.2 from q.symm]
            exact asc_up a'.2.2 (by show g.thr + 1 ≤ x.1 + 1; omega)
          · unfold Gf
            show (if g.thr < (b : Int) then Gf (some g.ans) r b else none) = _
            by_cases h3 : x.1 < (b : Int)
            · rw [if_pos (by omega), if_pos h3, q, if_pos (by omega)]
              obtain ⟨c, ec⟩ := gf_some r g.ans b
              rw [ec]
              rfl
            · rw [if_neg h3]
              split
              · rw [gf_high fun y hy => by have := asc_mem a'.2.2 y hy; omega]
                rfl
              · rfl
        · refine step (sg g :: x :: r) (by rw [st_rev L (x :: r) g ov]; exact if_neg q) ?_ (fun y hy => List.mem_cons.mp hy) (push h2g)
          unfold Asc
          refine ⟨a1, (fun e => nomatch e), ?_⟩
          unfold Asc
          exact ⟨by show g.thr + 1 ≤ x.1; omega, fun e => q (Option.some.inj e), a'.2.2⟩
/-- the stairs of a way: canonical, and they tell the ends -/
theorem stairs_ok (L : Option Int) {gl : List Gate} (h1 : ∀ g ∈ gl, -1 ≤ g.thr) : ∃ R, stairsOf L (lowsOf gl) = R.reverse ∧ Asc none (-1) R ∧ (∀ x ∈ R, ∀ u, L = some u → x.1 < u) ∧ ∀ b, BelB L b → Gf none R b = Ef (gl.map sg) b := by
  have d : Desc (lowsOf gl) := lows_desc gl [] List.Pairwise.nil
  obtain ⟨R, r1, r2, r3, r4⟩ := st_fold L (lowsOf gl) [] d (fun g hg => by
    rcases lows_mem gl [] g hg with z | z
    · cases z
    · exact h1 g z) (fun g _ x hx => by cases hx) trivial (fun x hx => by cases hx)
  refine ⟨R, r1, r2, r3, fun b hb => ?_⟩
  rw [r4 b hb]
  have := lows_ef b gl []
  rw [List.map_nil, ef_nil] at this
  rw [show Ef ((lowsOf gl).map sg) b = Ef (gl.map sg) b from this]
  rfl
theorem stairs_eq (L : Option Int) {gl gm : List Gate} (h1 : ∀ g ∈ gl, -1 ≤ g.thr) (h2 : ∀ g ∈ gm, -1 ≤ g.thr) : stairsOf L (lowsOf gl) = stairsOf L (lowsOf gm) ↔ ∀ b, BelB L b → Ef (gl.map sg) b = Ef (gm.map sg) b := by
  obtain ⟨R, r1, r2, r3, r4⟩ := stairs_ok L h1
  obtain ⟨S, s1, s2, s3, s4⟩ := stairs_ok L h2
  rw [r1, s1]
  constructor
  · intro e b hb
    have e : R = S := List.reverse_inj.mp e
    rw [← r4 b hb, ← s4 b hb, e]
  · intro h
    rw [asc_uniq (U := BelB L) (Int.le_refl _) r2 s2 (fun x hx u e => by have := r3 x hx u e; have := asc_mem r2 x hx; omega) (fun x hx u e => by have := s3 x hx u e; have := asc_mem s2 x hx; omega) fun b _ hb => by rw [r4 b hb, s4 b hb, h b hb]]
/-- below the limit of a form: where a letter comes -/
theorem lim_iff (L : Option Int) (h0 : ∀ u, L = some u → 0 ≤ u) {gl : List Gate} (h1 : ∀ g ∈ gl, -1 ≤ g.thr) (p : Nat) : CP.Bel (limOf (stairsOf L (lowsOf gl)) L) p ↔ BelB L (p + 1) ∧ Ef (gl.map sg) (p + 1) = none := by
  obtain ⟨R, r1, r2, r3, r4⟩ := stairs_ok L h1
  rw [r1]
  unfold limOf
  cases R with
  | nil =>
    show CP.Bel L p ↔ _
    constructor
    · intro h
      have hb : BelB L (p + 1) := fun u e => by
        have := h u e
        have := h0 u e
        omega
      exact ⟨hb, (r4 _ hb).symm⟩
    · rintro ⟨h, _⟩ u e
      have := h u e
      omega
  | cons x r =>
    have e1 : (x :: r).reverse.getLast? = some x := by rw [List.getLast?_reverse]; rfl
    rw [e1]
    show CP.Bel (some (max x.1 0)) p ↔ _
    have hx := asc_mem r2 x List.mem_cons_self
    constructor
    · intro h
      have h := h _ rfl
      have hb : BelB L (p + 1) := fun u e => by
        have := r3 x List.mem_cons_self u e
        omega
      refine ⟨hb, ?_⟩
      rw [← r4 _ hb]
      unfold Gf
      rw [if_neg (by omega)]
    · rintro ⟨hb, h⟩ z e
      cases e
      rw [← r4 _ hb] at h
      unfold Gf at h
      by_cases q : x.1 < ((p + 1 : Nat) : Int)
      · rw [if_pos q] at h
        obtain ⟨c, ec⟩ := gf_some r x.2 (p + 1)
        rw [ec] at h
        cases h
      · omega
end M

end
section
set_option autoImplicit false
set_option Elab.async false
set_option linter.all false
set_option maxRecDepth 100000
set_option maxHeartbeats 4000000
/-! ## ways that do the same stay so behind the same step -/
namespace M
def eg (se : Bool) (h : Nat) (s : Step) (cs : List Nat) : List Stair := (Step.gates se h s cs).map sg
def egs (se : Bool) (h : Nat) : List Step → List Nat → List Stair
  | [], _ => []
  | s :: r, cs => eg se h s cs ++ egs se h r (nxC se h cs s)
theorem sg_at (i : Nat) (l : List Gate) : (l.map (at_ i)).map sg = l.map sg := by
  rw [List.map_map]
  rfl
theorem gates_egs (se : Bool) (h : Nat) : ∀ (s : List Step) (i : Nat) (cs : List Nat), (Step.gatesAll se h s i cs).map sg = egs se h s cs
  | [], i, cs => by
    unfold Step.gatesAll egs
    rfl
  | x :: s, i, cs => by
    rw [gatesAll_cons, List.map_append, sg_at, gates_egs se h s]
    rfl
theorem chE_app (se : Bool) (h : Nat) : ∀ (a b : List Step) (cs : List Nat), chE se h (a ++ b) cs = chE se h b (chE se h a cs)
  | [], b, cs => rfl
  | x :: a, b, cs => chE_app se h a b _
theorem egs_app (se : Bool) (h : Nat) : ∀ (a b : List Step) (cs : List Nat), egs se h (a ++ b) cs = egs se h a cs ++ egs se h b (chE se h a cs)
  | [], b, cs => rfl
  | x :: a, b, cs => by
    show eg se h x cs ++ egs se h (a ++ b) _ = (eg se h x cs ++ egs se h a _) ++ egs se h b _
    rw [egs_app se h a b, List.append_assoc]
    rfl
structure Rl (l m : List Stair) (C D : List Nat) : Prop where
  ef : ∀ b, Ef l b = Ef m b
  ch : ∀ p, Ef l (p + 1) = none → N.fm C p = N.fm D p
theorem Rl.rfl' (l : List Stair) (C : List Nat) : Rl l l C C := ⟨fun _ => rfl, fun _ _ => rfl⟩
theorem Rl.symm {l m : List Stair} {C D : List Nat} (r : Rl l m C D) : Rl m l D C := ⟨fun b => (r.ef b).symm, fun p h => (r.ch p (by rw [r.ef]; exact h)).symm⟩
theorem Rl.trans {l m n : List Stair} {C D E : List Nat} (r : Rl l m C D) (q : Rl m n D E) : Rl l n C E := ⟨fun b => (r.ef b).trans (q.ef b), fun p h => (r.ch p h).trans (q.ch p (by rw [← r.ef]; exact h))⟩
theorem Rl.low {l m : List Stair} {C D : List Nat} (r : Rl l m C D) {b : Nat} (h : Ef l b = none) : ∀ p, p < b → N.fm C p = N.fm D p := fun p hp => r.ch p (ef_mono h hp)
theorem leaves_iff {C : List Nat} (f : N.Fall C) (x : Int) : leaves C x = true ↔ ∀ p : Nat, 1 ≤ p → (p : Int) ≤ x → N.fm C p = false := by
  unfold leaves
  by_cases h : C = []
  · subst h
    simp only [decide_true, Bool.true_or, true_iff]
    intro p h1 _
    exact N.fm_nil h1
  · rw [decide_eq_false h, Bool.false_or, decide_eq_true_eq]
    rcases Int.lt_or_le x 1 with q | q
    · constructor
      · intro _ p h1 h2
        omega
      · intro _
        have : 0 < C.getLastD 0 := by
          have e : C.getLastD 0 = C.getLast h := by
            cases C with
            | nil => exact absurd rfl h
            | cons c r => rw [List.getLastD_cons, List.getLast_eq_getLastD]
          rw [e]
          exact f.pos _ (List.getLast_mem h)
        omega
    · have e : x = ((x.toNat : Nat) : Int) := by omega
      rw [e]
      have := N.leaves_fm f h x.toNat
      constructor
      · intro a p h1 h2
        exact this.mp (by omega) p h1 (by omega)
      · intro a
        have := this.mpr fun p h1 h2 => a p h1 (by omega)
        omega
theorem leaves_congr {C D : List Nat} (fC : N.Fall C) (fD : N.Fall D) {b : Nat} (h : ∀ p, p < b → N.fm C p = N.fm D p) {x : Int} (hx : x < (b : Int)) : leaves C x = leaves D x := by
  rw [Bool.eq_iff_iff, leaves_iff fC, leaves_iff fD]
  constructor
  · intro a p h1 h2
    rw [← h p (by omega)]
    exact a p h1 h2
  · intro a p h1 h2
    rw [h p (by omega)]
    exact a p h1 h2
theorem most_ef {C : List Nat} (f : N.Fall C) {n : Nat} (hn : 1 ≤ n) (b : Nat) : Ef ((mostG n C).map sg) b = if 0 < b ∧ n < N.L C b then some none else none := by
  unfold mostG
  by_cases h : C = []
  · subst h
    rw [if_pos rfl, if_neg]
    · rfl
    · rintro ⟨_, q⟩
      have : N.L [] b = 1 := rfl
      omega
  · rw [if_neg h]
    show Ef [(((N.B C n : Nat) : Int), none)] b = _
    rw [ef_one]
    by_cases hb : 0 < b
    · have := N.below C f b hb n fun e => absurd e h
      by_cases q : N.B C n < b
      · rw [if_pos (by omega), if_pos ⟨hb, this.mp q⟩]
      · rw [if_neg (by omega), if_neg fun z => q (this.mpr z.2)]
    · rw [if_neg (by omega), if_neg fun z => hb z.1]
theorem most_congr {C D : List Nat} (fC : N.Fall C) (fD : N.Fall D) {n : Nat} (hn : 1 ≤ n) {b : Nat} (h : ∀ p, p < b → N.fm C p = N.fm D p) : Ef ((mostG n C).map sg) b = Ef ((mostG n D).map sg) b := by
  rw [most_ef fC hn, most_ef fD hn]
  cases b with
  | zero => rw [if_neg fun z => absurd z.1 (by decide), if_neg fun z => absurd z.1 (by decide)]
  | succ b => rw [N.L_congr fC fD b h]
theorem tun1_ef (h ih : Nat) (t : TW) (C : List Nat) (g : Gate) (b : Nat) : Ef ((tunG1 h ih t C g).map sg) b = if leaves C (g.thr - (h : Int)) = true ∧ g.thr - (h : Int) < (b : Int) then some (turnG g.ans ih t) else none := by
  unfold tunG1
  by_cases q : leaves C (g.thr - (h : Int)) = true
  · rw [if_pos q]
    show Ef [(max (g.thr - (h : Int)) (-1), turnG g.ans ih t)] b = _
    rw [ef_one]
    by_cases z : g.thr - (h : Int) < (b : Int)
    · rw [if_pos (by omega), if_pos ⟨q, z⟩]
    · rw [if_neg (by omega), if_neg fun y => z y.2]
  · rw [if_neg q, if_neg fun y => q y.1]
    rfl
theorem tun_congr {h ih : Nat} {t : TW} {C D : List Nat} (fC : N.Fall C) (fD : N.Fall D) {b : Nat} (k : ∀ p, p < b → N.fm C p = N.fm D p) : ∀ l : List Gate, Ef ((tunG h ih t C l).map sg) b = Ef ((tunG h ih t D l).map sg) b
  | [] => rfl
  | g :: l => by
    unfold tunG
    rw [List.flatMap_cons, List.flatMap_cons, List.map_append, List.map_append, ef_app, ef_app, tun1_ef, tun1_ef]
    have := tun_congr (h := h) (ih := ih) (t := t) fC fD k l
    unfold tunG at this
    rw [this]
    congr 1
    by_cases z : g.thr - (h : Int) < (b : Int)
    · rw [leaves_congr fC fD k z]
    · rw [if_neg fun y => z y.2, if_neg fun y => z y.2]
theorem eg_congr {se : Bool} {h : Nat} {s : Step} (f : Step.fine h s) {C D : List Nat} (fC : N.Fall C) (fD : N.Fall D) {b : Nat} (k : ∀ p, p < b → N.fm C p = N.fm D p) : Ef (eg se h s C) b = Ef (eg se h s D) b := by
  unfold eg
  cases s with
  | road size ts lw =>
    unfold Step.gates roadG
    by_cases c : se = false ∧ lw = .cut
    · rw [if_pos (.inl c), if_pos (.inl c)]
    · by_cases z : (size : Int) - (h : Int) < (b : Int)
      · rw [leaves_congr fC fD k z]
      · have no : ∀ E : List Nat, Ef (((if (se = false ∧ lw = .cut) ∨ leaves E ((size : Int) - (h : Int)) = false then [] else [⟨[], (size : Int) - (h : Int), if (se = true ∧ ts = true) ∨ (se = false ∧ lw = .tell) then some (size : Int) else none⟩]) : List Gate).map sg) b = none := fun E => by
          split
          · rfl
          · show Ef [(_, _)] b = _
            rw [ef_one, if_neg z]
        rw [no, no]
  | join most =>
    unfold Step.gates
    unfold Step.fine at f
    exact most_congr fC fD f.1 k
  | tunnel w most t =>
    unfold Step.gates
    exact tun_congr fC fD k _
theorem nx_congr {se : Bool} {h : Nat} {s : Step} (f : Step.fine h s) {C D : List Nat} (fC : N.Fall C) (fD : N.Fall D) {p : Nat} (k : ∀ q, q ≤ p → N.fm C q = N.fm D q) : N.fm (nxC se h C s) p = N.fm (nxC se h D s) p := by
  cases s with
  | road size ts lw =>
    unfold nxC
    unfold Step.fine at f
    by_cases c : se = false ∧ lw = .cut
    · simp only [if_pos c]
      unfold N.fm
      rw [N.rem_add fC (by omega) (by omega), N.rem_add fD (by omega) (by omega), N.rem_congr fC fD p k]
    · simp only [if_neg c]
      exact k p (Nat.le_refl _)
  | join most => rfl
  | tunnel w most t => exact k p (Nat.le_refl _)
theorem Rl.step {se : Bool} {h : Nat} {s : Step} (f : Step.fine h s) {l m : List Stair} {C D : List Nat} (fC : N.Fall C) (fD : N.Fall D) (r : Rl l m C D) : Rl (l ++ eg se h s C) (m ++ eg se h s D) (nxC se h C s) (nxC se h D s) := by
  refine ⟨fun b => ?_, fun p e => ?_⟩
  · rw [ef_app, ef_app, ← r.ef b]
    cases e : Ef l b with
    | some a => rfl
    | none => rw [eg_congr f fC fD (r.low e)]
  · rw [ef_app] at e
    have e2 : Ef l (p + 1) = none := by
      cases q : Ef l (p + 1) with
      | none => rfl
      | some a =>
        rw [q] at e
        cases e
    exact nx_congr f fC fD fun q hq => r.low e2 q (by omega)
theorem Rl.steps {se : Bool} {h : Nat} : ∀ {s : List Step}, Step.fineAll h s → ∀ {l m : List Stair} {C D : List Nat}, Ck C → Ck D → Rl l m C D → Rl (l ++ egs se h s C) (m ++ egs se h s D) (chE se h s C) (chE se h s D)
  | [], _, l, m, C, D, _, _, r => by
    unfold egs
    rw [List.append_nil, List.append_nil]
    exact r
  | x :: s, f, l, m, C, D, kC, kD, r => by
    unfold Step.fineAll at f
    have q := (r.step (se := se) f.1 kC.fall kD.fall)
    have := Rl.steps (se := se) f.2 (ck_nx (se := se) kC f.1) (ck_nx (se := se) kD f.1) q
    rw [List.append_assoc, List.append_assoc] at this
    exact this
def endS (se : Bool) (w : Way) : List Stair := egs se w.head w.steps []
def chW (se : Bool) (w : Way) : List Nat := chE se w.head w.steps []
theorem gates_end (se : Bool) (w : Way) : (Way.gates se w).map sg = endS se w := by
  cases w
  unfold Way.gates
  exact gates_egs se _ _ _ _
theorem chE_true (h : Nat) : ∀ s : List Step, chE true h s [] = []
  | [] => rfl
  | x :: s => by
    have : nxC true h [] x = [] := by
      cases x with
      | road size ts lw =>
        simp [nxC]
      | join => rfl
      | tunnel => rfl
    show chE true h s (nxC true h [] x) = []
    rw [this]
    exact chE_true h s
def Same (w u : Way) : Prop := ∀ se, Rl (endS se w) (endS se u) (chW se w) (chW se u)
/-- one and the same chain of steps behind -/
theorem same_app {h : Nat} {a b s : List Step} (f : Step.fineAll h s) (ka : ∀ se, Ck (chE se h a [])) (kb : ∀ se, Ck (chE se h b [])) (r : Same (.mk h a) (.mk h b)) : Same (.mk h (a ++ s)) (.mk h (b ++ s)) := fun se => by
  have q : Rl (egs se h a [] ++ egs se h s (chE se h a [])) (egs se h b [] ++ egs se h s (chE se h b [])) (chE se h s (chE se h a [])) (chE se h s (chE se h b [])) := (r se).steps (se := se) f (ka se) (kb se)
  show Rl (egs se h (a ++ s) []) (egs se h (b ++ s) []) (chE se h (a ++ s) []) (chE se h (b ++ s) [])
  rw [egs_app, egs_app, chE_app, chE_app]
  exact q
/-- inside a tunnel -/
theorem same_tun {h n : Nat} {t : TW} {w u : Way} (hn : 1 ≤ n) (hw : w.head = u.head) (fw : ∀ se, N.Fall (chW se w)) (fu : ∀ se, N.Fall (chW se u)) (r : Same w u) : Same (.mk h [.tunnel w n t]) (.mk h [.tunnel u n t]) := fun se => by
  have key : ∀ (b : Nat) (l : List Gate), Ef ((tunG h w.head t [] l).map sg) b = (Ef (l.map sg) (b + h)).map fun a => turnG a w.head t := fun b l => by
    induction l with
    | nil => rfl
    | cons g l ih =>
      unfold tunG at ih ⊢
      rw [List.flatMap_cons, List.map_append, ef_app, tun1_ef, ih, List.map_cons, show sg g :: l.map sg = [(g.thr, g.ans)] ++ l.map sg from rfl, ef_app, ef_one]
      have hl : leaves [] (g.thr - (h : Int)) = true := rfl
      by_cases z : g.thr - (h : Int) < (b : Int)
      · rw [if_pos ⟨hl, z⟩, if_pos (by omega)]
        rfl
      · rw [if_neg fun y => z y.2, if_neg (by omega)]
        rfl
  have body : ∀ (v : Way), v.head = w.head → endS se (.mk h [.tunnel v n t]) = (tunG h w.head t [] (Way.gates se v ++ mostG n (chW se v))).map sg := fun v hv => by
    show eg se h (.tunnel v n t) [] ++ [] = _
    rw [List.append_nil]
    unfold eg Step.gates chW
    rw [hv]
  refine ⟨fun b => ?_, fun p _ => rfl⟩
  rw [body w rfl, body u hw.symm, key, key, List.map_append, List.map_append, gates_end, gates_end, ef_app, ef_app, ← (r se).ef]
  cases e : Ef (endS se w) (b + h) with
  | some a => rfl
  | none => rw [most_congr (fw se) (fu se) hn ((r se).low e)]
/-! ### idle steps -/
theorem same_of {h : Nat} {a x y s : List Step} (f : Step.fineAll h s) (k : ∀ se, Ck (chE se h (a ++ x) [])) (k2 : ∀ se, Ck (chE se h (a ++ y) []))
    (q : ∀ se, Rl (egs se h a [] ++ egs se h x (chE se h a [])) (egs se h a [] ++ egs se h y (chE se h a [])) (chE se h x (chE se h a [])) (chE se h y (chE se h a []))) : Same (.mk h (a ++ x ++ s)) (.mk h (a ++ y ++ s)) := by
  refine same_app f k k2 fun se => ?_
  unfold endS chW
  show Rl (egs se h (a ++ x) []) (egs se h (a ++ y) []) (chE se h (a ++ x) []) (chE se h (a ++ y) [])
  rw [egs_app, egs_app, chE_app, chE_app]
  exact q se
/-- a join ahead -/
theorem same_join {h n : Nat} {s : List Step} (f : Step.fineAll h s) : Same (.mk h s) (.mk h (.join n :: s)) := fun se => by
  have e : egs se h (.join n :: s) [] = egs se h s [] := by
    show eg se h (.join n) [] ++ egs se h s (nxC se h [] (.join n)) = _
    unfold eg Step.gates mostG
    rw [if_pos rfl]
    rfl
  unfold endS chW
  show Rl (egs se h s []) (egs se h (.join n :: s) []) (chE se h s []) (chE se h (.join n :: s) [])
  rw [e]
  exact Rl.rfl' _ _
/-- what a list of ends adds, where the first ones tell it already -/
theorem or_none_of {a b : Option (Option Int)} (h : a = none → b = none) : a.or b = a := by
  cases a with
  | some x => rfl
  | none =>
    rw [h rfl]
    rfl
/-- a step that is no tunnel, twice -/
theorem twice {se : Bool} {h : Nat} {x : Step} (f : Step.fine h x) (nt : ∀ w n t, x ≠ .tunnel w n t) {l : List Stair} {C : List Nat} (kC : Ck C) : Rl (l ++ egs se h [x] C) (l ++ egs se h [x, x] C) (chE se h [x] C) (chE se h [x, x] C) := by
  have e1 : egs se h [x] C = eg se h x C := List.append_nil _
  have e2 : egs se h [x, x] C = eg se h x C ++ eg se h x (nxC se h C x) := by
    show eg se h x C ++ (eg se h x (nxC se h C x) ++ []) = _
    rw [List.append_nil]
  rw [e1, e2]
  show Rl _ _ (nxC se h C x) (nxC se h (nxC se h C x) x)
  cases x with
  | tunnel w n t => exact absurd rfl (nt w n t)
  | join n =>
    have e3 : eg se h (.join n) (nxC se h C (.join n)) = [] := by
      unfold nxC eg Step.gates mostG
      rw [if_pos rfl]
      rfl
    rw [e3, List.append_nil]
    exact Rl.rfl' _ _
  | road size ts lw =>
    unfold Step.fine at f
    by_cases c : se = false ∧ lw = .cut
    · have e4 : ∀ D, eg se h (.road size ts lw) D = [] := fun D => by
        unfold eg Step.gates roadG
        rw [if_pos (.inl c)]
        rfl
      rw [e4, e4]
      simp only [List.append_nil]
      refine ⟨fun _ => rfl, fun p _ => ?_⟩
      unfold nxC
      simp only [if_pos c]
      unfold N.fm
      have hc : 0 < size - h := by omega
      have ck2 : N.Fall (N.add C [size - h]) := N.add_fall kC.fall ⟨hc, fun d hd => by simp at hd, trivial⟩
      rw [N.rem_add ck2 hc (by omega), N.rem_add kC.fall hc (by omega), Nat.mod_mod]
    · have e5 : nxC se h C (.road size ts lw) = C := by
        unfold nxC
        exact if_neg c
      rw [e5, e5]
      refine ⟨fun b => ?_, fun p _ => rfl⟩
      rw [ef_app, ef_app, ef_app, or_none_of id]
/-- a road twice as great ahead of one that tells nothing -/
theorem more {se : Bool} {h c : Nat} {lw : LW} (hc : 1 ≤ c) (h2 : h + 2 * c ≤ 1000) (nl : lw ≠ .tell) {l : List Stair} {C : List Nat} (kC : Ck C) : Rl (l ++ egs se h [.road (h + c) false lw] C) (l ++ egs se h [.road (h + 2 * c) false lw, .road (h + c) false lw] C) (chE se h [.road (h + c) false lw] C) (chE se h [.road (h + 2 * c) false lw, .road (h + c) false lw] C) := by
  have e1 : egs se h [.road (h + c) false lw] C = eg se h (.road (h + c) false lw) C := List.append_nil _
  have e2 : egs se h [.road (h + 2 * c) false lw, .road (h + c) false lw] C = eg se h (.road (h + 2 * c) false lw) C ++ eg se h (.road (h + c) false lw) (nxC se h C (.road (h + 2 * c) false lw)) := by
    show eg se h _ C ++ (eg se h _ (nxC se h C _) ++ []) = _
    rw [List.append_nil]
  rw [e1, e2]
  show Rl _ _ (nxC se h C (.road (h + c) false lw)) (nxC se h (nxC se h C (.road (h + 2 * c) false lw)) (.road (h + c) false lw))
  by_cases k : se = false ∧ lw = .cut
  · have e4 : ∀ n D, eg se h (.road n false lw) D = [] := fun n D => by
      unfold eg Step.gates roadG
      rw [if_pos (.inl k)]
      rfl
    rw [e4, e4, e4]
    simp only [List.append_nil]
    refine ⟨fun _ => rfl, fun p _ => ?_⟩
    unfold nxC
    simp only [if_pos k]
    unfold N.fm
    rw [show h + c - h = c by omega, show h + 2 * c - h = 2 * c by omega]
    have ck2 : N.Fall (N.add C [2 * c]) := N.add_fall kC.fall ⟨by omega, fun d hd => by simp at hd, trivial⟩
    rw [N.rem_add ck2 (by omega) (by omega), N.rem_add kC.fall (by omega) (by omega), N.rem_add kC.fall (by omega) (by omega), Nat.mod_mod_of_dvd _ (Nat.dvd_mul_left c 2)]
  · have e5 : ∀ n, nxC se h C (.road n false lw) = C := fun n => by
      unfold nxC
      exact if_neg k
    rw [e5, e5]
    refine ⟨fun b => ?_, fun p _ => rfl⟩
    have ans : (if (se = true ∧ false = true) ∨ (se = false ∧ lw = .tell) then some ((h + c : Nat) : Int) else none) = (none : Option Int) := if_neg fun z => z.elim (fun z => nomatch z.2) fun z => nl z.2
    have ans2 : (if (se = true ∧ false = true) ∨ (se = false ∧ lw = .tell) then some ((h + 2 * c : Nat) : Int) else none) = (none : Option Int) := if_neg fun z => z.elim (fun z => nomatch z.2) fun z => nl z.2
    have ge : ∀ n : Nat, (if (se = true ∧ false = true) ∨ (se = false ∧ lw = .tell) then some ((n : Nat) : Int) else none) = (none : Option Int) → ∀ b, Ef (eg se h (.road n false lw) C) b = if leaves C ((n : Int) - (h : Int)) = true ∧ (n : Int) - (h : Int) < (b : Int) then some none else none := fun n hn b => by
      unfold eg Step.gates roadG
      by_cases q : leaves C ((n : Int) - (h : Int)) = true
      · have n1 : ¬ ((se = false ∧ lw = .cut) ∨ leaves C ((n : Int) - (h : Int)) = false) := fun z => z.elim k fun z => by
          rw [q] at z
          cases z
        rw [if_neg n1, hn]
        show Ef [(_, _)] b = _
        rw [ef_one]
        by_cases z : (n : Int) - (h : Int) < (b : Int)
        · rw [if_pos z, if_pos ⟨q, z⟩]
        · rw [if_neg z, if_neg fun y => z y.2]
      · rw [if_pos (.inr (Bool.eq_false_iff.mpr q)), if_neg fun y => q y.1]
        rfl
    rw [ef_app, ef_app, ef_app, ge (h + c) ans, ge (h + 2 * c) ans2]
    congr 1
    by_cases q : leaves C (((h + 2 * c : Nat) : Int) - (h : Int)) = true ∧ ((h + 2 * c : Nat) : Int) - (h : Int) < (b : Int)
    · rw [if_pos q]
      have : leaves C (((h + c : Nat) : Int) - (h : Int)) = true := (leaves_iff kC.fall _).mpr fun p h1 h3 => (leaves_iff kC.fall _).mp q.1 p h1 (by omega)
      rw [if_pos ⟨this, by have := q.2; omega⟩]
      rfl
    · rw [if_neg q]
      rfl
end M

end
section
set_option autoImplicit false
set_option Elab.async false
set_option linter.all false
set_option maxRecDepth 100000
set_option maxHeartbeats 4000000
/-! ## alike, parting, lean: what they tell -/
namespace M
/-- the least body of which stairs from below tell another end -/
def pr : List Stair → List Stair → Option Int
  | [], [] => none
  | x :: _, [] => some (x.1 + 1)
  | [], y :: _ => some (y.1 + 1)
  | x :: r, y :: s => if x = y then pr r s else some (min x.1 y.1 + 1)
theorem idx_cons (x y : Stair) (r s : List Stair) : stIdx (x :: r) (y :: s) = if x = y then (stIdx r s).map (· + 1) else some 0 := by
  unfold stIdx
  rw [List.length_cons, List.length_cons, Nat.succ_min_succ, List.range_succ_eq_map]
  by_cases h : x = y
  · subst h
    rw [if_pos rfl, List.find?_cons_of_neg (by simp), List.find?_map]
    congr 1
  · rw [if_neg h, List.find?_cons_of_pos (by simp [h])]
theorem stPart_pr (a b : List Stair) : stPart a b = pr a.reverse b.reverse := by
  have key : ∀ A B : List Stair, (match stIdx A B with
      | some i => (match A[i]?, B[i]? with
        | some x, some y => some (min x.1 y.1 + 1)
        | _, _ => none)
      | none => if A.length > min A.length B.length then (A[min A.length B.length]?).map (fun s => s.1 + 1) else (B[min A.length B.length]?).map fun s => s.1 + 1) = pr A B := fun A => by
    induction A with
    | nil =>
      intro B
      cases B with
      | nil => rfl
      | cons y s =>
        have e : stIdx [] (y :: s) = none := by
          unfold stIdx
          rw [List.length_nil, Nat.zero_min]
          rfl
        rw [e]
        rfl
    | cons x r ih =>
      intro B
      cases B with
      | nil =>
        have e : stIdx (x :: r) [] = none := by
          unfold stIdx
          rw [List.length_nil, Nat.min_zero]
          rfl
        rw [e]
        show (if (x :: r).length > min (x :: r).length 0 then _ else _) = _
        rw [Nat.min_zero, if_pos (show (x :: r).length > 0 from Nat.succ_pos _)]
        rfl
      | cons y s =>
        rw [idx_cons]
        unfold pr
        by_cases h : x = y
        · rw [if_pos h, if_pos h, ← ih s]
          cases stIdx r s with
          | none =>
            show (if (x :: r).length > min (x :: r).length (y :: s).length then _ else _) = _
            rw [List.length_cons, List.length_cons, Nat.succ_min_succ]
            by_cases z : r.length > min r.length s.length
            · rw [if_pos (by omega), if_pos z]
              rfl
            · rw [if_neg (by omega), if_neg z]
              rfl
          | some i => rfl
        · rw [if_neg h, if_neg h]
          rfl
  have := key a.reverse b.reverse
  rw [List.length_reverse, List.length_reverse] at this
  exact this
theorem pr_none : ∀ {A B : List Stair}, pr A B = none → A = B
  | [], [], _ => rfl
  | _ :: _, [], h => by cases h
  | [], _ :: _, h => by cases h
  | x :: r, y :: s, h => by
    unfold pr at h
    split at h
    · rename_i e
      rw [e, pr_none h]
    · cases h
theorem pr_self : ∀ A : List Stair, pr A A = none
  | [] => rfl
  | x :: r => by
    unfold pr
    rw [if_pos rfl]
    exact pr_self r
theorem pr_some : ∀ {A B : List Stair} {p : Option (Option Int)} {lo z : Int}, pr A B = some z → -1 ≤ lo → Asc p lo A → Asc p lo B → lo < z ∧ Gf p A z.toNat ≠ Gf p B z.toNat ∧ ∀ b : Nat, (b : Int) < z → Gf p A b = Gf p B b
  | [], [], p, lo, z, h, _, _, _ => by cases h
  | x :: r, [], p, lo, z, h, h0, a, _ => by
    unfold Asc at a
    have e : z = x.1 + 1 := by
      unfold pr at h
      cases h
      rfl
    refine ⟨by omega, ?_, fun b hb => ?_⟩
    · unfold Gf
      rw [if_pos (by omega), gf_high fun y hy => by have := asc_mem a.2.2 y hy; omega]
      exact a.2.1
    · unfold Gf
      rw [if_neg (by omega)]
  | [], y :: s, p, lo, z, h, h0, _, a => by
    unfold Asc at a
    have e : z = y.1 + 1 := by
      unfold pr at h
      cases h
      rfl
    refine ⟨by omega, ?_, fun b hb => ?_⟩
    · unfold Gf
      rw [if_pos (by omega), gf_high fun y hy => by have := asc_mem a.2.2 y hy; omega]
      exact fun e => a.2.1 e.symm
    · unfold Gf
      rw [if_neg (by omega)]
  | x :: r, y :: s, p, lo, z, h, h0, a, a' => by
    unfold Asc at a a'
    unfold pr at h
    by_cases q : x = y
    · rw [if_pos q] at h
      subst q
      obtain ⟨h1, h2, h3⟩ := pr_some h (by omega) a.2.2 a'.2.2
      refine ⟨by omega, ?_, fun b hb => ?_⟩
      · unfold Gf
        rw [if_pos (by omega), if_pos (by omega)]
        exact h2
      · unfold Gf
        by_cases g : x.1 < (b : Int)
        · rw [if_pos g, if_pos g]
          exact h3 b hb
        · rw [if_neg g, if_neg g]
    · rw [if_neg q] at h
      have e : z = min x.1 y.1 + 1 := by
        cases h
        rfl
      refine ⟨by omega, ?_, fun b hb => ?_⟩
      · unfold Gf
        rcases Int.lt_trichotomy x.1 y.1 with g | g | g
        · rw [if_pos (by omega), if_neg (by omega), gf_high fun y hy => by have := asc_mem a.2.2 y hy; omega]
          exact a.2.1
        · rw [if_pos (by omega), if_pos (by omega), gf_high (fun y hy => by have := asc_mem a.2.2 y hy; omega), gf_high (fun y hy => by have := asc_mem a'.2.2 y hy; omega)]
          exact fun e => q (Prod.ext g (Option.some.inj e))
        · rw [if_neg (by omega), if_pos (by omega), gf_high fun y hy => by have := asc_mem a'.2.2 y hy; omega]
          exact fun e => a'.2.1 e.symm
      · unfold Gf
        rw [if_neg (by omega), if_neg (by omega)]
/-! ### the same up to a body -/
structure SameU (L : Option Int) (w u : Way) : Prop where
  se : ∀ b, BelB L b → Ef (endS true w) b = Ef (endS true u) b
  lo : ∀ b, BelB L b → Ef (endS false w) b = Ef (endS false u) b
  ch : ∀ p, BelB L (p + 1) → Ef (endS false w) (p + 1) = none → N.fm (chW false w) p = N.fm (chW false u) p
theorem same_iff {w u : Way} : Same w u ↔ SameU none w u := by
  constructor
  · intro s
    exact ⟨fun b _ => (s true).ef b, fun b _ => (s false).ef b, fun p _ h => (s false).ch p h⟩
  · intro s se
    have no : ∀ b, BelB none b := fun b z e => nomatch e
    cases se with
    | true =>
      refine ⟨fun b => s.se b (no b), fun p _ => ?_⟩
      unfold chW
      rw [chE_true, chE_true]
    | false => exact ⟨fun b => s.lo b (no b), fun p h => s.ch p (no _) h⟩
theorem SameU.up {w u : Way} {L L' : Option Int} (s : SameU L w u) (h : ∀ b, BelB L' b → BelB L b) : SameU L' w u := ⟨fun b hb => s.se b (h b hb), fun b hb => s.lo b (h b hb), fun p hp => s.ch p (h _ hp)⟩
end M
namespace CP
open PySem L2 G Y M
theorem stB_iff {s s' : M.Stair} : stB s s' = true ↔ s = s' := by
  constructor
  · intro h
    unfold stB at h
    simp only [List.all_cons, List.all_nil, id, Bool.and_true, Bool.and_eq_true] at h
    obtain ⟨h1, h2⟩ := h
    have e1 : s.1 = s'.1 := by
      have : (s.1 == s'.1) = true := h1
      exact eq_of_beq this
    have e2 : s.2 = s'.2 := by
      cases a : s.2 with
      | none =>
        cases b : s'.2 with
        | none => rfl
        | some y =>
          rw [a, b] at h2
          cases h2
      | some x =>
        cases b : s'.2 with
        | none =>
          rw [a, b] at h2
          cases h2
        | some y =>
          rw [a, b] at h2
          have : (x == y) = true := h2
          rw [eq_of_beq this]
    exact Prod.ext e1 e2
  · intro e
    rw [e]
    exact st_self s'
theorem ssB_iff : ∀ {a b : List M.Stair}, ssB a b = true ↔ a = b := fun {a b} => by
  constructor
  · intro h
    unfold ssB at h
    rw [Bool.and_eq_true, decide_eq_true_eq] at h
    obtain ⟨h1, h2⟩ := h
    rw [List.all_eq_true] at h1
    refine List.ext_getElem h2 fun i g1 g2 => ?_
    have : stB a[i] b[i] = true := h1 (stB a[i] b[i]) (List.mem_iff_getElem.mpr ⟨i, by rw [List.length_zipWith]; omega, by rw [List.getElem_zipWith]⟩)
    exact stB_iff.mp this
  · intro e
    rw [e]
    exact ss_self b
theorem gates_lo {se : Bool} {w : M.Way} (f : w.fine) : ∀ g ∈ M.Way.gates se w, -1 ≤ g.thr := fun g hg => (M.Way.gb se w f g hg).lo
theorem ck_way {se : Bool} {w : M.Way} (f : w.fine) : M.Ck (chW se w) := M.ck_all M.ck_nil (fine_all f).1
theorem fch_nr {w : M.Way} (f : w.fine) (L : Option Int) : fch w L = nr (chW false w) (M.limOf (M.Way.stairs false L w) L) := nrm_nn (ck_way f).fall _
theorem stairs_way {se : Bool} {L : Option Int} {w u : M.Way} (fw : w.fine) (fu : u.fine) : M.Way.stairs se L w = M.Way.stairs se L u ↔ ∀ b, BelB L b → Ef (endS se w) b = Ef (endS se u) b := by
  unfold M.Way.stairs M.Way.lows
  rw [stairs_eq L (gates_lo fw) (gates_lo fu), gates_end, gates_end]
theorem lim_way {L : Option Int} (h0 : ∀ u, L = some u → 0 ≤ u) {w : M.Way} (fw : w.fine) (p : Nat) : Bel (M.limOf (M.Way.stairs false L w) L) p ↔ BelB L (p + 1) ∧ Ef (endS false w) (p + 1) = none := by
  unfold M.Way.stairs M.Way.lows
  rw [lim_iff L h0 (gates_lo fw), gates_end]
theorem alike_iff {L : Option Int} (h0 : ∀ u, L = some u → 0 ≤ u) {w u : M.Way} (fw : w.fine) (fu : u.fine) : alikeW L w u = true ↔ SameU L w u := by
  have e : alikeW L w u = true ↔ (M.Way.stairs true L w = M.Way.stairs true L u ∧ M.Way.stairs false L w = M.Way.stairs false L u) ∧ fch w L = fch u L := by
    unfold alikeW
    simp only [List.all_cons, List.all_nil, id, Bool.and_true, Bool.and_eq_true, ssB_iff, decide_eq_true_eq]
    exact and_assoc.symm
  rw [e, stairs_way fw fu, stairs_way fw fu]
  constructor
  · rintro ⟨⟨a, b⟩, c⟩
    refine ⟨a, b, fun p hp hn => ?_⟩
    have es := (stairs_way (se := false) fw fu).mpr b
    rw [fch_nr fw, fch_nr fu, ← es, nr_eq (ck_way fw).fall (ck_way fu).fall] at c
    exact c p ((lim_way h0 fw p).mpr ⟨hp, hn⟩)
  · rintro ⟨a, b, c⟩
    refine ⟨⟨a, b⟩, ?_⟩
    have es := (stairs_way (se := false) fw fu).mpr b
    rw [fch_nr fw, fch_nr fu, ← es, nr_eq (ck_way fw).fall (ck_way fu).fall]
    intro p hp
    obtain ⟨h1, h2⟩ := (lim_way h0 fw p).mp hp
    exact c p h1 h2
/-! ### parting -/
theorem st_way (se : Bool) {w : M.Way} (f : w.fine) : ∃ R, M.Way.stairs se none w = R.reverse ∧ Asc none (-1) R ∧ ∀ b, Gf none R b = Ef (endS se w) b := by
  obtain ⟨R, r1, r2, r3, r4⟩ := stairs_ok none (gates_lo (se := se) f)
  exact ⟨R, r1, r2, fun b => by rw [r4 b (fun z e => nomatch e), gates_end]⟩
/-- the least of some stairs: below it nothing ends -/
theorem least_bel {l : List M.Stair} {p : Nat} : Bel (M.leastT l) p ↔ ∀ s ∈ l, ((p + 1 : Nat) : Int) ≤ s.1 := by
  cases l with
  | nil =>
    constructor
    · intro _ s hs
      cases hs
    · intro _ z e
      cases e
  | cons x r =>
    obtain ⟨m1, m2⟩ := M.fold_min (r.map (·.1)) x.1
    have e : M.leastT (x :: r) = some (max ((r.map (·.1)).foldl min x.1) 0) := rfl
    rw [e]
    constructor
    · intro h s hs
      have h := h _ rfl
      have := m2 s.1 (by
        rcases List.mem_cons.mp hs with q | q
        · rw [q]
          exact List.mem_cons_self
        · exact List.mem_cons_of_mem _ (List.mem_map_of_mem q))
      omega
    · intro h z hz
      cases hz
      have : ((p + 1 : Nat) : Int) ≤ (r.map (·.1)).foldl min x.1 := by
        rcases List.mem_cons.mp m1 with q | q
        · rw [q]
          exact h x List.mem_cons_self
        · obtain ⟨s, hs, es⟩ := List.mem_map.mp q
          rw [← es]
          exact h s (List.mem_cons_of_mem _ hs)
      omega
theorem asc_low {R : List M.Stair} (a : Asc none (-1) R) (b : Nat) : Gf none R b = none ↔ ∀ s ∈ R, (b : Int) ≤ s.1 := by
  constructor
  · intro h s hs
    cases R with
    | nil => cases hs
    | cons x r =>
      unfold Gf at h
      by_cases q : x.1 < (b : Int)
      · rw [if_pos q] at h
        obtain ⟨c, ec⟩ := gf_some r x.2 b
        rw [ec] at h
        cases h
      · unfold Asc at a
        rcases List.mem_cons.mp hs with e | e
        · rw [e]
          omega
        · have := asc_mem a.2.2 s e
          omega
  · exact fun h => gf_high h
/-- how letters of one kind part -/
def PartD (k : Bool) (w u : M.Way) (b : Nat) : Prop := Ef (endS k w) b ≠ Ef (endS k u) b ∨ (k = false ∧ Ef (endS k w) b = none ∧ Ef (endS k u) b = none ∧ ∃ p, b = p + 1 ∧ N.fm (chW k w) p ≠ N.fm (chW k u) p ∧ ∀ q, q < p → N.fm (chW k w) q = N.fm (chW k u) q)
def NoPart (k : Bool) (w u : M.Way) (b : Nat) : Prop := Ef (endS k w) b = Ef (endS k u) b ∧ ∀ p, k = false → b = p + 1 → Ef (endS k w) b = none → N.fm (chW k w) p = N.fm (chW k u) p
theorem part_no {k : Bool} {w u : M.Way} {b : Nat} (h : PartD k w u b) (n : NoPart k w u b) : False := by
  rcases h with h | ⟨hk, e1, e2, p, rfl, ne, _⟩
  · exact h n.1
  · exact ne (n.2 p hk rfl e1)
theorem sealed_part {w u : M.Way} (fw : w.fine) (fu : u.fine) : match M.stPart (M.Way.stairs true none w) (M.Way.stairs true none u) with
    | none => ∀ b, NoPart true w u b
    | some z => 0 ≤ z ∧ PartD true w u z.toNat ∧ ∀ b : Nat, (b : Int) < z → NoPart true w u b := by
  obtain ⟨R, r1, r2, r3⟩ := st_way true fw
  obtain ⟨S, s1, s2, s3⟩ := st_way true fu
  rw [r1, s1, M.stPart_pr, List.reverse_reverse, List.reverse_reverse]
  cases e : M.pr R S with
  | none =>
    have := M.pr_none e
    intro b
    exact ⟨by rw [← r3, ← s3, this], fun p hk => nomatch hk⟩
  | some z =>
    obtain ⟨h1, h2, h3⟩ := M.pr_some e (Int.le_refl _) r2 s2
    refine ⟨by omega, .inl (by rw [← r3, ← s3]; exact h2), fun b hb => ⟨by rw [← r3, ← s3]; exact h3 b hb, fun p hk => nomatch hk⟩⟩
def looseP (w u : M.Way) : Option Int := match chPart (fch w none) (fch u none) (M.leastT (M.Way.stairs false none w ++ M.Way.stairs false none u)) with
  | some z => some z
  | none => M.stPart (M.Way.stairs false none w) (M.Way.stairs false none u)
theorem partW_eq (w u : M.Way) : partW w u = M.both (M.stPart (M.Way.stairs true none w) (M.Way.stairs true none u)) (looseP w u) := rfl
theorem loose_part {w u : M.Way} (fw : w.fine) (fu : u.fine) : match looseP w u with
    | none => ∀ b, NoPart false w u b
    | some z => 0 ≤ z ∧ PartD false w u z.toNat ∧ ∀ b : Nat, (b : Int) < z → NoPart false w u b := by
  have none0 : ∀ v : Int, (none : Option Int) = some v → 0 ≤ v := fun v e => nomatch e
  have nob : ∀ b, BelB none b := fun b z e => nomatch e
  obtain ⟨R, r1, r2, r3⟩ := st_way false fw
  obtain ⟨S, s1, s2, s3⟩ := st_way false fu
  have lw := lim_way none0 fw
  have lu := lim_way none0 fu
  have bel : ∀ p, Bel (M.leastT (M.Way.stairs false none w ++ M.Way.stairs false none u)) p ↔ Ef (endS false w) (p + 1) = none ∧ Ef (endS false u) (p + 1) = none := fun p => by
    rw [least_bel, ← r3, ← s3, asc_low r2, asc_low s2, r1, s1]
    constructor
    · intro h
      exact ⟨fun s hs => h s (List.mem_append_left _ (List.mem_reverse.mpr hs)), fun s hs => h s (List.mem_append_right _ (List.mem_reverse.mpr hs))⟩
    · rintro ⟨a, b⟩ s hs
      rcases List.mem_append.mp hs with q | q
      · exact a s (List.mem_reverse.mp q)
      · exact b s (List.mem_reverse.mp q)
  have cw := (ck_way (se := false) fw).fall
  have cu := (ck_way (se := false) fu).fall
  have same : ∀ p, Bel (M.leastT (M.Way.stairs false none w ++ M.Way.stairs false none u)) p → N.fm (fch w none) p = N.fm (chW false w) p ∧ N.fm (fch u none) p = N.fm (chW false u) p := fun p hp => by
    obtain ⟨a, b⟩ := (bel p).mp hp
    rw [fch_nr fw, fch_nr fu]
    exact ⟨(nr_fm cw _ ((lw p).mpr ⟨nob _, a⟩)).symm, (nr_fm cu _ ((lu p).mpr ⟨nob _, b⟩)).symm⟩
  have fall : N.Fall (fch w none) ∧ N.Fall (fch u none) := by
    rw [fch_nr fw, fch_nr fu]
    exact ⟨nr_fall _ _, nr_fall _ _⟩
  unfold looseP chPart
  cases e : ldf (fch w none) (fch u none) (M.leastT (M.Way.stairs false none w ++ M.Way.stairs false none u)) with
  | some p =>
    obtain ⟨h1, h2, h3⟩ := ldf_yes e
    obtain ⟨a, b⟩ := (bel p).mp h1
    have down : ∀ q, q ≤ p → Bel (M.leastT (M.Way.stairs false none w ++ M.Way.stairs false none u)) q := fun q hq z ez => by
      have := h1 z ez
      omega
    have eqs : ∀ q, q < p → N.fm (chW false w) q = N.fm (chW false u) q := fun q hq => by
      obtain ⟨x, y⟩ := same q (down q (by omega))
      rw [← x, ← y]
      exact h3 q hq
    show 0 ≤ ((p : Nat) : Int) + 1 ∧ PartD false w u (((p : Nat) : Int) + 1).toNat ∧ ∀ b : Nat, (b : Int) < ((p : Nat) : Int) + 1 → NoPart false w u b
    have et : (((p : Nat) : Int) + 1).toNat = p + 1 := by omega
    rw [et]
    refine ⟨by omega, .inr ⟨rfl, a, b, p, rfl, ?_, eqs⟩, fun c hc => ⟨?_, fun q _ hq _ => ?_⟩⟩
    · obtain ⟨x, y⟩ := same p h1
      rw [← x, ← y]
      exact h2
    · rw [ef_mono a (by omega), ef_mono b (by omega)]
    · exact eqs q (by omega)
  | none =>
    have h1 := ldf_no fall.1 fall.2 e
    have eqs : ∀ p, Ef (endS false w) (p + 1) = none → Ef (endS false u) (p + 1) = none → N.fm (chW false w) p = N.fm (chW false u) p := fun p x y => by
      have hb := (bel p).mpr ⟨x, y⟩
      obtain ⟨x, y⟩ := same p hb
      rw [← x, ← y]
      exact h1 p hb
    show match M.stPart (M.Way.stairs false none w) (M.Way.stairs false none u) with
      | none => _
      | some z => _
    rw [r1, s1, M.stPart_pr, List.reverse_reverse, List.reverse_reverse]
    cases e : M.pr R S with
    | none =>
      have := M.pr_none e
      intro b
      have eb : Ef (endS false w) b = Ef (endS false u) b := by rw [← r3, ← s3, this]
      exact ⟨eb, fun p _ hb hn => by
        subst hb
        exact eqs p hn (by rw [← eb]; exact hn)⟩
    | some z =>
      obtain ⟨h1, h2, h3⟩ := M.pr_some e (Int.le_refl _) r2 s2
      refine ⟨by omega, .inl (by rw [← r3, ← s3]; exact h2), fun b hb => ?_⟩
      have eb : Ef (endS false w) b = Ef (endS false u) b := by
        rw [← r3, ← s3]
        exact h3 b hb
      exact ⟨eb, fun p _ hb hn => by
        subst hb
        exact eqs p hn (by rw [← eb]; exact hn)⟩
theorem noPart_same {w u : M.Way} {L : Option Int} (h : ∀ k b, BelB L b → NoPart k w u b) : SameU L w u := ⟨fun b hb => (h true b hb).1, fun b hb => (h false b hb).1, fun p hp hn => (h false (p + 1) hp).2 p rfl rfl hn⟩
theorem part_spec {w u : M.Way} (fw : w.fine) (fu : u.fine) : match partW w u with
    | none => SameU none w u
    | some (z, k) => 0 ≤ z ∧ PartD k w u z.toNat ∧ ∀ L, (∀ b, BelB L b → (b : Int) < z) → SameU L w u := by
  have a := sealed_part fw fu
  have b := loose_part fw fu
  rw [partW_eq]
  cases e1 : M.stPart (M.Way.stairs true none w) (M.Way.stairs true none u) with
  | none =>
    rw [e1] at a
    revert b
    cases looseP w u with
    | none => exact fun b => noPart_same fun k c _ => by cases k with
        | true => exact a c
        | false => exact b c
    | some y => exact fun b => ⟨b.1, b.2.1, fun L hL => noPart_same fun k c hc => by cases k with
        | true => exact a c
        | false => exact b.2.2 c (hL c hc)⟩
  | some x =>
    rw [e1] at a
    revert b
    cases looseP w u with
    | none => exact fun b => ⟨a.1, a.2.1, fun L hL => noPart_same fun k c hc => by cases k with
        | true => exact a.2.2 c (hL c hc)
        | false => exact b c⟩
    | some y =>
      intro b
      show match (if x ≤ y then some (x, true) else some (y, false)) with
        | none => _
        | some (z, k) => _
      by_cases h : x ≤ y
      · rw [if_pos h]
        exact ⟨a.1, a.2.1, fun L hL => noPart_same fun k c hc => by
          have hc := hL c hc
          cases k with
          | true => exact a.2.2 c hc
          | false => exact b.2.2 c (by omega)⟩
      · rw [if_neg h]
        exact ⟨b.1, b.2.1, fun L hL => noPart_same fun k c hc => by
          have hc := hL c hc
          cases k with
          | true => exact a.2.2 c (by omega)
          | false => exact b.2.2 c hc⟩
theorem part_none {w u : M.Way} (fw : w.fine) (fu : u.fine) : partW w u = none ↔ SameU none w u := by
  have h := part_spec fw fu
  constructor
  · intro e
    rw [e] at h
    exact h
  · intro s
    cases e : partW w u with
    | none => rfl
    | some q =>
      obtain ⟨z, k⟩ := q
      rw [e] at h
      have no : BelB none z.toNat := fun _ e => nomatch e
      refine (part_no h.2.1 ?_).elim
      cases k with
      | true => exact ⟨s.se _ no, fun _ hk => nomatch hk⟩
      | false => exact ⟨s.lo _ no, fun p _ hp hn => by
          have := s.ch p fun _ e => nomatch e
          rw [← hp] at this
          exact this hn⟩
theorem part_not {k : Bool} {w u : M.Way} {b : Nat} {z : Int} (h : PartD k w u b) (hz : z = (b : Int)) : ¬ SameU (some z) w u := fun s => by
  have hb : BelB (some z) b := fun y e => by
    cases e
    omega
  refine part_no h ?_
  cases k with
  | true => exact ⟨s.se _ hb, fun _ hk => nomatch hk⟩
  | false => exact ⟨s.lo _ hb, fun p _ hp hn => by
      subst hp
      exact s.ch p hb hn⟩
end CP

end
section
set_option autoImplicit false
set_option Elab.async false
set_option linter.all false
set_option maxRecDepth 100000
set_option maxHeartbeats 4000000
/-! ## lean ways do the same -/
namespace CP
open PySem L2 G Y M
theorem posns_succ (m : Nat) : M.posns (m + 1) = m :: M.posns m := by
  unfold M.posns
  rw [List.range_succ, List.reverse_append]
  rfl
theorem lean_fold {w : M.Way} (fw : w.fine) : ∀ (m : Nat) (kept : List M.Step) (rs : List M.Reason), m ≤ w.steps.length → kept.length = rs.length → M.Way.fine (.mk w.head (w.steps.take m ++ kept)) → SameU none w (.mk w.head (w.steps.take m ++ kept)) →
    SameU none w (.mk w.head ((M.posns m).foldl (M.leanStep w) (w.steps.take m ++ kept, rs)).1) ∧ (((M.posns m).foldl (M.leanStep w) (w.steps.take m ++ kept, rs)).2.length = ((M.posns m).foldl (M.leanStep w) (w.steps.take m ++ kept, rs)).1.length ∨ (((M.posns m).foldl (M.leanStep w) (w.steps.take m ++ kept, rs)).1.length = 1 ∧ ((M.posns m).foldl (M.leanStep w) (w.steps.take m ++ kept, rs)).2 = [])) ∧ M.Way.fine (.mk w.head ((M.posns m).foldl (M.leanStep w) (w.steps.take m ++ kept, rs)).1)
  | 0, kept, rs, _, hl, f, s => by
    rw [List.take_zero, List.nil_append] at s ⊢
    rw [List.take_zero, List.nil_append] at f
    exact ⟨s, .inl hl.symm, f⟩
  | m + 1, kept, rs, hm, hl, f, s => by
    rw [posns_succ, List.foldl_cons]
    have hlen : (w.steps.take (m + 1) ++ kept).length = m + 1 + kept.length := by
      rw [List.length_append, List.length_take, Nat.min_eq_left hm]
    by_cases one : (w.steps.take (m + 1) ++ kept).length = 1
    · rw [show M.leanStep w (w.steps.take (m + 1) ++ kept, rs) m = (w.steps.take (m + 1) ++ kept, rs) from if_pos one, M.lean_one one]
      refine ⟨s, .inr ⟨one, List.length_eq_zero_iff.mp ?_⟩, f⟩
      rw [hlen] at one
      show rs.length = 0
      omega
    · have htake : (w.steps.take (m + 1) ++ kept).take m = w.steps.take m := by
        rw [List.take_append_of_le_length (by rw [List.length_take]; omega), List.take_take, Nat.min_eq_left (by omega)]
      have hdrop : (w.steps.take (m + 1) ++ kept).drop (m + 1) = kept := by
        rw [List.drop_append_of_le_length (by rw [List.length_take]; omega), List.drop_eq_nil_of_le (by rw [List.length_take]; omega), List.nil_append]
      have tried : M.leanStep w (w.steps.take (m + 1) ++ kept, rs) m = match partW w (.mk w.head (w.steps.take m ++ kept)) with
          | none => (w.steps.take m ++ kept, rs)
          | some q => (w.steps.take (m + 1) ++ kept, rs ++ [(m, q.1, q.2)]) := by
        unfold M.leanStep
        rw [if_neg one]
        dsimp only
        rw [htake, hdrop]
        try (cases partW w (.mk w.head (w.steps.take m ++ kept)) <;> rfl)
      rw [tried]
      have fc : M.Way.fine (.mk w.head (w.steps.take m ++ kept)) := by
        have := (M.fine_cut (i := m) f (by omega) (by omega)).1
        rw [htake, hdrop] at this
        exact this
      cases e : partW w (.mk w.head (w.steps.take m ++ kept)) with
      | none => exact lean_fold fw m kept rs (by omega) hl fc ((part_none fw fc).mp e)
      | some q =>
        have split : w.steps.take (m + 1) ++ kept = w.steps.take m ++ (w.steps[m] :: kept) := by
          rw [List.take_add_one, List.append_assoc, List.getElem?_eq_getElem (by omega)]
          rfl
        show SameU none w (.mk w.head ((M.posns m).foldl (M.leanStep w) (w.steps.take (m + 1) ++ kept, rs ++ [(m, q.1, q.2)])).1) ∧ _
        rw [split] at f s ⊢
        exact lean_fold fw m (w.steps[m] :: kept) (rs ++ [(m, q.1, q.2)]) (by omega) (by rw [List.length_cons, List.length_append, hl]; rfl) f s
theorem lean_same {w : M.Way} (fw : w.fine) : SameU none w (.mk w.head (M.leanW w).1) ∧ ((M.leanW w).2.length = (M.leanW w).1.length ∨ ((M.leanW w).1.length = 1 ∧ (M.leanW w).2 = [])) ∧ M.Way.fine (.mk w.head (M.leanW w).1) := by
  have e : w.steps.take w.steps.length ++ [] = w.steps := by rw [List.take_length, List.append_nil]
  have ew : (M.Way.mk w.head w.steps) = w := by cases w; rfl
  have := lean_fold fw w.steps.length [] [] (Nat.le_refl _) rfl (by rw [e, ew]; exact fw) (by
    rw [e, ew]
    exact ⟨fun _ _ => rfl, fun _ _ => rfl, fun _ _ _ => rfl⟩)
  rw [e] at this
  exact this
end CP

end
section
set_option autoImplicit false
set_option Elab.async false
set_option linter.all false
set_option maxRecDepth 100000
set_option maxHeartbeats 4000000
/-! ## ways with idle steps -/
namespace M
theorem Few.ins {h n z i : Nat} {s : List Step} {x : Step} (f : Few h n z s) (hi : i ≤ s.length) (h1 : Step.fine h x) (h2 : Step.dep x ≤ 1) (h3 : isz x ≤ 9) : Few h (n + 1) (z + 9) (s.take i ++ [x] ++ s.drop i) := by
  have mem : ∀ y ∈ s.take i ++ [x] ++ s.drop i, y = x ∨ y ∈ s := fun y hy => by
    rcases List.mem_append.mp hy with q | q
    · rcases List.mem_append.mp q with q | q
      · exact .inr (List.mem_of_mem_take q)
      · exact .inl (List.mem_singleton.mp q)
    · exact .inr (List.mem_of_mem_drop q)
  have len : (s.take i ++ [x] ++ s.drop i).length = s.length + 1 := by
    rw [List.length_append, List.length_append, List.length_take, List.length_drop, List.length_singleton]
    omega
  refine ⟨by omega, by have := f.ln; omega, fun y hy => ?_, fun y hy => ?_, ?_⟩
  · rcases mem y hy with e | e
    · rw [e]
      exact h1
    · exact f.fine y e
  · rcases mem y hy with e | e
    · rw [e]
      exact h2
    · exact f.dp y e
  · rw [inner_ap, inner_ap, inner_cons]
    have : Step.inner (s.take i) + Step.inner (s.drop i) = Step.inner s := by
      rw [← inner_ap, List.take_append_drop]
    have := f.sz
    have : Step.inner ([] : List Step) = 0 := rfl
    omega
theorem Few.all {h n z : Nat} {s : List Step} (f : Few h n z s) : Step.fineAll h s := fineAll_iff.mpr f.fine
theorem all_take {h : Nat} {s : List Step} (f : Step.fineAll h s) (i : Nat) : Step.fineAll h (s.take i) ∧ Step.fineAll h (s.drop i) := by
  have := fineAll_iff.mp f
  exact ⟨fineAll_iff.mpr fun y hy => this y (List.mem_of_mem_take hy), fineAll_iff.mpr fun y hy => this y (List.mem_of_mem_drop hy)⟩
theorem all_more {h : Nat} {a b : List Step} (f : Step.fineAll h a) (g : Step.fineAll h b) : Step.fineAll h (a ++ b) := fineAll_iff.mpr fun y hy => (List.mem_append.mp hy).elim (fineAll_iff.mp f y) (fineAll_iff.mp g y)
theorem split_at {s : List Step} {i : Nat} {y : Step} (hy : s[i]? = some y) : s = s.take i ++ [y] ++ s.drop (i + 1) ∧ s.drop i = y :: s.drop (i + 1) := by
  have hi : i < s.length := (List.getElem?_eq_some_iff.mp hy).1
  have e : s.drop i = y :: s.drop (i + 1) := by
    rw [List.drop_eq_getElem_cons hi]
    congr 1
    exact (List.getElem?_eq_some_iff.mp hy).2
  refine ⟨?_, e⟩
  rw [List.append_assoc]
  show s = s.take i ++ (y :: s.drop (i + 1))
  rw [← e, List.take_append_drop]
theorem like_twice {h i : Nat} {s : List Step} {y : Step} (f : Step.fineAll h s) (hy : s[i]? = some y) (nt : ∀ w n t, y ≠ .tunnel w n t) : Same (.mk h s) (.mk h (s.take i ++ [y] ++ s.drop i)) := by
  obtain ⟨e1, e2⟩ := split_at hy
  have fa := (all_take f i).1
  have fd := (all_take f (i + 1)).2
  have fy : Step.fine h y := fineAll_iff.mp f y (List.mem_of_getElem? hy)
  have f1 : Step.fineAll h [y] := by unfold Step.fineAll; exact ⟨fy, by unfold Step.fineAll; trivial⟩
  have q := same_of (h := h) (a := s.take i) (x := [y]) (y := [y, y]) (s := s.drop (i + 1)) fd (fun se => ck_all ck_nil (all_more fa f1)) (fun se => ck_all ck_nil (all_more fa (all_more f1 f1))) fun se => twice fy nt (ck_all ck_nil fa)
  have e3 : s.take i ++ [y, y] ++ s.drop (i + 1) = s.take i ++ [y] ++ s.drop i := by rw [e2]; simp
  rw [e3] at q
  rw [← e1] at q
  exact q
theorem like_more {h i c : Nat} {s : List Step} {lw : LW} (f : Step.fineAll h s) (hy : s[i]? = some (.road (h + c) false lw)) (hc : 1 ≤ c) (h2 : h + 2 * c ≤ 1000) (nl : lw ≠ .tell) : Same (.mk h s) (.mk h (s.take i ++ [.road (h + 2 * c) false lw] ++ s.drop i)) := by
  obtain ⟨e1, e2⟩ := split_at hy
  have fa := (all_take f i).1
  have fd := (all_take f (i + 1)).2
  have fy : Step.fine h (.road (h + c) false lw) := fineAll_iff.mp f _ (List.mem_of_getElem? hy)
  have fm : Step.fine h (.road (h + 2 * c) false lw) := by unfold Step.fine; exact ⟨by omega, h2⟩
  have f1 : Step.fineAll h [.road (h + c) false lw] := by unfold Step.fineAll; exact ⟨fy, by unfold Step.fineAll; trivial⟩
  have f2 : Step.fineAll h [.road (h + 2 * c) false lw, .road (h + c) false lw] := by unfold Step.fineAll; exact ⟨fm, f1⟩
  have q := same_of (h := h) (a := s.take i) (x := [.road (h + c) false lw]) (y := [.road (h + 2 * c) false lw, .road (h + c) false lw]) (s := s.drop (i + 1)) fd (fun se => ck_all ck_nil (all_more fa f1)) (fun se => ck_all ck_nil (all_more fa f2)) fun se => more hc h2 nl (ck_all ck_nil fa)
  have e3 : s.take i ++ [.road (h + 2 * c) false lw, .road (h + c) false lw] ++ s.drop (i + 1) = s.take i ++ [.road (h + 2 * c) false lw] ++ s.drop i := by rw [e2]; simp
  rw [e3] at q
  rw [← e1] at q
  exact q
/-- a way like another one, by its steps -/
def Lk (h : Nat) (s r : List Step) : Prop := Few h 4 18 r ∧ Same (.mk h s) (.mk h r)
theorem lk_join {h : Nat} {s : List Step} (f : Few h 3 9 s) : Lk h s ([.join 1] ++ s) := by
  refine ⟨?_, same_join f.all⟩
  have := f.ins (i := 0) (x := .join 1) (Nat.zero_le _) (by unfold Step.fine; exact ⟨by decide, by decide⟩) (by show 0 ≤ 1; decide) (by show 0 ≤ 9; decide)
  exact this
theorem lk_twice {h i : Nat} {s : List Step} {y : Step} (f : Few h 3 9 s) (hy : s[i]? = some y) (nt : ∀ w n t, y ≠ .tunnel w n t) : Lk h s (s.take i ++ [y, y] ++ s.drop (i + 1)) := by
  obtain ⟨e1, e2⟩ := split_at hy
  have e3 : s.take i ++ [y, y] ++ s.drop (i + 1) = s.take i ++ [y] ++ s.drop i := by rw [e2]; simp
  rw [e3]
  have a := f.at hy
  exact ⟨f.ins (Nat.le_of_lt (List.getElem?_eq_some_iff.mp hy).1) a.1 a.2.1 a.2.2, like_twice f.all hy nt⟩
theorem lk_more {h i c : Nat} {s : List Step} {lw : LW} (f : Few h 3 9 s) (hy : s[i]? = some (.road (h + c) false lw)) (hc : 1 ≤ c) (h2 : h + 2 * c ≤ 1000) (nl : lw ≠ .tell) : Lk h s (s.take i ++ [.road (h + 2 * c) false lw, .road (h + c) false lw] ++ s.drop (i + 1)) := by
  obtain ⟨e1, e2⟩ := split_at hy
  have e3 : s.take i ++ [.road (h + 2 * c) false lw, .road (h + c) false lw] ++ s.drop (i + 1) = s.take i ++ [.road (h + 2 * c) false lw] ++ s.drop i := by rw [e2]; simp
  rw [e3]
  exact ⟨f.ins (Nat.le_of_lt (List.getElem?_eq_some_iff.mp hy).1) (by unfold Step.fine; exact ⟨by omega, h2⟩) (by show 0 ≤ 1; decide) (by show 0 ≤ 9; decide), like_more f.all hy hc h2 nl⟩
end M

end
section
set_option autoImplicit false
set_option Elab.async false
set_option linter.all false
set_option maxRecDepth 100000
set_option maxHeartbeats 4000000
set_option pp.maxSteps 900
/-! ## _law_made -/
namespace CP
open PySem L2 G Y
abbrev sLMade : Stmt := S.top 82
section
variable {P : Program} {w : World} {K : PySem.W.Frag} {mg : Str → Option Value} {base : Heap} {C CW : Addr}
/-- a plan of a way like another one -/
def LkAt (H : Hp) (h : Nat) (s : List M.Step) (v : V) : Prop := ∃ r, PlanAt H (.mk h r) v ∧ M.Lk h s r
theorem LkAt.keep {H H' : Hp} (k : KeepT H H') {h : Nat} {s : List M.Step} {v : V} (l : LkAt H h s v) : LkAt H' h s v := by
  obtain ⟨r, a, b⟩ := l
  exact ⟨r, a.keep k, b⟩
def spMade (K : PySem.W.Frag) : Sp := fun vs H Q _ => ∃ (p : Addr) (v : V) (h : Nat) (s : List M.Step), vs = [.ref p, v] ∧ S.At H p ∧ PlanAt H (.mk h s) v ∧ M.Few h 3 9 s ∧ 1 ≤ h ∧ h ≤ 40 ∧ ∀ D ys H', Y.Bt p H H' → H D = none → H' D = some (.lst ys) → ys.length ≤ 3 → (∀ v ∈ ys, LkAt H' h s v) → Q (.ref D) H'
theorem scMa : FnScope ["stream", "plan", "head", "steps", "at", "step", "found", "more"] ["stream", "plan"] (defScope sLMade) := ⟨rfl, rfl, rfl, by decide +kernel, rfl, by decide +kernel, by decide +kernel⟩
theorem fr_of {p q : Addr} {H G : Hp} (hp : S.At H p) (b : Y.Bt p H G) (n : G q = none) : H q = none := by
  have ne := at_ne b.2 n
  cases e : H q with
  | none => rfl
  | some o =>
    rw [b.1 q o ne e] at n
    cases n
theorem bt_put {p D : Addr} {H G : Hp} {o : HO} (b : Y.Bt p H G) (n : D ≠ p) (h : H D = none) : Y.Bt p H (upd G D o) := by
  obtain ⟨b1, r, m, e, f⟩ := b
  refine ⟨fun a u na ea => ?_, r, m, by rw [upd_ne n.symm]; exact e, f⟩
  rw [upd_ne fun z => by rw [z, h] at ea; cases ea]
  exact b1 a u na ea
theorem PlStep.kd {H : Hp} {y : M.Step} {x : V} (h : PlStep H y x) : ∃ tx kd rest, x = .ref tx ∧ H tx = some (.tup (.str kd :: rest)) ∧ ((kd = "tunnel" ∧ ∃ w n t, y = .tunnel w n t) ∨ (kd ≠ "tunnel" ∧ ∀ w n t, y ≠ .tunnel w n t)) := by
  cases y with
  | road a b c =>
    unfold PlStep at h
    obtain ⟨t, e, ht⟩ := h
    exact ⟨t, _, _, e, ht, .inr ⟨by decide +kernel, fun w n t e => nomatch e⟩⟩
  | join a =>
    unfold PlStep at h
    obtain ⟨t, e, ht⟩ := h
    exact ⟨t, _, _, e, ht, .inr ⟨by decide +kernel, fun w n t e => nomatch e⟩⟩
  | tunnel w n tw =>
    unfold PlStep at h
    obtain ⟨t, u, e, ht, _⟩ := h
    exact ⟨t, _, _, e, ht, .inl ⟨rfl, w, n, tw, rfl⟩⟩
theorem nt_road (a : Nat) (b : Bool) (c : M.LW) : ∀ w n t, M.Step.road a b c ≠ .tunnel w n t := fun w n t e => nomatch e
theorem nt_join (a : Nat) : ∀ w n t, M.Step.join a ≠ .tunnel w n t := fun w n t e => nomatch e
theorem ok_made {f : Addr} {fd : FuncData} (F : Fun K "_law_made" "_law_made" sLMade f fd) (B : Bn mg) (DD : Df P w K mg base 1 "_law_draw" ["stream", "size"] S.spDraw) : FnOk P w K mg base CX0 2 f fd ["stream", "plan"] (spMade K) := by
  obtain ⟨fD, fdD, GD, gD, kD, bD⟩ := DD.ex
  refine F.ok scMa (fun vs H Q E h => ?_) (fun cdv A outer s H vs Q E hr h => ?_)
  · obtain ⟨p, v, h, s, rfl, _⟩ := h
    rfl
  · obtain ⟨p, v, h, st, rfl, hp, hP, few, h1, h2, kk⟩ := h
    refine ⟨_, pss_cons (ps_asg (pv 1) (pg_tup (by rfl) (pgs_cons (pg_name (i := 2) scMa.nd rfl (Or.inl rfl)) (pgs_cons (pg_name (i := 3) scMa.nd rfl (Or.inl rfl)) pgs_nil))))
      (pss_cons (ps_set (i := 4) scMa.nd rfl (Or.inl rfl) (pe_call GD (hr.mono (by omega)) rfl gD kD bD .nil pass0 (pa_cons (pv 0) (pa_cons (pe_callB call_len_seq (by rfl) B.len PySem.boot_len (pa_cons (pv 3) pa_nil)) pa_nil))))
      (pss_cons (ps_set (i := 5) scMa.nd rfl (Or.inl rfl) (pe_ix ix_tup (pv 3) (pv 4) (fun _ _ => rfl)))
      (pss_cons (ps_set (i := 6) scMa.nd rfl (Or.inl rfl) (pe_lst (pa_cons (pe_tup (pa_cons (pv 2) (pa_cons (pe_op (op_catA) (pe_tup (pa_cons (pe_tup (pa_cons (pe_str) (pa_cons (pe_int) pa_nil))) pa_nil)) (pv 3)) pa_nil))) pa_nil)))
      (pss_cons (ps_if (pt_cmpR (op_ne) (pe_ix ix_tup (pv 5) (pe_int) (fun _ _ => rfl)) (pe_str) (nomark _)) (pss_one (ps_expr (pe_bm PySem.F.plainAttrs_list PySem.F.slot_list_append PySem.F.type_list_append mt_append (pv 6) (pa_cons (pe_tup (pa_cons (pv 2) (pa_cons (pe_op (op_catA) (pe_op (op_catA) (pe_slice sl_tupA (pv 3) po_none (po_some (pv 4))) (pe_tup (pa_cons (pv 5) (pa_cons (pv 5) pa_nil)))) (pe_slice sl_tupA (pv 3) (po_some (pe_op (op_add) (pv 4) (pe_int))) po_none)) pa_nil))) pa_nil)))) (pss_nil))
      (pss_cons (ps_if (PW.pt (pw_and (pt_cmpR (op_eq) (pe_ix ix_tup (pv 5) (pe_int) (fun _ _ => rfl)) (pe_str) (nomark _)) (pw_and (pt_cmpR (op_eq) (pe_ix ix_tup (pv 5) (pe_int) (fun _ _ => rfl)) (pe_str) (nomark _)) (pw_and (pt_cmpR (op_ne) (pe_ix ix_tup (pv 5) (pe_int) (fun _ _ => rfl)) (pe_str) (nomark _)) (pw_and1 (pt_cmpR (op_lt) (pe_ix ix_tup (pv 5) (pe_int) (fun _ _ => rfl)) (pe_int) (nomark _))))))) (pss_cons (ps_set (i := 7) scMa.nd rfl (Or.inl rfl) (pe_tup (pa_cons (pe_str) (pa_cons (pe_op (op_add) (pv 2) (pe_op (op_mul) (pe_int) (pe_op (op_sub) (pe_ix ix_tup (pv 5) (pe_int) (fun _ _ => rfl)) (pv 2)))) (pa_cons (pe_ix ix_tup (pv 5) (pe_int) (fun _ _ => rfl)) (pa_cons (pe_ix ix_tup (pv 5) (pe_int) (fun _ _ => rfl)) pa_nil))))))
      (pss_one (ps_expr (pe_bm PySem.F.plainAttrs_list PySem.F.slot_list_append PySem.F.type_list_append mt_append (pv 6) (pa_cons (pe_tup (pa_cons (pv 2) (pa_cons (pe_op (op_catA) (pe_op (op_catA) (pe_slice sl_tupA (pv 3) po_none (po_some (pv 4))) (pe_tup (pa_cons (pv 7) (pa_cons (pv 5) pa_nil)))) (pe_slice sl_tupA (pv 3) (po_some (pe_op (op_add) (pv 4) (pe_int))) po_none)) pa_nil))) pa_nil))))) (pss_nil))
      (pss_one (ps_ret (pv 6)))))))), ?_⟩
    unfold PlanAt at hP
    obtain ⟨t, L, xs, rfl, ht, hL, hA⟩ := hP
    have lx := hA.len
    have l1 := few.l1
    have l3 := few.ln
    refine ⟨_, rfl, t, _, rfl, SqT.of ht, rfl, _, _, rfl, _, _, rfl, rfl, ?_⟩
    try dsimp only
    refine set_then (i := 4) ⟨_, rfl, _, rfl, L, xs, rfl, .inr (SqT.of hL), ?_⟩
    try dsimp only [tNil, List.cons_append, List.nil_append]
    refine draw_at hp (by omega) (log100 (by omega) (by omega)) fun j H1 j0 j1 b1 => ?_
    obtain ⟨i0, rfl⟩ := Int.eq_ofNat_of_zero_le j0
    have hi0 : i0 < xs.length := by omega
    have kt := bt_keepT b1 hp
    have ht1 := kt.tup ht
    have hL1 := kt.tup hL
    have hA1 := hA.keep kt
    have p1 := b1.2
    try dsimp only
    have hx0 : xs[i0]? = some xs[i0] := List.getElem?_eq_getElem hi0
    obtain ⟨y, hy, hat⟩ := hA1.get hx0
    refine set_then (i := 5) ⟨_, rfl, _, rfl, L, xs, _, _, rfl, rfl, SqT.of hL1, atI_nat hx0, ?_⟩
    generalize xs[i0] = x at hx0 hat ⊢
    have x100 : xs.length ≤ 100 := by omega
    have hi1 : i0 < st.length := by omega
    have f1 : xs.length + 1 ≤ sizeLine := Nat.le_trans (show _ ≤ 101 by omega) (by decide)
    refine set_then (i := 6) ⟨_, rfl, line2.1, fun u0 n0 => ⟨line2.2.2.1, fun u1 n1 => ⟨_, rfl, ?_⟩⟩⟩
    have q0 := of_upd (o := .tup [.str "join", .int 1]) n0
    have q1 := of_upd (o := .tup [.ref u0]) n1
    refine WP.catA_own (a := u1) upd_same (q1 _ _ (q0 _ _ hL1)) (by show 1 + xs.length ≤ sizeLine; omega) fun c G2 q2 e2 => ⟨line2.1, fun z nz => ⟨line2.2.2.1, fun D nD => ?_⟩⟩
    have q3 := of_upd (o := .tup [.int (h : Int), .ref c]) nz
    have q4 := of_upd (o := .lst [.ref z]) nD
    have q14 := ((q0.trans q1).trans q2).trans (q3.trans q4)
    have D0 : H D = none := fr_of hp b1 ((((q0.trans q1).trans q2).trans q3).free nD)
    have good0 : LkAt (upd (upd G2 z (.tup [.int (h : Int), .ref c])) D (.lst [.ref z])) h st (.ref z) := by
      refine ⟨[.join 1] ++ st, ?_, M.lk_join few⟩
      unfold PlanAt
      refine ⟨z, c, _, rfl, q4 _ _ upd_same, q4 _ _ (q3 _ _ e2), ?_⟩
      refine PlAll.app (PlAll.one ?_) (hA1.keep (same_keepT q14))
      unfold PlStep
      exact ⟨u0, rfl, q4 _ _ (q3 _ _ (q2 _ _ (q1 _ _ upd_same)))⟩
    have eD : (upd (upd G2 z (.tup [.int (h : Int), .ref c])) D (.lst [.ref z])) D = some (.lst [.ref z]) := upd_same
    have b4 : Y.Bt p H (upd (upd G2 z (.tup [.int (h : Int), .ref c])) D (.lst [.ref z])) := b1.trans (Bt.same q14 p1)
    have hL4 := q14 _ _ hL1
    have hA4 := hA1.keep (same_keepT q14)
    have hat4 := hat.keep (same_keepT q14)
    generalize upd (upd G2 z (.tup [.int (h : Int), .ref c])) D (.lst [.ref z]) = G4 at good0 eD b4 hL4 hA4 hat4 ⊢
    clear q14 q4 q3 q2 q1 q0 nD nz n0 n1 e2 hat hA1 hL1 ht1
    try dsimp only
    -- the invariant of what follows
    let Z : Nat → L2.St → Hp → Prop := fun n σ G => (∃ q7, σ = [some (.ref p), some (.ref t), some (.int (h : Int)), some (.ref L), some (.int (i0 : Int)), some x, some (.ref D), q7]) ∧ Y.Bt p H G ∧ G L = some (.tup xs) ∧ PlAll G st xs ∧ PlStep G y x ∧ ∃ ys, G D = some (.lst ys) ∧ ys.length ≤ n ∧ ∀ v ∈ ys, LkAt G h st v
    have app : ∀ {n : Nat} {G G' : Hp} {ys : List V} {z : Addr}, n ≤ 100 → G D = some (.lst ys) → ys.length ≤ n → (∀ v ∈ ys, LkAt G h st v) → Same G G' → LkAt G' h st (V.ref z) → ys.length < sizeLine ∧ (upd G' D (HO.lst (ys ++ [V.ref z]))) D = some (HO.lst (ys ++ [V.ref z])) ∧ (ys ++ [V.ref z]).length ≤ n + 1 ∧ ∀ v ∈ ys ++ [V.ref z], LkAt (upd G' D (HO.lst (ys ++ [V.ref z]))) h st v := fun {n G G' ys z} hn e l a s b => by
      have kp := put_keepT (o := .lst (ys ++ [V.ref z])) (s _ _ e)
      refine ⟨Nat.lt_of_le_of_lt (Nat.le_trans l hn) (by decide), upd_same, by rw [List.length_append]; exact Nat.succ_le_succ l, fun v hv => ?_⟩
      rcases List.mem_append.mp hv with q | q
      · exact ((a v q).keep (same_keepT s)).keep kp
      · rw [List.mem_singleton.mp q]
        exact b.keep kp
    have z0 : ∀ {y0 : V} {ys : List V}, atI (y0 :: ys) (0 : Int) = some y0 := fun {y0 ys} => by exact atI_nat (xs := y0 :: ys) (j := 0) rfl
    have z1 : ∀ {y0 y1 : V} {ys : List V}, atI (y0 :: y1 :: ys) (1 : Int) = some y1 := fun {y0 y1 ys} => by exact atI_nat (xs := y0 :: y1 :: ys) (j := 1) rfl
    have z2 : ∀ {y0 y1 y2 : V} {ys : List V}, atI (y0 :: y1 :: y2 :: ys) (2 : Int) = some y2 := fun {y0 y1 y2 ys} => by exact atI_nat (xs := y0 :: y1 :: y2 :: ys) (j := 2) rfl
    have z3 : ∀ {y0 y1 y2 y3 : V} {ys : List V}, atI (y0 :: y1 :: y2 :: y3 :: ys) (3 : Int) = some y3 := fun {y0 y1 y2 y3 ys} => by exact atI_nat (xs := y0 :: y1 :: y2 :: y3 :: ys) (j := 3) rfl
    have l1' : ∀ (k : Nat), (xs.take i0 ++ [x, x]).length + (xs.drop k).length ≤ sizeLine ∧ (xs.take i0).length + 2 ≤ sizeLine := fun k => by
      rw [List.length_append, List.length_take, List.length_drop]
      exact ⟨Nat.le_trans (show _ ≤ 300 by show _ + 2 + _ ≤ 300; omega) (by decide), Nat.le_trans (show _ ≤ 300 by omega) (by decide)⟩
    have l2' : ∀ (k : Nat) (m : V), (xs.take i0 ++ [m, x]).length + (xs.drop k).length ≤ sizeLine ∧ (xs.take i0).length + 2 ≤ sizeLine := fun k m => by
      rw [List.length_append, List.length_take, List.length_drop]
      exact ⟨Nat.le_trans (show _ ≤ 300 by show _ + 2 + _ ≤ 300; omega) (by decide), Nat.le_trans (show _ ≤ 300 by omega) (by decide)⟩
    refine if_then (Z 2) ?r1 ?f1
    case f1 =>
      intro go
      obtain ⟨tx, kd, rest, rfl, htx, hk⟩ := hat4.kd
      refine ⟨_, rfl, tx, _, _, _, rfl, rfl, SqT.of htx, z0, rfl, _, rfl, ?_⟩
      rcases hk with ⟨rfl, w, n, tw, rfl⟩ | ⟨hk, nt⟩
      · rw [decide_eq_true (rfl : V.str "tunnel" = V.str "tunnel")]
        refine iteF (go _ _ ⟨⟨_, rfl⟩, b4, hL4, hA4, hat4, _, eD, by show 1 ≤ 2; decide, fun v hv => ?_⟩)
        rw [List.mem_singleton.mp hv]
        exact good0
      · refine iteNT (fun z => hk (V.str.inj z)) ?_
        refine ⟨_, rfl, .inl ⟨rfl, _, SqL.of eD⟩, _, rfl, ?_⟩
        dsimp only [tNoPart]
        refine ⟨_, rfl, _, rfl, _, rfl, ?_⟩
        refine WP.sl_any hL4 fun u1 G1 s1 e1 => ⟨_, rfl, _, rfl, line2.1, fun u hu => ?_⟩
        rw [WP.cut_hi] at e1
        have su := of_upd (o := .tup [.ref tx, .ref tx]) hu
        refine WP.catA_own (su _ _ e1) upd_same (l1' 0).2 fun c2 G2 s2 e2 => ?_
        have s12 := (s1.trans su).trans s2
        refine ⟨_, rfl, _, rfl, _, _, rfl, rfl, _, rfl, ?_⟩
        dsimp only [tNoPart]
        refine WP.sl_any (s12 _ _ hL4) fun u3 G3 s3 e3 => ?_
        rw [show ((i0 : Int) + 1) = ((i0 + 1 : Nat) : Int) from rfl, WP.cut_lo] at e3
        refine WP.catA_own (s3 _ _ e2) e3 (l1' (i0 + 1)).1 fun c4 G5 s4 e4 => ⟨line2.1, fun zz hz => ?_⟩
        have sz := of_upd (o := .tup [V.int (h : Int), .ref c4]) hz
        have s5 := (s12.trans (s3.trans s4)).trans sz
        have hA5 := hA4.keep (same_keepT s5)
        have hat5 := hat4.keep (same_keepT s5)
        have good : LkAt (upd G5 zz (.tup [V.int (h : Int), .ref c4])) h st (.ref zz) := by
          refine ⟨st.take i0 ++ [y, y] ++ st.drop (i0 + 1), ?_, M.lk_twice few hy nt⟩
          unfold PlanAt
          exact ⟨zz, c4, _, rfl, upd_same, sz _ _ e4, ((hA5.take i0).app (PlAll.app (PlAll.one hat5) (PlAll.one hat5))).app (hA5.drop (i0 + 1))⟩
        obtain ⟨a1, a2, a3, a4⟩ := app (n := 1) (by decide) eD (Nat.le_refl 1) (fun v hv => by rw [List.mem_singleton.mp hv]; exact good0) s5 good
        have kp := put_keepT (o := .lst ([V.ref z] ++ [V.ref zz])) (s5 _ _ eD)
        refine ⟨D, _, _, rfl, rfl, s5 _ _ eD, a1, go _ _ ⟨⟨_, rfl⟩, ?_, ?_, hA5.keep kp, hat5.keep kp, _, a2, a3, a4⟩⟩
        · exact bt_put (b4.trans (Bt.same s5 b4.2)) (at_ne hp D0) D0
        · exact kp.tup (s5 _ _ hL4)
    case r1 =>
      rintro σ' G ⟨⟨q7, rfl⟩, bG, hLG, hAG, hatG, ys, eG, ly, ay⟩
      refine if_then (Z 3) ?r2 ?f2
      case r2 =>
        rintro σ' G' ⟨⟨q7', rfl⟩, bG', _, _, _, ys', eG', ly', ay'⟩
        exact ⟨_, rfl, kk D ys' G' bG' D0 eG' ly' ay'⟩
      case f2 =>
        intro go
        have no : ∀ {A B : Prop}, B → if false = true then A else B := fun b => iteF b
        have hatG0 := hatG
        cases y with
        | tunnel w n tw =>
          unfold PlStep at hatG
          obtain ⟨tx, u, rfl, htx, _⟩ := hatG
          exact ⟨_, rfl, tx, _, _, _, rfl, rfl, SqT.of htx, z0, rfl, _, rfl, iteN (fun z => absurd (V.str.inj z) (by decide +kernel)) (go _ _ ⟨⟨_, rfl⟩, bG, hLG, hAG, hatG0, ys, eG, Nat.le_succ_of_le ly, ay⟩)⟩
        | join n =>
          unfold PlStep at hatG
          obtain ⟨tx, rfl, htx⟩ := hatG
          exact ⟨_, rfl, tx, _, _, _, rfl, rfl, SqT.of htx, z0, rfl, _, rfl, iteN (fun z => absurd (V.str.inj z) (by decide +kernel)) (go _ _ ⟨⟨_, rfl⟩, bG, hLG, hAG, hatG0, ys, eG, Nat.le_succ_of_le ly, ay⟩)⟩
        | road size ts lw =>
          unfold PlStep at hatG
          obtain ⟨tx, rfl, htx⟩ := hatG
          have hq := SqT.of (K := K) htx
          have skip : Z 3 [some (.ref p), some (.ref t), some (.int (h : Int)), some (.ref L), some (.int (i0 : Int)), some (.ref tx), some (.ref D), q7] G := ⟨⟨_, rfl⟩, bG, hLG, hAG, hatG0, ys, eG, Nat.le_succ_of_le ly, ay⟩
          refine ⟨_, rfl, tx, _, _, _, rfl, rfl, hq, z0, rfl, _, rfl, iteP rfl ⟨_, rfl, tx, _, _, _, rfl, rfl, hq, z2, rfl, _, rfl, ?_⟩⟩
          cases ts with
          | true => exact iteN (fun z => absurd (V.str.inj z) (by decide +kernel)) (go _ _ skip)
          | false =>
            refine iteP rfl ⟨_, rfl, tx, _, _, _, rfl, rfl, hq, z3, rfl, _, rfl, ?_⟩
            by_cases nl : lw = .tell
            · subst nl
              rw [show decide (V.str (WP.lwS .tell) = V.str "tell") = true from decide_eq_true rfl]
              exact iteF (go _ _ skip)
            · refine iteNT (fun z => nl (lw_inj (b := .tell) (V.str.inj z))) ⟨_, rfl, tx, _, _, _, rfl, rfl, hq, z1, _, _, rfl, rfl, _, rfl, ite2 (fun lt => ?_) fun _ => go _ _ skip⟩
              have lt : (size : Int) < 480 := of_decide_eq_true lt
              have fs := (few.at hy).1
              unfold M.Step.fine at fs
              obtain ⟨c, rfl⟩ : ∃ c, size = h + c := ⟨size - h, by omega⟩
              have hc : 1 ≤ c := by omega
              refine set_then (i := 7) ⟨_, rfl, _, rfl, tx, _, _, _, rfl, rfl, hq, z1, _, rfl, _, _, rfl, rfl, _, _, rfl, rfl, .inl ⟨by decide, by decide⟩, _, _, rfl, rfl, _, rfl, tx, _, _, _, rfl, rfl, hq, z2, _, rfl, tx, _, _, _, rfl, rfl, hq, z3, (by show 4 ≤ sizeLine; decide), fun m0 nm => ?_⟩
              have qm := of_upd (o := .tup [.str "road", .int ((h : Int) + 2 * (((h + c : Nat) : Int) - (h : Int))), .str (WP.sdS false), .str (WP.lwS lw)]) nm
              have em : (upd G m0 (.tup [.str "road", .int ((h : Int) + 2 * (((h + c : Nat) : Int) - (h : Int))), .str (WP.sdS false), .str (WP.lwS lw)])) m0 = some (.tup [.str "road", .int ((h + 2 * c : Nat) : Int), .str (WP.sdS false), .str (WP.lwS lw)]) := by
                rw [upd_same, show (h : Int) + 2 * (((h + c : Nat) : Int) - (h : Int)) = ((h + 2 * c : Nat) : Int) by omega]
              generalize upd G m0 (.tup [.str "road", .int ((h : Int) + 2 * (((h + c : Nat) : Int) - (h : Int))), .str (WP.sdS false), .str (WP.lwS lw)]) = G0 at qm em ⊢
              try dsimp only
              refine ⟨_, rfl, .inl ⟨rfl, _, SqL.of (qm _ _ eG)⟩, _, rfl, ?_⟩
              dsimp only [tNoPart]
              refine ⟨_, rfl, _, rfl, _, rfl, ?_⟩
              refine WP.sl_any (qm _ _ hLG) fun u1 G1 s1 e1 => ⟨_, rfl, _, rfl, line2.1, fun u hu => ?_⟩
              rw [WP.cut_hi] at e1
              have su := of_upd (o := .tup [V.ref m0, .ref tx]) hu
              refine WP.catA_own (su _ _ e1) upd_same (l2' 0 (.ref m0)).2 fun c2 G2 s2 e2 => ?_
              have s12 := ((qm.trans s1).trans su).trans s2
              refine ⟨_, rfl, _, rfl, _, _, rfl, rfl, _, rfl, ?_⟩
              dsimp only [tNoPart]
              refine WP.sl_any (s12 _ _ hLG) fun u3 G3 s3 e3 => ?_
              rw [show ((i0 : Int) + 1) = ((i0 + 1 : Nat) : Int) from rfl, WP.cut_lo] at e3
              refine WP.catA_own (s3 _ _ e2) e3 (l2' (i0 + 1) (.ref m0)).1 fun c4 G5 s4 e4 => ⟨line2.1, fun zz hz => ?_⟩
              have sz := of_upd (o := .tup [V.int (h : Int), .ref c4]) hz
              have s5 := (s12.trans (s3.trans s4)).trans sz
              have em5 := sz _ _ (s4 _ _ (s3 _ _ (s2 _ _ (su _ _ (s1 _ _ em)))))
              have hA5 := hAG.keep (same_keepT s5)
              have hat5 := hatG0.keep (same_keepT s5)
              have good : LkAt (upd G5 zz (.tup [V.int (h : Int), .ref c4])) h st (.ref zz) := by
                refine ⟨st.take i0 ++ [.road (h + 2 * c) false lw, .road (h + c) false lw] ++ st.drop (i0 + 1), ?_, M.lk_more few hy hc (by omega) nl⟩
                unfold PlanAt
                refine ⟨zz, c4, _, rfl, upd_same, sz _ _ e4, ((hA5.take i0).app (PlAll.app (PlAll.one (x := .ref m0) ?_) (PlAll.one hat5))).app (hA5.drop (i0 + 1))⟩
                unfold PlStep
                exact ⟨m0, rfl, em5⟩
              obtain ⟨a1, a2, a3, a4⟩ := app (n := 2) (by decide) eG ly ay s5 good
              have kp := put_keepT (o := .lst (ys ++ [V.ref zz])) (s5 _ _ eG)
              refine ⟨D, _, _, rfl, rfl, s5 _ _ eG, a1, go _ _ ⟨⟨_, rfl⟩, ?_, ?_, hA5.keep kp, hat5.keep kp, _, a2, a3, a4⟩⟩
              · exact bt_put (bG.trans (Bt.same s5 bG.2)) (at_ne hp D0) D0
              · exact kp.tup (s5 _ _ hLG)
end
end CP

end
section
set_option autoImplicit false
set_option Elab.async false
set_option linter.all false
set_option maxRecDepth 100000
set_option maxHeartbeats 4000000
/-! ## ways == ways with either answer; one way behind the other -/
namespace EB
open PySem PySem.Spec PyProof.Rows L2 WP
def BWy (C : Addr) (n : Nat) : Cmp := fun x y c H => ∃ a b w1 w2, x = .ref a ∧ y = .ref b ∧ WayAt C H w1 a ∧ WayAt C H w2 b ∧ w1.depth ≤ n ∧ c = CP.weq w1 w2
theorem mon_wy {C : Addr} {n : Nat} : MonB (BWy C n) := fun x y c H H' e d => by
  obtain ⟨a, b, w1, w2, hx, hy, h1, h2, hd, hc⟩ := d
  exact ⟨a, b, w1, w2, hx, hy, h1.mono e, h2.mono e, hd, hc⟩
def BIt (C : Addr) (n : Nat) : Cmp := fun x y c H => BFlat x y c H ∨ BSm (BWy C n) x y c H
theorem mon_bit {C : Addr} {n : Nat} : MonB (BIt C n) := mon_or mon_flat (mon_sm mon_wy)
def spWEB (C : Addr) (n : Nat) : Sp := fun vs H Q _ => ∃ (a b : Addr) (w1 w2 : M.Way), vs = [.ref a, .ref b] ∧ WayAt C H w1 a ∧ WayAt C H w2 b ∧ w1.depth ≤ n ∧ ∀ H', Ext H H' → Q (.bl (CP.weq w1 w2)) H'
section
variable {X : Cx} {n m : Nat}
theorem rcB_wy {C f : Addr} {fd : FuncData} (F : FnOk X.prog X.w X.K X.mg X.base CX0 n f fd ["self", "other"] (spWEB C m)) (O : WO.Own X.K C f "__eq__") (hb : Binds X.K fd ["self", "other"] []) : RcB X n (BWy C m) := by
  intro A pins s σ H x y u v c sb I rx ry d
  obtain ⟨a, b, w1, w2, rfl, rfl, h1, h2, hd, hc⟩ := d
  cases rx
  cases ry
  obtain ⟨da, fa, g1, _⟩ := head_fld h1
  obtain ⟨db, fb, g2, _⟩ := head_fld h2
  obtain ⟨_, J, _⟩ := ins_get I.hok g1
  obtain ⟨_, J', _⟩ := ins_get I.hok g2
  obtain ⟨od, J, _⟩ := J.look
  obtain ⟨ow, J', _⟩ := J'.look
  obtain ⟨m0, hF⟩ := I.fr
  refine PySem.W.cmp_K (op := .Eq) (tb := .ref C) sb.room.units0 hF I.ok.mod.kin J J'.type (by simp [PySem.W.notFirst]) O.at' O.fn (WO.run_own F (A := A) (xs := [.ref a, .ref b]) (Z := fun v H1 => v = .bl c ∧ Ext H H1) (E := E0) sb hb pass0 I (.cons rfl (.cons rfl .nil)) ⟨a, b, w1, w2, rfl, h1, h2, hd, fun H' e => ⟨by rw [hc], e⟩⟩ fun z u H1 s1 I1 rz q => ?_)
  obtain ⟨rfl, q⟩ := q
  cases rz
  exact ⟨rfl, H1, I1, q⟩
end
theorem fl_s (a b : Str) (H : Hp) : BFlat (.str a) (.str b) (a == b) H := ⟨rfl, rfl, rfl⟩
theorem fl_i (a b : Int) (H : Hp) : BFlat (.int a) (.int b) (a == b) H := ⟨rfl, rfl, rfl⟩
section
variable {K : PySem.W.Frag} {C : Addr}
/-- the first items differ: nothing more is asked -/
theorem prs_ne {H : Hp} {D : Cmp} {x y : V} {xs ys : List V} (h : D x y false H) : PrB D (x :: xs) (y :: ys) (false :: List.replicate (min xs.length ys.length) true) H := by
  refine ⟨by rw [List.length_cons, List.length_replicate, List.length_cons, List.length_cons]; omega, fun i x' y' c g0 g1 g2 g3 => ?_⟩
  cases i with
  | zero =>
    cases g1
    cases g2
    cases g3
    exact h
  | succ i =>
    have := g0 0 (Nat.succ_pos i)
    cases this
theorem prs_nil {H : Hp} {D : Cmp} : PrB D [] [] [] H := ⟨rfl, fun i x y c _ g1 _ _ => by cases g1⟩
theorem prs_cons {H : Hp} {D : Cmp} {x y : V} {c : Bool} {xs ys : List V} {cs : List Bool} (h : D x y c H) (p : PrB D xs ys cs H) : PrB D (x :: xs) (y :: ys) (c :: cs) H := by
  refine ⟨by rw [List.length_cons, List.length_cons, List.length_cons, p.len]; omega, fun i x' y' c' g0 g1 g2 g3 => ?_⟩
  cases i with
  | zero =>
    cases g1
    cases g2
    cases g3
    exact h
  | succ i => exact p.at' i x' y' c' (fun j hj => g0 (j + 1) (by omega)) g1 g2 g3
theorem sne {a b : Str} (h : a ≠ b) (H : Hp) : BFlat (.str a) (.str b) false H := ⟨rfl, rfl, by
  show (a == b) = false
  exact beq_eq_false_iff_ne.mpr h⟩
theorem bsame (C : Addr) (H : Hp) {w1 w2 : M.Way} {n : Nat} {a b : Addr} (h1 : WayAt C H w1 a) (h2 : WayAt C H w2 b) (hd : w1.depth ≤ n) : BSm (BWy C n) (.ref a) (.ref b) (CP.weq w1 w2) H :=
  ⟨⟨a, b, w1, w2, rfl, rfl, h1, h2, hd, rfl⟩, fun e => by
    cases e
    exact CP.weq_iff.mpr (WP.way_fun h1 h2)⟩
theorem tup_step {n : Nat} {H : Hp} {x y : V} {c : Bool} {t u : Addr} {xs ys : List V} {cs : List Bool} (hx : x = .ref t) (hy : y = .ref u) (h1 : H t = some (.tup xs)) (h2 : H u = some (.tup ys)) (p : PrB (BIt C n) xs ys cs H) (hc : c = (cs.all id && decide (xs.length = ys.length))) : BTup K (BIt C n) x y c H :=
  ⟨t, u, xs, ys, cs, hx, hy, SqT.of h1, SqT.of h2, p, hc⟩
theorem step_b {H : Hp} {n : Nat} : ∀ {s r : M.Step} {x y : V}, M.Step.dep s ≤ n → StepAt C H s x → StepAt C H r y → BTup K (BIt C n) x y (CP.seq s r) H
  | .road a b c, .road a' b' c', x, y, d, h, k => by
    unfold StepAt at h k
    obtain ⟨t, e, h⟩ := h
    obtain ⟨u, f, k⟩ := k
    refine tup_step e f h k (prs_cons (.inl (fl_s _ _ H)) (prs_cons (.inl (fl_i _ _ H)) (prs_cons (.inl (fl_s _ _ H)) (prs_cons (.inl (fl_s _ _ H)) prs_nil)))) ?_
    unfold CP.seq CP.dStep
    simp only [PyData.eqv, PyData.eqvAll, List.all_cons, List.all_nil, id, List.length_cons, List.length_nil, decide_true, Bool.and_true]
  | .join a, .join b, x, y, d, h, k => by
    unfold StepAt at h k
    obtain ⟨t, e, h⟩ := h
    obtain ⟨u, f, k⟩ := k
    refine tup_step e f h k (prs_cons (.inl (fl_s _ _ H)) (prs_cons (.inl (fl_i _ _ H)) prs_nil)) ?_
    unfold CP.seq CP.dStep
    simp only [PyData.eqv, PyData.eqvAll, List.all_cons, List.all_nil, id, List.length_cons, List.length_nil, decide_true, Bool.and_true]
  | .tunnel w a b, .tunnel w' a' b', x, y, d, h, k => by
    unfold StepAt at h k
    obtain ⟨t, i, e, h, h2⟩ := h
    obtain ⟨u, j, f, k, k2⟩ := k
    refine tup_step e f h k (prs_cons (.inl (fl_s _ _ H)) (prs_cons (.inr (bsame C H h2 k2 d)) (prs_cons (.inl (fl_i _ _ H)) (prs_cons (.inl (fl_s _ _ H)) prs_nil)))) ?_
    unfold CP.seq CP.dStep CP.weq
    simp only [PyData.eqv, PyData.eqvAll, List.all_cons, List.all_nil, id, List.length_cons, List.length_nil, decide_true, Bool.and_true]
  | .road a b c, .join d0, x, y, d, h, k => by
    unfold StepAt at h k
    obtain ⟨t, e, h⟩ := h
    obtain ⟨u, f, k⟩ := k
    refine tup_step e f h k (prs_ne (.inl (sne CP.kinds_ne.1 H))) ?_
    exact Bool.eq_false_iff.mpr fun q => by cases CP.seq_iff.mp q
  | .join d0, .road a b c, x, y, d, h, k => by
    unfold StepAt at h k
    obtain ⟨t, e, h⟩ := h
    obtain ⟨u, f, k⟩ := k
    refine tup_step e f h k (prs_ne (.inl (sne CP.kinds_ne.2.2.1 H))) ?_
    exact Bool.eq_false_iff.mpr fun q => by cases CP.seq_iff.mp q
  | .tunnel w a b, .join d0, x, y, d, h, k => by
    unfold StepAt at h k
    obtain ⟨t, i, e, h, _⟩ := h
    obtain ⟨u, f, k⟩ := k
    refine tup_step e f h k (prs_ne (.inl (sne CP.kinds_ne.2.2.2.2.2 H))) ?_
    exact Bool.eq_false_iff.mpr fun q => by cases CP.seq_iff.mp q
  | .join d0, .tunnel w a b, x, y, d, h, k => by
    unfold StepAt at h k
    obtain ⟨t, e, h⟩ := h
    obtain ⟨u, i, f, k, _⟩ := k
    refine tup_step e f h k (prs_ne (.inl (sne CP.kinds_ne.2.2.2.1 H))) ?_
    exact Bool.eq_false_iff.mpr fun q => by cases CP.seq_iff.mp q
  | .road a b c, .tunnel w d0 e0, x, y, d, h, k => by
    unfold StepAt at h k
    obtain ⟨t, e, h⟩ := h
    obtain ⟨u, i, f, k, _⟩ := k
    refine tup_step e f h k (prs_ne (.inl (sne CP.kinds_ne.2.1 H))) ?_
    exact Bool.eq_false_iff.mpr fun q => by cases CP.seq_iff.mp q
  | .tunnel w d0 e0, .road a b c, x, y, d, h, k => by
    unfold StepAt at h k
    obtain ⟨t, i, e, h, _⟩ := h
    obtain ⟨u, f, k⟩ := k
    refine tup_step e f h k (prs_ne (.inl (sne CP.kinds_ne.2.2.2.2.1 H))) ?_
    exact Bool.eq_false_iff.mpr fun q => by cases CP.seq_iff.mp q
theorem step_sb {H : Hp} {n : Nat} {s r : M.Step} {x y : V} (d : M.Step.dep s ≤ n) (h : StepAt C H s x) (k : StepAt C H r y) : BSm (BTup K (BIt C n)) x y (CP.seq s r) H :=
  ⟨step_b d h k, fun e => by
    subst e
    exact CP.seq_iff.mpr (WP.step_fun h k)⟩
theorem steps_b {H : Hp} {n : Nat} : ∀ {s r : List M.Step} {xs ys : List V}, M.Step.deepest s ≤ n → StepsAt C H s xs → StepsAt C H r ys → PrB (BSm (BTup K (BIt C n))) xs ys (List.zipWith CP.seq s r) H
  | [], [], xs, ys, d, h1, h2 => by
    unfold StepsAt at h1 h2
    subst h1 h2
    exact prs_nil
  | [], _ :: _, xs, ys, d, h1, h2 => by
    unfold StepsAt at h1
    subst h1
    exact ⟨by simp, fun i x y c _ g1 _ _ => by cases g1⟩
  | _ :: _, [], xs, ys, d, h1, h2 => by
    unfold StepsAt at h2
    subst h2
    exact ⟨by simp, fun i x y c _ _ g2 _ => by cases g2⟩
  | s :: s', r :: r', xs, ys, d, h1, h2 => by
    rw [M.deep_cons] at d
    unfold StepsAt at h1 h2
    obtain ⟨x, xs, rfl, a1, a2⟩ := h1
    obtain ⟨y, ys, rfl, b1, b2⟩ := h2
    rw [List.zipWith_cons_cons]
    exact prs_cons (step_sb (by omega) a1 b1) (steps_b (by omega) a2 b2)
end
section
variable {P : Program} {w : World} {K : PySem.W.Frag} {mg : Str → Option Value} {base : Heap} {C : Addr}
theorem ok_weqB {k n : Nat} {f : Addr} {fd : FuncData} (F : Fun K "__eq__" "Way.__eq__" sWEq f fd) (B : Bn mg) (T : Wt K mg C) (G0 : FnOk P w K mg base CX0 k f fd ["self", "other"] (spWEB C n)) (O : WO.Own K C f "__eq__") (b : Binds K fd ["self", "other"] []) : FnOk P w K mg base CX0 (k + 3) f fd ["self", "other"] (spWEB C (n + 1)) := by
  refine F.ok scWEq (fun vs H Q E h => ?_) (fun cdv A outer s H vs Q E hr h => ?_)
  · obtain ⟨a, b, w1, w2, rfl, _⟩ := h
    rfl
  · obtain ⟨x, y, w1, w2, rfl, ha, hb, hd, kk⟩ := h
    refine ⟨_, pss_one (ps_ret (pe_and (pe_callB call_isi (by rfl) B.isi (by decide +kernel) (pa_cons (pv 1) (pa_cons (pe_glob (v := .ref C) rfl T.g rfl) pa_nil)))
      (pe_and (pe_cmpR op_eq (pe_fld (pv 0) rfl) (pe_fld (pv 1) rfl) (nomark _))
      (pe_one (pe_cmpR (op_eqB (rcB_tup (mon_sm (mon_tup mon_bit)) (eqB_tup mon_bit ((eqB_flat.mono (Nat.zero_le k)).or ((rcB_wy G0 O b).eqB fun _ _ _ _ d => let ⟨a, b, _, _, hx, hy, _⟩ := d; ⟨a, b, hx, hy⟩)))) hr) (pe_fld (pv 0) rfl) (pe_fld (pv 1) rfl) (nomark _)))))), ?_⟩
    obtain ⟨da, fa, a1, a2⟩ := head_fld ha
    obtain ⟨db, fb, b1, b2⟩ := head_fld hb
    obtain ⟨dc, fc, t1, xs, c1, c2, c3, c4⟩ := steps_fld ha
    obtain ⟨de, fe, t2, ys, e1, e2, e3, e4⟩ := steps_fld hb
    refine ⟨_, rfl, _, _, _, _, true, rfl, .own C, .base (.ins b1 T.cl T.iA T.iN T.iT T.iM), ?_, _, rfl, iteT ?_⟩
    · unfold PySem.W.kitOne
      rw [if_pos (by simp)]
    refine ⟨_, rfl, x, C, da, fa, _, rfl, a1, T.cl, T.nH, a2, _, rfl, y, C, db, fb, _, rfl, b1, T.cl, T.nH, b2, rfl, _, rfl, ?_⟩
    obtain ⟨g1, s1⟩ := w1
    obtain ⟨g2, s2⟩ := w2
    have hl := c4.len
    have hm := e4.len
    change xs.length = s1.length at hl
    change ys.length = s2.length at hm
    change StepsAt C H s1 xs at c4
    change StepsAt C H s2 ys at e4
    show (if _ then _ else _)
    by_cases eh : g1 = g2
    · rw [decide_eq_true (show V.int (((M.Way.mk g1 s1).head : Nat) : Int) = V.int (((M.Way.mk g2 s2).head : Nat) : Int) from congrArg (fun n : Nat => V.int (n : Int)) eh)]
      refine iteT ⟨_, rfl, x, C, dc, fc, _, rfl, c1, T.cl, T.nS, c2, _, rfl, y, C, de, fe, _, rfl, e1, T.cl, T.nS, e2, ?_⟩
      unfold M.Way.depth at hd
      refine ⟨_, ⟨t1, t2, xs, ys, _, rfl, rfl, SqT.of c3, SqT.of e3, steps_b (by omega) c4 e4, rfl⟩, fun H' x => ?_⟩
      have := kk H' x
      rw [CP.weq_mk, decide_eq_true eh, Bool.true_and] at this
      rw [hl, hm]
      exact this
    · rw [decide_eq_false (show ¬ V.int (((M.Way.mk g1 s1).head : Nat) : Int) = V.int (((M.Way.mk g2 s2).head : Nat) : Int) from fun q => eh (Int.ofNat.inj (V.int.inj q)))]
      refine iteF ?_
      have := kk H Ext.rfl'
      rw [CP.weq_mk, decide_eq_false eh, Bool.false_and] at this
      exact this
theorem df_weqB {f : Addr} {fd : FuncData} (F : Fun K "__eq__" "Way.__eq__" sWEq f fd) (B : Bn mg) (T : Wt K mg C) (O : WO.Own K C f "__eq__") (b : Binds K fd ["self", "other"] []) : ∀ n, FnOk P w K mg base CX0 (1 + 3 * n) f fd ["self", "other"] (spWEB C n)
  | 0 => F.ok scWEq (fun vs H Q E h => by
      obtain ⟨a, b, w1, w2, rfl, _⟩ := h
      rfl) (fun cdv A outer s H vs Q E hr h => by
      exfalso
      obtain ⟨a, b, w1, w2, _, _, _, hd, _⟩ := h
      have := M.depth_pos w1
      omega)
  | n + 1 => ok_weqB F B T (df_weqB F B T O b n) O b
abbrev sAddW : Stmt := inClass (top 66) 5
def spAddW (C : Addr) : Sp := fun vs H Q _ => ∃ a b h s1 s2, vs = [.ref a, .ref b] ∧ WayAt C H (.mk h s1) a ∧ WayAt C H (.mk h s2) b ∧ 1 ≤ s1.length ∧ s1.length + s2.length ≤ 100 ∧ M.Way.fine (.mk h (s1 ++ s2)) ∧ ∀ c H', Same H H' → WayAt C H' (.mk h (s1 ++ s2)) c → Q (.ref c) H'
theorem scAW : FnScope ["self", "other"] ["self", "other"] (defScope sAddW) := ⟨rfl, rfl, rfl, by decide +kernel, rfl, by decide +kernel, by decide +kernel⟩
theorem ok_addW {f : Addr} {fd : FuncData} (F : Fun K "__add__" "Way.__add__" sAddW f fd) (T : Wt K mg C) (MW : Mw P w K mg base C) : FnOk P w K mg base CX0 8 f fd ["self", "other"] (spAddW C) := by
  obtain ⟨fI, fdI, GI, MK, bI⟩ := MW.ex
  refine F.ok scAW (fun vs H Q E h => ?_) (fun cdv A outer s H vs Q E hr h => ?_)
  · obtain ⟨a, b, h, s1, s2, rfl, _⟩ := h
    rfl
  · obtain ⟨a, b, h, s1, s2, rfl, h1, h2, n1, n2, hf, k⟩ := h
    refine ⟨_, pss_cons (ps_if (pt_cmpR op_ne (pe_fld (pv 1) rfl) (pe_fld (pv 0) rfl) (nomark _)) ps_dead pss_nil)
      (pss_one (ps_ret (pe_make MK GI hr rfl T.g bI .nil pass0 (pa_cons (pe_fld (pv 0) rfl) (pa_cons (pe_op op_catA (pe_fld (pv 0) rfl) (pe_fld (pv 1) rfl)) pa_nil))))), ?_⟩
    obtain ⟨da, fa, a1, a2⟩ := head_fld h1
    obtain ⟨db, fb, b1, b2⟩ := head_fld h2
    obtain ⟨dc, fc, t1, xs, c1, c2, c3, c4⟩ := steps_fld h1
    obtain ⟨de, fe, t2, ys, e1, e2, e3, e4⟩ := steps_fld h2
    refine ⟨_, rfl, b, C, db, fb, _, rfl, b1, T.cl, T.nH, b2, _, rfl, a, C, da, fa, _, rfl, a1, T.cl, T.nH, a2, rfl, _, rfl, iteNS rfl ?_⟩
    have lx := c4.len
    have ly := e4.len
    refine ⟨_, rfl, a, C, da, fa, _, rfl, a1, T.cl, T.nH, a2, ?_⟩
    refine ⟨_, rfl, a, C, dc, fc, _, rfl, c1, T.cl, T.nS, c2, _, rfl, b, C, de, fe, _, rfl, e1, T.cl, T.nS, e2, ?_⟩
    refine catA_own c3 e3 ?_ fun u G s hu => ?_
    · have q : xs.length + ys.length ≤ 100 := by rw [lx, ly]; exact n2
      exact Nat.le_trans q (by decide)
    · exact made_way (.inr hu) ((c4.mono s).app (e4.mono s)) hf fun x H' s2 wa => k x H' (s.trans s2) wa
end
end EB

end
section
set_option autoImplicit false
set_option Elab.async false
set_option linter.all false
set_option maxRecDepth 100000
set_option maxHeartbeats 4000000
set_option pp.maxSteps 900
/-! ## _law_two_right -/
namespace CP
open PySem L2 G Y M
abbrev sLTwoR : Stmt := S.top 83
section
variable {P : Program} {w : World} {K : PySem.W.Frag} {mg : Str → Option Value} {base : Heap} {C CW : Addr}
/-- what two fates are told apart by -/
def fkey : M.FateA → Str × Int
  | .silent _ => ("silent", 0)
  | .told z _ => ("told", z)
  | .comes n _ => ("comes", (n : Int))
def ekey : Option (Option Int) → Nat → Str × Int
  | some none, _ => ("silent", 0)
  | some (some z), _ => ("told", z)
  | none, n => ("comes", (n : Int))
theorem fkey_ef (se : Bool) (wy : M.Way) (b : Nat) (cs : List Nat) : fkey (fateOf (M.Way.lows se wy) b cs) = ekey (Ef (endS se wy) b) (N.PC cs b) := by
  have e := lows_ef b (M.Way.gates se wy) []
  rw [List.map_nil, ef_nil, gates_end] at e
  have e : Ef ((M.Way.lows se wy).map sg) b = Ef (endS se wy) b := e
  rw [← e]
  unfold fateOf
  generalize M.Way.lows se wy = l
  unfold Ef
  rw [List.find?_map]
  show fkey (match l.find? (fun g => decide (g.thr < (b : Int))) with | some g => fateG g | none => _) = ekey (((l.find? fun g => decide (g.thr < (b : Int))).map sg).map (·.2)) _
  cases l.find? (fun g => decide (g.thr < (b : Int))) with
  | none => rfl
  | some g =>
    show fkey (fateG g) = ekey (some g.ans) _
    unfold fateG
    cases g.ans <;> rfl
theorem key_ne : ("silent" : Str) ≠ "told" ∧ ("silent" : Str) ≠ "comes" ∧ ("told" : Str) ≠ "silent" ∧ ("told" : Str) ≠ "comes" ∧ ("comes" : Str) ≠ "silent" ∧ ("comes" : Str) ≠ "told" := by decide +kernel
theorem ekey_ne {a b : Option (Option Int)} {n m : Nat} (h : a ≠ b ∨ (a = none ∧ b = none ∧ n ≠ m)) : ekey a n ≠ ekey b m := by
  intro e
  match a, b, h, e with
  | none, none, h, e =>
    rcases h with h | ⟨_, _, h⟩
    · exact h rfl
    · have e2 := congrArg Prod.snd e
      have e2 : (n : Int) = (m : Int) := e2
      omega
  | none, some none, _, e => exact key_ne.2.2.2.2.1 (congrArg Prod.fst e)
  | none, some (some _), _, e => exact key_ne.2.2.2.2.2 (congrArg Prod.fst e)
  | some none, none, _, e => exact key_ne.2.1 (congrArg Prod.fst e)
  | some (some _), none, _, e => exact key_ne.2.2.2.1 (congrArg Prod.fst e)
  | some none, some none, h, e =>
    rcases h with h | ⟨h, _⟩
    · exact h rfl
    · cases h
  | some none, some (some _), _, e => exact key_ne.1 (congrArg Prod.fst e)
  | some (some _), some none, _, e => exact key_ne.2.2.1 (congrArg Prod.fst e)
  | some (some x), some (some y), h, e =>
    rcases h with h | ⟨h, _⟩
    · have : x = y := congrArg Prod.snd e
      exact h (by rw [this])
    · cases h
theorem part_key {k : Bool} {w1 w2 : M.Way} (f1 : w1.fine) (f2 : w2.fine) {b : Nat} (h : PartD k w1 w2 b) : fkey (fateOf (M.Way.lows k w1) b (chW k w1)) ≠ fkey (fateOf (M.Way.lows k w2) b (chW k w2)) := by
  rw [fkey_ef, fkey_ef]
  refine ekey_ne ?_
  rcases h with h | ⟨hk, e1, e2, p, rfl, ne, low⟩
  · exact .inl h
  · exact .inr ⟨e1, e2, N.PC_ne (ck_way f1).fall (ck_way f2).fall low ne⟩
/-- a fate as a value: its first word, and its number -/
theorem fat_key {H : Hp} {fa : M.FateA} {v : V} (h : FAt H fa v) : ∃ t r, v = .ref t ∧ H t = some (.tup (.str (fkey fa).1 :: r)) ∧ (((fkey fa).1 = "silent" ∧ (fkey fa).2 = 0) ∨ ((fkey fa).1 ≠ "silent" ∧ ∃ r', r = .int (fkey fa).2 :: r')) := by
  cases fa with
  | silent p =>
    obtain ⟨t, q, e, h1, _⟩ := h
    exact ⟨t, _, e, h1, .inl ⟨rfl, rfl⟩⟩
  | told z p =>
    obtain ⟨t, q, e, h1, _⟩ := h
    exact ⟨t, _, e, h1, .inr ⟨key_ne.2.2.1, _, rfl⟩⟩
  | comes n l =>
    obtain ⟨t, e, h1⟩ := h
    exact ⟨t, _, e, h1, .inr ⟨key_ne.2.2.2.2.1, _, rfl⟩⟩
theorem iteB {c : Bool} {A B : Prop} (h : c = false) (b : B) : if c = true then A else B := by
  subst h
  exact b
theorem iteA {c : Bool} {A B : Prop} (h : c = true) (a : A) : if c = true then A else B := by
  subst h
  exact a
theorem bl_same (x : Bool) : (!decide (V.bl x = V.bl x)) = false := by rw [decide_eq_true rfl]; rfl
def tKey (K : PySem.W.Frag) (i : Nat) : TE := tTup (tCons (tOp (rIxT K) (tVar i) (tC (.int 0))) (tCons (tIf (tTest (tOp rNe (tOp (rIxT K) (tVar i) (tC (.int 0))) (tC (.str "silent")))) (tOp (rIxT K) (tVar i) (tC (.int 1))) (tC (.int 0))) tNil))
theorem key_at {i : Nat} {σ : L2.St} {G : Hp} {R : VK} {t : Addr} {r : List V} {ky : Str × Int} (hσ : σ[i]? = some (some (.ref t))) (e : G t = some (.tup (.str ky.1 :: r))) (c : (ky.1 = "silent" ∧ ky.2 = 0) ∨ (ky.1 ≠ "silent" ∧ ∃ r', r = .int ky.2 :: r')) (k : ∀ T G', Same G G' → G' T = some (.tup [.str ky.1, .int ky.2]) → R (.ref T) G') : tKey K i σ G R := by
  have z0 : ∀ {y0 : V} {ys : List V}, atI (y0 :: ys) (0 : Int) = some y0 := fun {y0 ys} => by exact atI_nat (xs := y0 :: ys) (j := 0) rfl
  have z1 : ∀ {y0 y1 : V} {ys : List V}, atI (y0 :: y1 :: ys) (1 : Int) = some y1 := fun {y0 y1 ys} => by exact atI_nat (xs := y0 :: y1 :: ys) (j := 1) rfl
  refine ⟨_, hσ, t, _, _, _, rfl, rfl, SqT.of e, z0, _, hσ, t, _, _, _, rfl, rfl, SqT.of e, z0, rfl, _, rfl, ?_⟩
  rcases c with ⟨c1, c2⟩ | ⟨c1, r', c2⟩
  · refine iteB (by rw [c1, decide_eq_true rfl]; rfl) ⟨line2.1, fun T nT => k T _ (of_upd nT) ?_⟩
    rw [upd_same, c2]
  · subst c2
    exact iteNT (fun z => c1 (V.str.inj z)) ⟨_, hσ, t, _, _, _, rfl, rfl, SqT.of e, z1, line2.1, fun T nT => k T _ (of_upd nT) upd_same⟩
theorem keys_ne {H : Hp} {a b : Addr} {k1 k2 : Str × Int} (h1 : H a = some (.tup [.str k1.1, .int k1.2])) (h2 : H b = some (.tup [.str k2.1, .int k2.2])) (ne : k1 ≠ k2) : EB.BTup K EB.BFlat (.ref a) (.ref b) false H := by
  refine ⟨a, b, _, _, [k1.1 == k2.1, k1.2 == k2.2], rfl, rfl, SqT.of h1, SqT.of h2, EB.prs_cons (EB.fl_s _ _ H) (EB.prs_cons (EB.fl_i _ _ H) EB.prs_nil), ?_⟩
  have : (k1.1 == k2.1 && k1.2 == k2.2) = false := by
    rw [Bool.and_eq_false_iff]
    by_cases q : k1.1 = k2.1
    · exact .inr (beq_eq_false_iff_ne.mpr fun z => ne (Prod.ext q z))
    · exact .inl (beq_eq_false_iff_ne.mpr q)
  simp only [List.all_cons, List.all_nil, id, Bool.and_true, this, Bool.false_and]
theorem if_keys {i j : Nat} {t1 t2 : TS} {D : Ends} {σ : L2.St} {G : Hp} {a b : Addr} {r s : List V} {k1 k2 : Str × Int} (h1 : σ[i]? = some (some (.ref a))) (h2 : σ[j]? = some (some (.ref b))) (e1 : G a = some (.tup (.str k1.1 :: r))) (e2 : G b = some (.tup (.str k2.1 :: s)))
    (c1 : (k1.1 = "silent" ∧ k1.2 = 0) ∨ (k1.1 ≠ "silent" ∧ ∃ r', r = .int k1.2 :: r')) (c2 : (k2.1 = "silent" ∧ k2.2 = 0) ∨ (k2.1 ≠ "silent" ∧ ∃ r', s = .int k2.2 :: r')) (ne : k1 ≠ k2) (k : ∀ G', Same G G' → t2 D σ G') :
    tSeq (tIfS (tTest (tOp (EB.rEqB (EB.BTup K EB.BFlat)) (tKey K i) (tKey K j))) t1 tNext) t2 D σ G := by
  show tKey K i σ G (fun x H1 => tKey K j σ H1 fun y H2 => EB.rEqB (EB.BTup K EB.BFlat) x y H2 _)
  refine key_at h1 e1 c1 fun T1 G5 s5 g1 => ?_
  refine key_at h2 (s5 _ _ e2) c2 fun T2 G6 s6 g2 => ?_
  exact ⟨_, keys_ne (s6 _ _ g1) g2 ne, fun G7 s7 => ⟨_, rfl, iteF (k _ ((s5.trans s6).trans s7))⟩⟩
structure DAl (P : Program) (w : World) (K : PySem.W.Frag) (mg : Str → Option Value) (base : Heap) (k : Nat) (sp : Sp) : Prop where
  ex : ∃ (f : Addr) (fd : FuncData), FnOk P w K mg base CX0 k f fd ["first", "second", "upto"] sp ∧ mg "alike" = some (.ref f) ∧ PySem.W.keepIn K (.ref f) = true ∧ KBinds K fd ["first", "second", "upto"] ["upto"] g21 g21 ∧ Binds K fd ["first", "second", "upto"] [.none]
structure DFt (P : Program) (w : World) (K : PySem.W.Frag) (mg : Str → Option Value) (base : Heap) (k : Nat) (sp : Sp) : Prop where
  ex : ∃ (f : Addr) (fd : FuncData), FnOk P w K mg base CX0 k f fd ["way", "body", "sealed"] sp ∧ mg "fate" = some (.ref f) ∧ PySem.W.keepIn K (.ref f) = true ∧ KBinds K fd ["way", "body", "sealed"] ["sealed"] g21 g21
def spTwoR (CW : Addr) : Sp := fun vs H Q _ => ∃ (a b : Addr) (w1 w2 : M.Way), vs = [.ref a, .ref b] ∧ WP.WayAt CW H w1 a ∧ WP.WayAt CW H w2 b ∧ M.Way.fine w1 ∧ M.Way.fine w2 ∧ ∀ H', Same H H' → Q (.bl true) H'
theorem scTr : FnScope ["one", "two", "place", "is_same", "body", "kind", "left", "right"] ["one", "two"] (defScope sLTwoR) := ⟨rfl, rfl, rfl, by decide +kernel, rfl, by decide +kernel, by decide +kernel⟩
theorem ok_twor {k : Nat} {f : Addr} {fd : FuncData} (F : Fun K "_law_two_right" "_law_two_right" sLTwoR f fd) (hk : 3 ≤ k) (DP : Df P w K mg base k "parting" ["first", "second"] (spPart CW 3)) (DA : DAl P w K mg base k (spAlike CW 3)) (DM : Df1 P w K mg base k (spForm C CW 3)) (DF : DFt P w K mg base k (spFate C CW 3)) (DE : Oe P w K mg base C 1 "__eq__" ["self", "other"] (EB.spEqC C)) : FnOk P w K mg base CX0 (k + 1) f fd ["one", "two"] (spTwoR CW) := by
  obtain ⟨fP, fdP, GP, gP, kP, bP⟩ := DP.ex
  obtain ⟨fA, fdA, GA, gA, kA, kbA, bA⟩ := DA.ex
  obtain ⟨fM, fdM, GM, gM, kM, kbM, bM⟩ := DM.ex
  obtain ⟨fF, fdF, GF, gF, kF, kbF⟩ := DF.ex
  obtain ⟨fE, fdE, GE, OE, bE⟩ := DE.ex
  refine F.ok scTr (fun vs H Q E h => ?_) (fun cdv A outer s H vs Q E hr h => ?_)
  · obtain ⟨a, b, w1, w2, rfl, _⟩ := h
    rfl
  · obtain ⟨a, b, w1, w2, rfl, h1, h2, f1, f2, kk⟩ := h
    refine ⟨_, pss_cons (ps_par (i := 2) (j := 3) (by rfl) scTr.nd rfl rfl (by decide) rfl rfl (pa_cons (pe_call GP (hr.mono (by omega)) rfl gP kP bP .nil pass0 (pa_cons (pv 0) (pa_cons (pv 1) pa_nil))) (pa_cons (pe_call GA (hr.mono (by omega)) rfl gA kA bA vnon pass0 (pa_cons (pv 0) (pa_cons (pv 1) pa_nil))) pa_nil)) (by rfl))
      (pss_cons (ps_if (PW.pt (pw_or (pt_cmpR (op_ne) (pv 3) (pe_cmpR (op_isN) (pv 2) (pe_non) (nomark _)) (nomark _)) (pw_or1 (pt_cmpR (op_ne) (pv 3) (pe_cmpR (EB.op_eqB (rcB_form GE OE bE) (hr.mono (by omega))) (pe_call GM (hr.mono (by omega)) rfl gM kM bM vnon pass0 (pa_cons (pv 0) pa_nil)) (pe_call GM (hr.mono (by omega)) rfl gM kM bM vnon pass0 (pa_cons (pv 1) pa_nil)) (nomark _)) (nomark _))))) (pss_one (ps_ret (pe_bl))) (pss_nil))
      (pss_cons (ps_if (pt_cmpR (op_isN) (pv 2) (pe_non) (nomark _)) (pss_one (ps_ret (pe_callK GA (hr.mono (by omega)) rfl gA kA kbA pass0 (pa_cons (pv 0) (pa_cons (pv 1) pa_nil)) (pk_cons (pe_op (op_powN) (pe_int) (pe_int)) pk_nil)))) (pss_nil))
      (pss_cons (ps_asg (pv 2) (pg_tup (by rfl) (pgs_cons (pg_name (i := 4) scTr.nd rfl (Or.inl rfl)) (pgs_cons (pg_name (i := 5) scTr.nd rfl (Or.inl rfl)) pgs_nil))))
      (pss_cons (ps_par (i := 6) (j := 7) (by rfl) scTr.nd rfl rfl (by decide) rfl rfl (pa_cons (pe_callK GF (hr.mono (by omega)) rfl gF kF kbF pass0 (pa_cons (pv 0) (pa_cons (pv 4) pa_nil)) (pk_cons (pv 5) pk_nil)) (pa_cons (pe_callK GF (hr.mono (by omega)) rfl gF kF kbF pass0 (pa_cons (pv 1) (pa_cons (pv 4) pa_nil)) (pk_cons (pv 5) pk_nil)) pa_nil)) (by rfl))
      (pss_cons (ps_if (pt_cmpR (EB.op_eqB (EB.rcB_tup EB.mon_flat EB.eqB_flat) (hr.mono (by omega))) (pe_tup (pa_cons (pe_ix ix_tup (pv 6) (pe_int) (fun _ _ => rfl)) (pa_cons (pe_ifExp (pt_cmpR (op_ne) (pe_ix ix_tup (pv 6) (pe_int) (fun _ _ => rfl)) (pe_str) (nomark _)) (pe_ix ix_tup (pv 6) (pe_int) (fun _ _ => rfl)) (pe_int)) pa_nil))) (pe_tup (pa_cons (pe_ix ix_tup (pv 7) (pe_int) (fun _ _ => rfl)) (pa_cons (pe_ifExp (pt_cmpR (op_ne) (pe_ix ix_tup (pv 7) (pe_int) (fun _ _ => rfl)) (pe_str) (nomark _)) (pe_ix ix_tup (pv 7) (pe_int) (fun _ _ => rfl)) (pe_int)) pa_nil))) (nomark _)) (pss_one (ps_ret (pe_bl))) (pss_nil))
      (pss_one (ps_ret (pe_and (pe_not (pe_callK GA (hr.mono (by omega)) rfl gA kA kbA pass0 (pa_cons (pv 0) (pa_cons (pv 1) pa_nil)) (pk_cons (pv 4) pk_nil))) (pe_one (pe_or (pe_cmpR (op_eq) (pv 4) (pe_int) (nomark _)) (pe_one (pe_callK GA (hr.mono (by omega)) rfl gA kA kbA pass0 (pa_cons (pv 0) (pa_cons (pv 1) pa_nil)) (pk_cons (pe_op (op_sub) (pv 4) (pe_int)) pk_nil))))))))))))), ?_⟩
    have d1 := fine_dep f1
    have d2 := fine_dep f2
    have noL : ∀ z : Int, (none : Option Int) = some z → 0 ≤ z := fun z e => nomatch e
    have als := part_none f1 f2
    have alk := alike_iff noL f1 f2
    refine ⟨_, rfl, _, rfl, a, b, w1, w2, rfl, h1, h2, f1, f2, d1, d2, fun pv H1 s1 hp => ?_⟩
    refine ⟨_, rfl, _, rfl, a, b, w1, w2, none, rfl, h1.mono s1, h2.mono s1, f1, f2, d1, d2, noL, fun H2 s2 => ?_⟩
    have p1 := h1.mono (s1.trans s2)
    have p2 := h2.mono (s1.trans s2)
    refine ⟨_, _, rfl, ?_⟩
    try dsimp only
    have forms : ∀ {G : Hp} {R : VK}, Same H2 G → (∀ G', Same H2 G' → R (.bl (alikeW none w1 w2)) G') → tOp (EB.rEqB (EB.BTup K (BIt K C))) (tCall (spForm C CW 3) [.non] E0 (tCons (tVar 0) tNil)) (tCall (spForm C CW 3) [.non] E0 (tCons (tVar 1) tNil)) [some (.ref a), some (.ref b), some pv, some (.bl (alikeW none w1 w2)), none, none, none, none] G R := fun {G R} sG k => by
      refine ⟨_, rfl, a, w1, none, rfl, p1.mono sG, f1, d1, noL, fun t1 G1 q1 k1 => ⟨_, rfl, b, w2, none, rfl, (p2.mono sG).mono q1, f2, d2, noL, fun t2 G2 q2 k2 => ?_⟩⟩
      exact ⟨_, form_cmp (FormAt.mono q2 k1) k2, fun G' e => k G' (((sG.trans q1).trans q2).trans e)⟩
    cases e : partW w1 w2 with
    | none =>
      rw [e] at hp
      have hp : pv = .non := hp
      subst hp
      have same := als.mp e
      have al : alikeW none w1 w2 = true := alk.mpr same
      refine ⟨_, rfl, _, rfl, rfl, rfl, _, rfl, iteB ?_ ?_⟩
      · rw [al]
        rfl
      refine ⟨_, rfl, forms (Same.refl _) fun G sG => ⟨rfl, _, rfl, iteB (bl_same _) ?_⟩⟩
      try dsimp only
      refine ⟨_, rfl, rfl, _, rfl, iteA (by decide) ?_⟩
      refine ⟨_, rfl, _, rfl, 10, 18, rfl, rfl, ⟨by decide, by decide +kernel⟩, a, b, w1, w2, some _, rfl, p1.mono sG, p2.mono sG, f1, f2, d1, d2, ?_, fun G' s' => ?_⟩
      · exact fun z ez => by
          cases ez
          decide +kernel
      · rw [(alike_iff (fun z ez => by cases ez; decide +kernel) f1 f2).mpr (same.up fun _ _ _ e => nomatch e)]
        exact kk _ (((s1.trans s2).trans sG).trans s')
    | some q =>
      obtain ⟨z, k⟩ := q
      rw [e] at hp
      obtain ⟨t, rfl, ht⟩ := hp
      have sp := part_spec f1 f2
      rw [e] at sp
      obtain ⟨z0, pd, upto⟩ := sp
      have zb := part_bz f1 f2 z k e
      obtain ⟨b0, rfl⟩ := Int.eq_ofNat_of_zero_le z0
      rw [Int.toNat_natCast] at pd
      have al : alikeW none w1 w2 = false := by
        cases q : alikeW none w1 w2 with
        | false => rfl
        | true =>
          rw [als.mpr (alk.mp q)] at e
          cases e
      have nn : decide (V.ref t = V.non) = false := decide_eq_false fun e => nomatch e
      refine ⟨_, rfl, _, rfl, rfl, rfl, _, rfl, iteB ?_ ?_⟩
      · rw [al, nn]
        exact bl_same false
      refine ⟨_, rfl, forms (Same.refl _) fun G sG => ⟨rfl, _, rfl, iteB (bl_same _) ?_⟩⟩
      try dsimp only
      refine ⟨_, rfl, rfl, _, rfl, iteB nn ?_⟩
      have ht2 := sG _ _ (s2 _ _ ht)
      try dsimp only
      refine ⟨_, rfl, t, _, rfl, SqT.of ht2, rfl, _, _, rfl, _, _, rfl, rfl, ?_⟩
      try dsimp only
      refine ⟨_, rfl, _, rfl, _, rfl, a, b0, k, w1, rfl, p1.mono sG, f1, d1, by omega, fun v3 G3 s3 k3 => ?_⟩
      refine ⟨_, rfl, _, rfl, _, rfl, b, b0, k, w2, rfl, (p2.mono sG).mono s3, f2, d2, by omega, fun v4 G4 s4 k4 => ?_⟩
      obtain ⟨t3, r3, rfl, e3, c3⟩ := fat_key k3
      obtain ⟨t4, r4, rfl, e4, c4⟩ := fat_key k4
      have kne := part_key f1 f2 pd
      unfold chW at kne
      refine ⟨_, _, rfl, ?_⟩
      try dsimp only
      refine if_keys (K := K) (i := 6) (j := 7) rfl rfl (s4 _ _ e3) e4 c3 c4 kne fun G7 s7 => ?_
      have s27 : Same G G7 := (s3.trans s4).trans s7
      have q1 := (p1.mono sG).mono s27
      have q2 := (p2.mono sG).mono s27
      have no1 : alikeW (some (b0 : Int)) w1 w2 = false := by
        cases q : alikeW (some (b0 : Int)) w1 w2 with
        | false => rfl
        | true => exact (part_not pd rfl ((alike_iff (fun z ez => by cases ez; omega) f1 f2).mp q)).elim
      refine ⟨_, rfl, _, rfl, _, rfl, a, b, w1, w2, some (b0 : Int), rfl, q1, q2, f1, f2, d1, d2, fun z ez => by cases ez; omega, fun G8 s8 => ⟨_, rfl, _, rfl, ?_⟩⟩
      rw [no1]
      refine iteT ?_
      refine ⟨_, rfl, rfl, _, rfl, ?_⟩
      have done : Same H G8 := (((s1.trans s2).trans sG).trans s27).trans s8
      by_cases b00 : b0 = 0
      · subst b00
        exact iteP rfl (kk _ done)
      · refine iteN (fun z => b00 (by injection z with z; omega)) ?_
        refine ⟨_, rfl, _, rfl, _, rfl, _, _, rfl, rfl, a, b, w1, w2, some ((b0 : Int) - 1), rfl, q1.mono s8, q2.mono s8, f1, f2, d1, d2, fun z ez => by cases ez; omega, fun G9 s9 => ?_⟩
        rw [(alike_iff (fun z ez => by cases ez; omega) f1 f2).mpr (upto _ fun c hc => by have := hc _ rfl; omega)]
        exact kk _ (done.trans s9)
end
end CP

end
section
set_option autoImplicit false
set_option Elab.async false
set_option linter.all false
set_option maxRecDepth 100000
set_option maxHeartbeats 4000000
set_option pp.maxSteps 900
/-! ## _law_put_right -/
namespace CP
open PySem L2 G Y M
abbrev sLPutR : Stmt := S.top 84
section
variable {P : Program} {w : World} {K : PySem.W.Frag} {mg : Str → Option Value} {base : Heap} {C CW : Addr}
structure AwB (P : Program) (w : World) (K : PySem.W.Frag) (mg : Str → Option Value) (base : Heap) (C : Addr) : Prop where
  ex : ∃ (f : Addr) (fd : FuncData), FnOk P w K mg base CX0 8 f fd ["self", "other"] (EB.spAddW C) ∧ WO.Own K C f "__add__" ∧ PySem.W.selfFirst K C = true ∧ Binds K fd ["self", "other"] []
def inTun (u : M.Way) : M.Way := .mk 7 [.tunnel u 3 .turn, .road 30 true .cut]
theorem fine_tun {h : Nat} {s : List M.Step} (f : M.Way.fine (.mk h s)) (d : (M.Way.mk h s).depth ≤ 2) (z : (M.Way.mk h s).size ≤ 38) : (inTun (.mk h s)).fine := by
  unfold M.Way.depth at d
  unfold M.Way.size at z
  unfold inTun M.Way.fine M.Step.fineAll M.Step.fineAll M.Step.fineAll M.Step.fine
  refine ⟨⟨by decide, by decide⟩, ⟨by show 1 ≤ 2; decide, by show 2 ≤ 12; decide⟩, ⟨⟨f, by decide, by decide⟩, ⟨by decide, by decide⟩, trivial⟩, ?_, ?_⟩
  · rw [M.deep_cons, M.deep_cons]
    show 1 + max (M.Way.depth (.mk h s)) (max 0 0) ≤ 3
    unfold M.Way.depth
    omega
  · rw [M.inner_cons, M.inner_cons]
    show 2 + (M.Way.size (.mk h s) + (0 + 0)) ≤ 40
    unfold M.Way.size
    omega
theorem same_inTun {h : Nat} {s r : List M.Step} (f1 : M.Way.fine (.mk h s)) (f2 : M.Way.fine (.mk h r)) (q : Same (.mk h s) (.mk h r)) : Same (inTun (.mk h s)) (inTun (.mk h r)) := by
  have q1 := same_tun (h := 7) (n := 3) (t := .turn) (w := .mk h s) (u := .mk h r) (by decide) rfl (fun se => (ck_way (se := se) f1).fall) (fun se => (ck_way (se := se) f2).fall) q
  have fr : M.Step.fineAll 7 [.road 30 true .cut] := by
    unfold M.Step.fineAll M.Step.fine M.Step.fineAll
    exact ⟨⟨by decide, by decide⟩, trivial⟩
  exact same_app (a := [.tunnel (.mk h s) 3 .turn]) (b := [.tunnel (.mk h r) 3 .turn]) (s := [.road 30 true .cut]) fr (fun se => ck_nil) (fun se => ck_nil) q1
theorem same_plus {h : Nat} {s r : List M.Step} {x : M.Step} (f1 : M.Way.fine (.mk h s)) (f2 : M.Way.fine (.mk h r)) (fx : M.Step.fine h x) (q : Same (.mk h s) (.mk h r)) : Same (.mk h (s ++ [x])) (.mk h (r ++ [x])) :=
  same_app (by unfold M.Step.fineAll; exact ⟨fx, by unfold M.Step.fineAll; trivial⟩) (fun se => ck_way (se := se) f1) (fun se => ck_way (se := se) f2) q
theorem alike_same {w u : M.Way} (fw : w.fine) (fu : u.fine) (q : Same w u) : alikeW none w u = true := (alike_iff (L := none) (fun _ e => nomatch e) fw fu).mpr (same_iff.mp q)
theorem add_way {H : Hp} {Q : VK} {x y : Addr} {h : Nat} {s1 s2 : List M.Step} (hx : WP.WayAt CW H (.mk h s1) x) (hy : WP.WayAt CW H (.mk h s2) y) (h1 : 1 ≤ s1.length) (h2 : s1.length + s2.length ≤ 100) (hf : M.Way.fine (.mk h (s1 ++ s2))) (k : ∀ c G, Same H G → WP.WayAt CW G (.mk h (s1 ++ s2)) c → Q (.ref c) G) : WO.rAddO CW (EB.spAddW CW) E0 (.ref x) (.ref y) H Q :=
  ⟨x, y, rfl, rfl, way_is hx, way_is hy, x, y, h, s1, s2, rfl, hx, hy, h1, h2, hf, fun c G s g => ⟨c, rfl, k c G s g⟩⟩
theorem fine_len {h : Nat} {s : List M.Step} (f : M.Way.fine (.mk h s)) : 1 ≤ s.length ∧ s.length ≤ 12 := by
  unfold M.Way.fine at f
  exact f.2.1
def tTun : TE := tMake CW (WP.spInit CW) [] E0 (tCons (tC (.int 7)) (tCons (tLst (tCons (tTup (tCons (tC (.str "tunnel")) (tCons (tVar 4) (tCons (tC (.int 3)) (tCons (tC (.str "turn")) tNil))))) (tCons (tTup (tCons (tC (.str "road")) (tCons (tC (.int 30)) (tCons (tC (.str "tell")) (tCons (tC (.str "cut")) tNil))))) tNil))) tNil))
theorem tun_elem {σ : L2.St} {G : Hp} {Q : VK} {u : M.Way} {y : Addr} (hσ : σ[4]? = some (some (.ref y))) (hw : WP.WayAt CW G u y) (hf : (inTun u).fine) (k : ∀ c G', Same G G' → WP.WayAt CW G' (inTun u) c → Q (.ref c) G') : tTun (CW := CW) σ G Q := by
  refine ⟨_, hσ, (by show 4 ≤ sizeLine; decide), fun t1 n1 => ⟨(by show 4 ≤ sizeLine; decide), fun t2 n2 => ⟨line2.1, fun l nl => ?_⟩⟩⟩
  have q1 := of_upd (o := .tup [.str "tunnel", .ref y, .int 3, .str "turn"]) n1
  have q2 := of_upd (o := .tup [.str "road", .int 30, .str "tell", .str "cut"]) n2
  have q3 := of_upd (o := .lst [.ref t1, .ref t2]) nl
  refine WP.made_way (h := 7) (.inl upd_same) ?_ hf fun x H' s2 wa => k x H' (((q1.trans q2).trans q3).trans s2) wa
  unfold WP.StepsAt
  refine ⟨_, _, rfl, ?_, ?_⟩
  · unfold WP.StepAt
    exact ⟨t1, y, rfl, q3 _ _ (q2 _ _ upd_same), hw.mono ((q1.trans q2).trans q3)⟩
  · unfold WP.StepsAt
    refine ⟨_, _, rfl, ?_, by unfold WP.StepsAt; rfl⟩
    unfold WP.StepAt
    exact ⟨t2, rfl, q3 _ _ upd_same⟩
def spPutR (CW : Addr) : Sp := fun vs H Q _ => ∃ (a b c : Addr) (h : Nat) (s r : List M.Step) (x : M.Step), vs = [.ref a, .ref b, .ref c] ∧ WP.WayAt CW H (.mk h s) a ∧ WP.WayAt CW H (.mk h r) b ∧ WP.WayAt CW H (.mk h [x]) c ∧ M.Way.fine (.mk h s) ∧ M.Way.fine (.mk h r) ∧ M.Step.fine h x ∧ M.Way.fine (.mk h (s ++ [x])) ∧ M.Way.fine (.mk h (r ++ [x])) ∧
  ((M.Way.mk h s).depth ≤ 2 ∧ (M.Way.mk h s).size ≤ 38) ∧ ((M.Way.mk h r).depth ≤ 2 ∧ (M.Way.mk h r).size ≤ 38) ∧ Same (.mk h s) (.mk h r) ∧ ∀ H', Same H H' → Q (.bl true) H'
abbrev NPr : List Str := ["one", "two", "third", "some", "way_in"]
theorem scPr : FnScope NPr ["one", "two", "third"] (defScope sLPutR) := ⟨rfl, rfl, rfl, by decide +kernel, rfl, by decide +kernel, by decide +kernel⟩
theorem ok_putr {k : Nat} {f : Addr} {fd : FuncData} (F : Fun K "_law_put_right" "_law_put_right" sLPutR f fd) (hk : 9 ≤ k) (T : WP.Wt K mg CW) (DA : DAl P w K mg base k (spAlike CW 3)) (DX : AwB P w K mg base CW) (MW : WP.Mw P w K mg base CW) : FnOk P w K mg base CX0 (k + 1) f fd ["one", "two", "third"] (spPutR CW) := by
  obtain ⟨fA, fdA, GA, gA, kA, kbA, bA⟩ := DA.ex
  obtain ⟨fX, fdX, GX, OX, sX, bX⟩ := DX.ex
  obtain ⟨fI, fdI, GI, MK, bI⟩ := MW.ex
  refine F.ok scPr (fun vs H Q E h => ?_) (fun cdv A outer s H vs Q E hr h => ?_)
  · obtain ⟨a, b, c, h, s, r, x, rfl, _⟩ := h
    rfl
  · obtain ⟨a, b, c, h, st, rt, x, rfl, h1, h2, h3, f1, f2, fx, fs1, fs2, ⟨d1, z1⟩, ⟨d2, z2⟩, q, kk⟩ := h
    refine ⟨_, pss_cons (ps_if (pt_not (pt_val (pe_call GA (hr.mono (by omega)) rfl gA kA bA vnon pass0 (pa_cons (pe_op (WO.op_addO GX (hr.mono (by omega)) OX sX bX pass0) (pv 0) (pv 2)) (pa_cons (pe_op (WO.op_addO GX (hr.mono (by omega)) OX sX bX pass0) (pv 1) (pv 2)) pa_nil))))) (pss_one (ps_ret (pe_bl))) (pss_nil))
      (pss_cons (ps_setLc (i := 3) (own := [("way_in", 4)]) (g := gName 4) (tt := tYes) (te := tMake CW (WP.spInit CW) [] E0 (tCons (tC (.int 7)) (tCons (tLst (tCons (tTup (tCons (tC (.str "tunnel")) (tCons (tVar 4) (tCons (tC (.int 3)) (tCons (tC (.str "turn")) tNil))))) (tCons (tTup (tCons (tC (.str "road")) (tCons (tC (.int 30)) (tCons (tC (.str "tell")) (tCons (tC (.str "cut")) tNil))))) tNil))) tNil))) rfl scPr.nd rfl rfl (sw_true rfl rfl rfl (by decide +kernel)) (pi_list (pe_lst (pa_cons (pv 0) (pa_cons (pv 1) pa_nil)))) (blkOk_by (N := NPr) (sc := defScope sLPutR) (by decide +kernel))
          (fun _ _ _ _ _ => by exact pg_name (i := 4) scPr.nd rfl (Or.inl rfl)) (fun _ _ _ _ _ => pts_nil) (fun _ _ _ _ _ => by exact pe_make MK GI (hr.mono (by omega)) rfl T.g bI .nil pass0 (pa_cons (pe_int) (pa_cons (pe_lst (pa_cons (pe_tup (pa_cons (pe_str) (pa_cons (pv 4) (pa_cons (pe_int) (pa_cons (pe_str) pa_nil))))) (pa_cons (pe_tup (pa_cons (pe_str) (pa_cons (pe_int) (pa_cons (pe_str) (pa_cons (pe_str) pa_nil))))) pa_nil))) pa_nil))))
      (pss_one (ps_ret (pe_call GA (hr.mono (by omega)) rfl gA kA bA vnon pass0 (pa_cons (pe_ix ix_list (pv 3) (pe_int) (fun _ _ => rfl)) (pa_cons (pe_ix ix_list (pv 3) (pe_int) (fun _ _ => rfl)) pa_nil)))))), ?_⟩
    have noL : ∀ z : Int, (none : Option Int) = some z → 0 ≤ z := fun z e => nomatch e
    have l1 := fine_len f1
    have l2 := fine_len f2
    refine ⟨_, rfl, _, rfl, ?_⟩
    refine add_way h1 h3 l1.1 (by show _ + 1 ≤ 100; omega) fs1 fun y1 H1 t1 g1 => ?_
    refine ⟨_, rfl, _, rfl, ?_⟩
    refine add_way (h2.mono t1) (h3.mono t1) l2.1 (by show _ + 1 ≤ 100; omega) fs2 fun y2 H2 t2 g2 => ?_
    refine ⟨y1, y2, _, _, none, rfl, g1.mono t2, g2, fs1, fs2, fine_dep fs1, fine_dep fs2, noL, fun H3 t3 => ⟨_, rfl, ?_⟩⟩
    rw [alike_same fs1 fs2 (same_plus f1 f2 fx q)]
    refine iteF ?_
    have s3 : Same H H3 := (t1.trans t2).trans t3
    unfold tNext
    dsimp only
    refine set_then (i := 3) ?_
    refine ⟨_, rfl, _, rfl, line2.1, fun LL nL => ?_⟩
    refine ⟨LL, rfl, ⟨_, SqL.of upd_same⟩, fun D nD => ?_⟩
    have s4 : Same H (upd H3 LL (.lst [.ref a, .ref b])) := s3.trans (of_upd nL)
    have eL : (upd H3 LL (.lst [.ref a, .ref b])) LL = some (.lst [.ref a, .ref b]) := upd_same
    generalize upd H3 LL (.lst [.ref a, .ref b]) = H4 at s4 eL nD ⊢
    have r1 := h1.mono s4
    have r2 := h2.mono s4
    refine lc_list (K := K) (a := LL) (xs := [.ref a, .ref b]) (fun i G => Same H4 G ∧ ∃ acc, G D = some (.lst acc) ∧ acc.length = i ∧ (1 ≤ i → ∃ c, acc[0]? = some (.ref c) ∧ WP.WayAt CW G (inTun (.mk h st)) c) ∧ (2 ≤ i → ∃ c, acc[1]? = some (.ref c) ∧ WP.WayAt CW G (inTun (.mk h rt)) c))
      ⟨of_upd nD, [], upd_same, rfl, fun z => absurd z (by decide), fun z => absurd z (by decide)⟩ (fun i G _ z => SqL.of (z.1 _ _ eL)) ?_ ?_
    · rintro i v G hi ⟨sG, acc, eD, la, k1, k2⟩
      have i1 : i < 2 := (List.getElem?_eq_some_iff.mp hi).1
      have lt : acc.length < sizeLine := Nat.lt_of_le_of_lt (by omega : acc.length ≤ 2) (by decide)
      match i, hi with
      | 0, hi =>
        cases hi
        refine ⟨rfl, ?_⟩
        unfold tYes
        refine iteT ?_
        refine tun_elem (CW := CW) (σ := [some (.ref a), some (.ref b), some (.ref c), none, some (.ref a)]) rfl (r1.mono sG) (fine_tun f1 d1 z1) fun c1 G' s' w1 => ?_
        refine ⟨acc, s' _ _ eD, lt, add_upd nD (sG.trans s'), _, upd_same, by rw [List.length_append, la]; rfl, fun _ => ⟨c1, ?_, w1.keep (put_keepT (s' _ _ eD))⟩, fun z => absurd z (by decide)⟩
        have : acc = [] := List.length_eq_zero_iff.mp la
        rw [this]
        rfl
      | 1, hi =>
        cases hi
        obtain ⟨c0, e0, w0⟩ := k1 (by decide)
        refine ⟨rfl, ?_⟩
        unfold tYes
        refine iteT ?_
        refine tun_elem (CW := CW) (σ := [some (.ref a), some (.ref b), some (.ref c), none, some (.ref b)]) rfl (r2.mono sG) (fine_tun f2 d2 z2) fun c1 G' s' w1 => ?_
        refine ⟨acc, s' _ _ eD, lt, add_upd nD (sG.trans s'), _, upd_same, by rw [List.length_append, la]; rfl, fun _ => ⟨c0, ?_, (w0.mono s').keep (put_keepT (s' _ _ eD))⟩, fun _ => ⟨c1, ?_, w1.keep (put_keepT (s' _ _ eD))⟩⟩
        · rw [List.getElem?_append_left (by omega)]
          exact e0
        · rw [List.getElem?_append_right (by omega), la]
          rfl
    · rintro G ⟨sG, acc, eD, la, k1, k2⟩
      obtain ⟨c1, i1, w1⟩ := k1 (by show 1 ≤ 2; decide)
      obtain ⟨c2, i2, w2⟩ := k2 (by show 2 ≤ 2; decide)
      have g1 := fine_tun f1 d1 z1
      have g2 := fine_tun f2 d2 z2
      try dsimp only
      refine ⟨_, rfl, D, _, _, _, rfl, rfl, SqL.of eD, atI_nat (j := 0) i1, _, rfl, D, _, _, _, rfl, rfl, SqL.of eD, atI_nat (j := 1) i2, ?_⟩
      refine ⟨c1, c2, _, _, none, rfl, w1, w2, g1, g2, fine_dep g1, fine_dep g2, noL, fun G' s' => ?_⟩
      rw [alike_same g1 g2 (same_inTun f1 f2 q)]
      exact kk _ ((s4.trans sG).trans s')
end
end CP

end
section
set_option autoImplicit false
set_option Elab.async false
set_option linter.all false
set_option maxRecDepth 100000
set_option maxHeartbeats 4000000
set_option pp.maxSteps 900
/-! ## the law -/
namespace CP
open PySem L2 G Y
abbrev sLaw : Stmt := S.top 85
section
variable {P : Program} {w : World} {K : PySem.W.Frag} {mg : Str → Option Value} {base : Heap} {C CW : Addr}
def spLaw (K : PySem.W.Frag) : Sp := fun vs H Q _ => ∃ (a : Addr) (ns : List Int), vs = [.ref a] ∧ SqL K H a (ns.map V.int) ∧ ns.length ≤ 63 ∧ (∀ z ∈ ns, Builtin.Int.intBits z ≤ 1048576) ∧ ∀ H', Q (.bl true) H'
abbrev NLa : List Str := ["script", "start", "stream", "plan", "one", "third", "made", "two", "turn", "thin", "reasons"]
theorem scLa : FnScope NLa ["script"] (defScope sLaw) := ⟨rfl, rfl, rfl, by decide +kernel, rfl, by decide +kernel, by decide +kernel⟩
theorem few_size {h n z : Nat} {s : List M.Step} (f : M.Few h n z s) : (M.Way.mk h s).size ≤ n + z := by
  unfold M.Way.size
  have := f.ln
  have := f.sz
  omega
theorem bl_same' (x : V) : (!decide (x = x)) = false := by rw [decide_eq_true rfl]; rfl
theorem few_plus {h n z : Nat} {s : List M.Step} {y : M.Step} (f : M.Few h n z s) (fy : M.Step.fine h y) (dy : M.Step.dep y ≤ 0) (zy : M.isz y ≤ 0) : M.Few h (n + 1) z (s ++ [y]) := by
  refine ⟨by rw [List.length_append]; have := f.l1; omega, by rw [List.length_append]; have := f.ln; show _ + 1 ≤ _; omega, fun x hx => ?_, fun x hx => ?_, ?_⟩
  · rcases List.mem_append.mp hx with q | q
    · exact f.fine x q
    · rw [List.mem_singleton.mp q]
      exact fy
  · rcases List.mem_append.mp hx with q | q
    · exact f.dp x q
    · rw [List.mem_singleton.mp q]
      omega
  · rw [M.inner_ap, M.inner_cons]
    have : M.Step.inner ([] : List M.Step) = 0 := rfl
    have := f.sz
    omega
theorem ok_law {k : Nat} {f : Addr} {fd : FuncData} (F : Fun K "law" "law" sLaw f fd) (B : Bn mg) (hk : 20 ≤ k) (DU : Df P w K mg base 1 "_law_stream" ["script", "start"] (S.spSource K)) (DP : Df P w K mg base 10 "_law_plan" ["stream", "depth", "base"] (spLPlan 3)) (DY : Df P w K mg base 11 "_law_way" ["plan"] (spLWay CW 3)) (DS : Df P w K mg base 9 "_law_plan_step" ["stream", "depth", "base", "head"] (spLStep 2))
    (DM : Df P w K mg base 2 "_law_made" ["stream", "plan"] (spMade K)) (DT : Df P w K mg base k "_law_two_right" ["one", "two"] (spTwoR CW)) (DR : Df P w K mg base k "_law_put_right" ["one", "two", "third"] (spPutR CW)) (DB : Df P w K mg base 10 "_law_bent_plan" ["stream", "plan"] spBent) (DN : Df P w K mg base k "lean" ["way"] (spLean CW 3)) (DA : DAl P w K mg base k (spAlike CW 3)) (DL : Ow P w K mg base CW) : FnOk P w K mg base CX0 (k + 1) f fd ["script"] (spLaw K) := by
  obtain ⟨fU, fdU, GU, gU, kU, bU⟩ := DU.ex
  obtain ⟨fP, fdP, GP, gP, kP, bP⟩ := DP.ex
  obtain ⟨fY, fdY, GY, gY, kY, bY⟩ := DY.ex
  obtain ⟨fS, fdS, GS, gS, kS, bS⟩ := DS.ex
  obtain ⟨fM, fdM, GM, gM, kM, bM⟩ := DM.ex
  obtain ⟨fT, fdT, GT, gT, kT, bT⟩ := DT.ex
  obtain ⟨fR, fdR, GR, gR, kR, bR⟩ := DR.ex
  obtain ⟨fB, fdB, GB, gB, kB, bB⟩ := DB.ex
  obtain ⟨fN, fdN, GN, gN, kN, bN⟩ := DN.ex
  obtain ⟨fA, fdA, GA, gA, kA, kbA, bA⟩ := DA.ex
  obtain ⟨fL, fdL, GL, OL, bL⟩ := DL.ex
  refine F.ok scLa (fun vs H Q E h => ?_) (fun cdv A outer s H vs Q E hr h => ?_)
  · obtain ⟨a, ns, rfl, _⟩ := h
    rfl
  · obtain ⟨a, ns, rfl, hS, hl, hb, kk⟩ := h
    refine ⟨_, pss_cons (ps_for PassesOwn.never rfl (pi_range1 (by rfl) B.range (pa_cons (pe_callB (call_max2 rfl) (by rfl) B.max (by decide +kernel) (pa_cons (pe_int) (pa_cons (pe_callB (call_min2 rfl) (by rfl) B.min (by decide +kernel) (pa_cons (pe_int) (pa_cons (pe_callB call_len_seq (by rfl) B.len PySem.boot_len (pa_cons (pv 0) pa_nil)) pa_nil))) pa_nil))) pa_nil)) (pg_name (i := 1) scLa.nd rfl (Or.inl rfl)) (pss_cons (ps_set (i := 2) scLa.nd rfl (Or.inl rfl) (pe_call GU (hr.mono (by omega)) rfl gU kU bU .nil pass0 (pa_cons (pv 0) (pa_cons (pv 1) pa_nil))))
      (pss_cons (ps_set (i := 3) scLa.nd rfl (Or.inl rfl) (pe_call GP (hr.mono (by omega)) rfl gP kP bP .nil pass0 (pa_cons (pv 2) (pa_cons (pe_int) (pa_cons (pe_int) pa_nil)))))
      (pss_cons (ps_set (i := 4) scLa.nd rfl (Or.inl rfl) (pe_call GY (hr.mono (by omega)) rfl gY kY bY .nil pass0 (pa_cons (pv 3) pa_nil)))
      (pss_cons (ps_set (i := 5) scLa.nd rfl (Or.inl rfl) (pe_call GY (hr.mono (by omega)) rfl gY kY bY .nil pass0 (pa_cons (pe_tup (pa_cons (pe_ix ix_tup (pv 3) (pe_int) (fun _ _ => rfl)) (pa_cons (pe_tup (pa_cons (pe_call GS (hr.mono (by omega)) rfl gS kS bS .nil pass0 (pa_cons (pv 2) (pa_cons (pe_int) (pa_cons (pe_int) (pa_cons (pe_ix ix_tup (pv 3) (pe_int) (fun _ _ => rfl)) pa_nil))))) pa_nil)) pa_nil))) pa_nil)))
      (pss_cons (ps_for PassesOwn.never rfl (pi_list (pe_call GM (hr.mono (by omega)) rfl gM kM bM .nil pass0 (pa_cons (pv 2) (pa_cons (pv 3) pa_nil)))) (pg_name (i := 6) scLa.nd rfl (Or.inl rfl)) (pss_cons (ps_set (i := 7) scLa.nd rfl (Or.inl rfl) (pe_call GY (hr.mono (by omega)) rfl gY kY bY .nil pass0 (pa_cons (pv 6) pa_nil)))
      (pss_one (ps_if (PW.pt (pw_or (pt_not (pt_val (pe_call GA (hr.mono (by omega)) rfl gA kA bA vnon pass0 (pa_cons (pv 4) (pa_cons (pv 7) pa_nil))))) (pw_or (pt_not (pt_val (pe_call GT (hr.mono (by omega)) rfl gT kT bT .nil pass0 (pa_cons (pv 4) (pa_cons (pv 7) pa_nil))))) (pw_or1 (pt_not (pt_val (pe_call GR (hr.mono (by omega)) rfl gR kR bR .nil pass0 (pa_cons (pv 4) (pa_cons (pv 7) (pa_cons (pv 5) pa_nil)))))))))) (pss_one (ps_ret (pe_bl))) (pss_nil)))))
      (pss_cons (ps_for PassesOwn.never rfl (pi_range1 (by rfl) B.range (pa_cons (pe_int) pa_nil)) (pg_name (i := 8) scLa.nd rfl (Or.inl rfl)) (pss_cons (ps_set (i := 7) scLa.nd rfl (Or.inl rfl) (pe_call GY (hr.mono (by omega)) rfl gY kY bY .nil pass0 (pa_cons (pe_call GB (hr.mono (by omega)) rfl gB kB bB .nil pass0 (pa_cons (pv 2) (pa_cons (pv 3) pa_nil))) pa_nil)))
      (pss_one (ps_if (PW.pt (pw_or (pt_not (pt_val (pe_call GT (hr.mono (by omega)) rfl gT kT bT .nil pass0 (pa_cons (pv 4) (pa_cons (pv 7) pa_nil))))) (pw_or1 (PW.pt (pw_and (pt_val (pe_call GA (hr.mono (by omega)) rfl gA kA bA vnon pass0 (pa_cons (pv 4) (pa_cons (pv 7) pa_nil)))) (pw_and1 (pt_not (pt_val (pe_call GR (hr.mono (by omega)) rfl gR kR bR .nil pass0 (pa_cons (pv 4) (pa_cons (pv 7) (pa_cons (pv 5) pa_nil)))))))))))) (pss_one (ps_ret (pe_bl))) (pss_nil)))))
      (pss_cons (ps_asg (pe_call GN (hr.mono (by omega)) rfl gN kN bN .nil pass0 (pa_cons (pv 4) pa_nil)) (pg_tup (by rfl) (pgs_cons (pg_name (i := 9) scLa.nd rfl (Or.inl rfl)) (pgs_cons (pg_name (i := 10) scLa.nd rfl (Or.inl rfl)) pgs_nil))))
      (pss_one (ps_if (PW.pt (pw_or (pt_not (pt_val (pe_call GA (hr.mono (by omega)) rfl gA kA bA vnon pass0 (pa_cons (pv 4) (pa_cons (pv 9) pa_nil))))) (pw_or1 (PW.pt (pw_and (pt_cmpR (op_ne) (pe_callB call_len_seq (by rfl) B.len PySem.boot_len (pa_cons (pv 10) pa_nil)) (pe_callB (WO.call_lenO GL (hr.mono (by omega)) OL bL pass0) (by rfl) B.len PySem.boot_len (pa_cons (pv 9) pa_nil)) (nomark _)) (pw_and1 (PW.pt (pw_or (pt_cmpR (op_gt) (pe_callB (WO.call_lenO GL (hr.mono (by omega)) OL bL pass0) (by rfl) B.len PySem.boot_len (pa_cons (pv 9) pa_nil)) (pe_int) (nomark _)) (pw_or1 (pt_cmpR (op_neD hr.units) (pv 10) (pe_lst pa_nil) (nomark _))))))))))) (pss_one (ps_ret (pe_bl))) (pss_nil)))))))))))
      (pss_one (ps_ret (pe_bl))), ?_⟩
    have noL : ∀ z : Int, (none : Option Int) = some z → 0 ≤ z := fun z e => nomatch e
    refine ⟨_, rfl, a, _, rfl, .inl hS, _, _, rfl, _, _, rfl, _, rfl, by split <;> omega, by split <;> (try split) <;> omega, for_range (n := Int.toNat _) (fun i σ G => Same H G ∧ ∃ q1 q2 q3 q4 q5 q6 q7 q8 q9 q10, σ = [some (.ref a), q1, q2, q3, q4, q5, q6, q7, q8, q9, q10])
      ⟨Same.refl H, _, _, _, _, _, _, _, _, _, _, rfl⟩ ?_ ?_⟩
    · rintro i σ G hi ⟨s0, q1, q2, q3, q4, q5, q6, q7, q8, q9, q10, rfl⟩
      dsimp only
      refine set_then (i := 2) ⟨_, rfl, _, rfl, a, ns, i, by show [V.ref a, V.int (0 + (i : Int))] = _; rw [Int.zero_add], ?_, s0.seq hS, hl, hb, fun p r m hp hf => ?_⟩
      · split at hi <;> (try split at hi) <;> omega
      have hp0 : H p = none := s0.free hp
      have s1 : Same H (upd G p (.lst (S.Two r m))) := s0.trans (of_upd hp)
      have at1 : S.At (upd G p (.lst (S.Two r m))) p := ⟨r, m, upd_same, hf⟩
      generalize upd G p (.lst (S.Two r m)) = G1 at s1 at1 ⊢
      clear hp hf
      dsimp only
      refine set_then (i := 3) ⟨_, rfl, p, 1, 0, rfl, at1, by decide, by decide, by decide, fun wy v G3 b3 pl sm => ?_⟩
      have s3 := sameBt s1 hp0 b3
      have a3 := b3.2
      clear b3 at1 s1
      dsimp only
      obtain ⟨h, st1⟩ := wy
      obtain ⟨few1, hh1, hh2⟩ := M.few_of sm
      have few1 : M.Few h 3 9 st1 := few1
      have hh1 : 1 ≤ h := hh1
      have hh2 : h ≤ 40 := hh2
      obtain ⟨hf1, hd1⟩ := few1.way hh1 hh2 (by decide) (by decide)
      refine set_then (i := 4) ⟨_, rfl, v, .mk h st1, rfl, pl, hf1, by omega, fun x1 G4 s4 w4 => ?_⟩
      have z0 : ∀ {y0 : V} {ys : List V}, atI (y0 :: ys) (0 : Int) = some y0 := fun {y0 ys} => by exact atI_nat (xs := y0 :: ys) (j := 0) rfl
      have pl4 := pl.keep (same_keepT s4)
      have a4 := sameAt s4 a3
      have hp4 := pl4
      unfold PlanAt at hp4
      obtain ⟨t, L, xs, rfl, ht, hL, hA⟩ := hp4
      dsimp only
      refine set_then (i := 5) ?_
      refine ⟨_, rfl, t, _, _, _, rfl, rfl, SqT.of ht, z0, ?_⟩
      refine ⟨_, rfl, _, rfl, t, _, _, _, rfl, rfl, SqT.of ht, z0, p, 0, 0, h, rfl, a4, by decide, by decide, by decide, hh1, hh2, fun y v5 G5 b5 pl5 sm5 => ?_⟩
      refine ⟨line2.2.2.1, fun u1 n1 => ⟨line2.1, fun u2 n2 => ?_⟩⟩
      have k5 := bt_keepT b5 a4
      have q1 := of_upd (o := .tup [v5]) n1
      have q2 := of_upd (o := .tup [V.int (h : Int), .ref u1]) n2
      have fy : M.Step.fine h y := sm5.1
      have dy : M.Step.dep y ≤ 0 := sm5.2.1
      have zy : M.isz y ≤ 0 := sm5.2.2
      have f3 : M.Way.fine (.mk h [y]) ∧ (M.Way.mk h [y]).depth ≤ 2 := by
        have : M.Few h 1 0 [y] := ⟨Nat.le_refl 1, Nat.le_refl 1, fun z hz => by rw [List.mem_singleton.mp hz]; exact fy, fun z hz => by rw [List.mem_singleton.mp hz]; omega, by rw [M.inner_cons]; show M.isz y + 0 ≤ 0; omega⟩
        exact this.way hh1 hh2 (by decide) (by decide)
      refine ⟨.ref u2, .mk h [y], rfl, ?_, f3.1, by have := f3.2; omega, fun x3 G6 s6 w3 => ?_⟩
      · unfold PlanAt
        exact ⟨u2, u1, _, rfl, upd_same, q2 _ _ upd_same, PlAll.one (pl5.keep (same_keepT (q1.trans q2)))⟩
      have q6 := (q1.trans q2).trans s6
      have kp6 : KeepT G4 G6 := fun b o n e => q6 _ _ (k5 b o n e)
      have pl6 := pl4.keep kp6
      have w1 := w4.keep kp6
      have a6 := sameAt q6 b5.2
      have s6' : Same H G6 := ((sameBt (s3.trans s4) hp0 b5).trans q6)
      clear q1 q2 q6 kp6 k5 pl5 sm5 n1 n2 s6 b5 hA hL ht pl4 a4 w4 s4 pl a3 s3
      dsimp only
      have l1 := few1.l1
      -- the ways with idle steps
      refine ⟨_, rfl, _, rfl, p, .ref t, h, st1, rfl, a6, pl6, few1, hh1, hh2, fun D ys G7 b7 nD eD lD aD => ?_⟩
      have kp7 := bt_keepT b7 a6
      have s7 := sameBt s6' hp0 b7
      have w1 := w1.keep kp7
      have w3 := w3.keep kp7
      have pl7 := pl6.keep kp7
      have a7 := b7.2
      refine ⟨D, rfl, ⟨_, SqL.of eD⟩, for_list (K := K) (a := D) (xs := ys) (fun _ σ G => Same G7 G ∧ ∃ q6 q7 q8 q9 q10, σ = [some (.ref a), some (.int (0 + (i : Int))), some (.ref p), some (.ref t), some (.ref x1), some (.ref x3), q6, q7, q8, q9, q10])
        ⟨Same.refl _, _, _, _, _, _, rfl⟩ (fun _ σ G _ z => SqL.of (z.1 _ _ eD)) ?_ ?_⟩
      · rintro i2 v σ G hv ⟨sG, q6, q7, q8, q9, q10, rfl⟩
        obtain ⟨r, plr, fr, sr⟩ := aD v (List.mem_of_getElem? hv)
        obtain ⟨hf2, hd2⟩ := fr.way hh1 hh2 (by decide) (by decide)
        have plus1 := (few_plus few1 fy dy zy).way hh1 hh2 (by decide) (by decide)
        have plus2 := (few_plus fr fy dy zy).way hh1 hh2 (by decide) (by decide)
        dsimp only
        refine set_then (i := 7) ⟨_, rfl, v, .mk h r, rfl, plr.keep (same_keepT sG), hf2, by omega, fun x2 G8 s8 w2 => ?_⟩
        have v1 := w1.mono (sG.trans s8)
        have v3 := w3.mono (sG.trans s8)
        dsimp only
        refine ⟨_, rfl, _, rfl, x1, x2, _, _, none, rfl, v1, w2, hf1, hf2, by omega, by omega, noL, fun G9 s9 => ⟨_, rfl, ?_⟩⟩
        rw [alike_same hf1 hf2 sr]
        refine iteF ⟨_, rfl, _, rfl, x1, x2, _, _, rfl, v1.mono s9, w2.mono s9, hf1, hf2, fun G10 s10 => ⟨_, rfl, iteF ?_⟩⟩
        refine ⟨_, rfl, _, rfl, _, rfl, x1, x2, x3, h, st1, r, y, rfl, (v1.mono s9).mono s10, (w2.mono s9).mono s10, (v3.mono s9).mono s10, hf1, hf2, fy, plus1.1, plus2.1, ⟨by omega, by have := few_size few1; omega⟩, ⟨by omega, by have := few_size fr; omega⟩, sr, fun G11 s11 => ⟨_, rfl, iteF ?_⟩⟩
        exact ⟨(((sG.trans s8).trans s9).trans s10).trans s11, _, _, _, _, _, rfl⟩
      rintro σ G ⟨sG, q6, q7, q8, q9, q10, rfl⟩
      have w1 := w1.mono sG
      have w3 := w3.mono sG
      have pl8 := pl7.keep (same_keepT sG)
      have a8 := sameAt sG a7
      have s8 := s7.trans sG
      clear sG aD lD eD nD b7 kp7 s7 pl7 a7 s6' pl6 a6
      dsimp only
      -- ways a little changed
      refine ⟨2, rfl, by decide, by decide, for_range (n := 2) (fun i2 σ G => (Same H G ∧ S.At G p ∧ PlanAt G (.mk h st1) (.ref t) ∧ WP.WayAt CW G (.mk h st1) x1 ∧ WP.WayAt CW G (.mk h [y]) x3) ∧ ∃ q6 q7 q8 q9 q10, σ = [some (.ref a), some (.int (0 + (i : Int))), some (.ref p), some (.ref t), some (.ref x1), some (.ref x3), q6, q7, q8, q9, q10])
        ⟨⟨s8, a8, pl8, w1, w3⟩, _, _, _, _, _, rfl⟩ ?_ ?_⟩
      · rintro i2 σ G hi2 ⟨⟨sG, aG, plG, v1, v3⟩, q6, q7, q8, q9, q10, rfl⟩
        dsimp only
        refine set_then (i := 7) ⟨_, rfl, _, rfl, p, .ref t, .mk h st1, rfl, aG, plG, sm, fun r v2 G9 b9 pl9 fr => ?_⟩
        have fr : M.Few h 4 18 r := fr
        obtain ⟨hf2, hd2⟩ := fr.way hh1 hh2 (by decide) (by decide)
        have plus1 := (few_plus few1 fy dy zy).way hh1 hh2 (by decide) (by decide)
        have plus2 := (few_plus fr fy dy zy).way hh1 hh2 (by decide) (by decide)
        refine ⟨v2, .mk h r, rfl, pl9, hf2, by omega, fun x2 G10 s10 w2 => ?_⟩
        have kp : KeepT G G10 := fun b o n e => s10 _ _ (bt_keepT b9 aG b o n e)
        have v1 := v1.keep kp
        have v3 := v3.keep kp
        have plG := plG.keep kp
        have sG := (sameBt sG hp0 b9).trans s10
        have aG := sameAt s10 b9.2
        clear kp pl9 b9 s10
        dsimp only
        have fin : ∀ {G'}, Same G10 G' → (Same H G' ∧ S.At G' p ∧ PlanAt G' (.mk h st1) (.ref t) ∧ WP.WayAt CW G' (.mk h st1) x1 ∧ WP.WayAt CW G' (.mk h [y]) x3) := fun s => ⟨sG.trans s, sameAt s aG, plG.keep (same_keepT s), v1.mono s, v3.mono s⟩
        refine ⟨_, rfl, _, rfl, x1, x2, _, _, rfl, v1, w2, hf1, hf2, fun G11 s11 => ⟨_, rfl, iteF ?_⟩⟩
        refine ⟨_, rfl, _, rfl, x1, x2, _, _, none, rfl, v1.mono s11, w2.mono s11, hf1, hf2, by omega, by omega, noL, fun G12 s12 => ⟨_, rfl, ?_⟩⟩
        cases e : alikeW none (.mk h st1) (.mk h r) with
        | false => exact iteF (iteF ⟨fin (s11.trans s12), _, _, _, _, _, rfl⟩)
        | true =>
          have sr := M.same_iff.mpr ((alike_iff noL hf1 hf2).mp e)
          refine iteT ?_
          refine ⟨_, rfl, _, rfl, _, rfl, x1, x2, x3, h, st1, r, y, rfl, (v1.mono s11).mono s12, (w2.mono s11).mono s12, (v3.mono s11).mono s12, hf1, hf2, fy, plus1.1, plus2.1, ⟨by omega, by have := few_size few1; omega⟩, ⟨by omega, by have := few_size fr; omega⟩, sr, fun G13 s13 => ⟨_, rfl, iteF ?_⟩⟩
          exact ⟨fin ((s11.trans s12).trans s13), _, _, _, _, _, rfl⟩
      rintro σ G9 ⟨⟨s9, a9, pl9, w1, w3⟩, q6, q7, q8, q9, q10, rfl⟩
      dsimp only
      obtain ⟨lsame, llen, lfine⟩ := lean_same hf1
      refine ⟨_, rfl, x1, .mk h st1, rfl, w1, hf1, by omega, fun tt D2 G10 s10 nD2 lt => ?_⟩
      obtain ⟨x, ys2, e1, wx, eD2, rs, ⟨lb, rb⟩, dx⟩ := lt
      have ly := rs.len
      rw [List.length_reverse] at ly
      have w1 := w1.mono s10
      have s10 := s9.trans s10
      have nx : (M.leanW (.mk h st1)).1.length ≤ 12 := (fine_len lfine).2
      have n1 : 1 ≤ (M.leanW (.mk h st1)).1.length := (fine_len lfine).1
      have gx := dx
      have alk : alikeW none (.mk h st1) (.mk h (M.leanW (.mk h st1)).1) = true := (alike_iff noL hf1 lfine).mpr lsame
      have dt := fine_dep lfine
      generalize M.leanW (.mk h st1) = lw at *
      obtain ⟨thin, reasons⟩ := lw
      refine ⟨tt, _, rfl, SqT.of e1, rfl, _, _, rfl, _, _, rfl, rfl, ?_⟩
      dsimp only
      refine ⟨_, rfl, _, rfl, x1, x, _, _, none, rfl, w1, wx, hf1, lfine, by omega, dt, noL, fun G11 s11 => ⟨_, rfl, ?_⟩⟩
      have alk : alikeW none (.mk h st1) (.mk (M.Way.mk h st1).head thin) = true := alk
      rw [alk]
      refine iteF ?_
      have wx := wx.mono s11
      have eD2 := s11 _ _ eD2
      have done : Same H G11 := s10.trans s11
      obtain ⟨da, fa, i1, _⟩ := WP.head_fld wx
      refine ⟨_, rfl, D2, ys2, rfl, .inl (SqL.of eD2), _, rfl, x, rfl, ⟨_, _, i1⟩, x, _, rfl, wx, thin.length, rfl, by show thin.length < 1000000; have : thin.length ≤ 12 := nx; omega, rfl, _, rfl, ?_⟩
      by_cases eq : ys2.length = thin.length
      · refine iteB ?_ ⟨done, _, _, _, _, _, _, _, _, _, _, rfl⟩
        rw [eq]
        exact bl_same' _
      · have hl1 : thin.length = 1 ∧ reasons = [] := llen.resolve_left fun z => eq (by show ys2.length = _; rw [ly]; exact z)
        obtain ⟨h1, h2⟩ := hl1
        subst h2
        have hy : ys2 = [] := List.length_eq_zero_iff.mp ly
        subst hy
        refine iteA ?_ ?_
        · rw [decide_eq_false fun z => eq (by injection z with z; exact Int.ofNat.inj z)]
          rfl
        refine ⟨_, rfl, x, rfl, ⟨_, _, i1⟩, x, _, rfl, wx, thin.length, rfl, by show thin.length < 1000000; omega, _, _, rfl, rfl, _, rfl, iteB ?_ ?_⟩
        · rw [h1]
          decide
        refine ⟨_, rfl, line2.2.2.2, fun l nl => ⟨.list [], .list [], .lst (SqL.of (of_upd nl _ _ eD2)) .nil, .lst (SqL.of upd_same) .nil, by decide +kernel, by decide +kernel, _, rfl, iteB (by decide +kernel) ?_⟩⟩
        exact ⟨done.trans (of_upd nl), _, _, _, _, _, _, _, _, _, _, rfl⟩
    · rintro σ G ⟨s0, q1, q2, q3, q4, q5, q6, q7, q8, q9, q10, rfl⟩
      exact kk _
end
end CP

end
section
set_option autoImplicit false
set_option Elab.async false
set_option linter.all false
set_option maxRecDepth 100000
set_option maxHeartbeats 4000000
/-! ## HN: the head by one run of the kernel; what is asked of the state behind the top: named facts, defs, and looks of one's own -/
namespace HN
open PySem PySem.Spec PyProof.Rows L2
/-- addresses as numbers, one after another -/
def frc {α : Type} : List Addr → (List Addr → α) → α
  | [], k => k []
  | a :: r, k => HandSHeadRun.frNat a fun a => frc r fun r => k (a :: r)
def refV : Value → List Addr
  | .ref a => [a]
  | _ => []
def refsF (fd : FuncData) : List Addr := refV fd.code ++ refV fd.defaults ++ refV fd.kwdefaults
def vals (g : Addr → Option Obj) (a : Addr) : List Addr := match g a with
  | some ⟨_, _, .dict es _, _⟩ => es.toList.flatMap fun e => refV e.val
  | _ => []
def isC (g : Addr → Option Obj) (a : Addr) : Bool := match g a with
  | some ⟨_, _, .cls _, _⟩ => true
  | _ => false
def nsOf (g : Addr → Option Obj) (a : Addr) : List Addr := match g a with
  | some ⟨_, _, .cls cd, _⟩ => [a, cd.ns]
  | _ => []
def fnOf (g : Addr → Option Obj) (a : Addr) : List Addr := match g a with
  | some ⟨_, _, .func fd, _⟩ => a :: refsF fd
  | some ⟨_, _, .cls _, _⟩ => []
  | _ => [a]
def asY {α : Type} (g : Addr → Option Obj) (k : List Addr → α) : α := frc (vals g mainGlobals) fun l1 => frc (l1.flatMap (nsOf g)) fun cs => frc (cs.flatMap (vals g)) fun ms => frc ((ms ++ l1).flatMap (fnOf g)) fun fs => k (mainGlobals :: (cs ++ fs))
theorem frc_eq {α : Type} : ∀ (l : List Addr) (k : List Addr → α), frc l k = k l
  | [], k => rfl
  | a :: r, k => by
    show HandSHeadRun.frNat a (fun a => frc r fun r => k (a :: r)) = _
    rw [HandSHeadRun.frNat_eq, frc_eq r]
/-- the objects that are looked at: the module's names, classes with their names, defs with their code -/
def asL (g : Addr → Option Obj) : List Addr := mainGlobals :: (((vals g mainGlobals).flatMap (nsOf g)) ++ ((((vals g mainGlobals).flatMap (nsOf g)).flatMap (vals g)) ++ vals g mainGlobals).flatMap (fnOf g))
theorem asY_eq {α : Type} (g : Addr → Option Obj) (k : List Addr → α) : asY g k = k (asL g) := by
  unfold asY asL
  rw [frc_eq, frc_eq, frc_eq, frc_eq]
abbrev Ex : Type := PySem.W.Frag → Bool
abbrev AlX : Type := He.AlD × Bool
def obsX (fa : List He.Fa) (fn : List He.DefD) (ex : List Ex) (K : PySem.W.Frag) : AlX := (He.obsD fa fn K, ex.all fun f => f K)
def valX (fn : List He.DefD) : AlX := (He.valD fn, true)
def Says (fa : List He.Fa) (fn : List He.DefD) (ex : List Ex) (K : PySem.W.Frag) : Prop := obsX fa fn ex K = valX fn
def obsG (fa : List He.Fa) (fn : List He.DefD) (ex : List Ex) (g : Addr → Option Obj) : AlX := asY g fun l => obsX fa fn ex (He.frG g l)
def hookX (fa : List He.Fa) (fn : List He.DefD) (ex : List Ex) : PySem.W.Hook where
  α := AlX
  obs := fun s => obsG fa fn ex s.heap.get?
  val := fun _ => valX fn
  says := fun _ h => ∃ K : PySem.W.Frag, K.In h ∧ Says fa fn ex K
  of := fun _ s e => ⟨He.frG s.heap.get? (asL s.heap.get?), He.frG_in, by
    unfold obsG at e
    rw [asY_eq] at e
    exact e⟩
  keeps := fun _ _ _ ⟨K, hK, c⟩ k => ⟨K, PySem.W.Frag.In.keeps hK k, c⟩
theorem obsG_eq {fa : List He.Fa} {fn : List He.DefD} {ex : List Ex} {g : Addr → Option Obj} {s : Shared} (h : ∀ a, g a = s.heap.get? a) : obsG fa fn ex g = (hookX fa fn ex).obs s := by
  have e : g = s.heap.get? := funext h
  rw [e] <;> rfl
section
variable {fa : List He.Fa} {fn : List He.DefD} {ex : List Ex} {K : PySem.W.Frag}
theorem Says.sd (c : Says fa fn ex K) : He.SaysD fa fn K := congrArg (fun z : AlX => z.1) c
theorem Says.fact (c : Says fa fn ex K) (i : Nat) (f : He.Fa) (h : fa[i]? = some f) : f.ok K = true := c.sd.fact i h
theorem Says.def_ (c : Says fa fn ex K) (i : Nat) (d : He.DefD) (h : fn[i]? = some d) : ∃ fd, FunD K d.name d.qual d.params d.body d.scope (d.dvs K) (d.kws K) (He.fAd K d.at_) fd := c.sd.def_ i h
theorem Says.look (c : Says fa fn ex K) (i : Nat) (f : Ex) (h : ex[i]? = some f) : f K = true := List.all_eq_true.mp (congrArg (fun z : AlX => z.2) c) f (List.mem_of_getElem? h)
theorem Says.prop (c : Says fa fn ex K) (i : Nat) {p : PySem.W.Frag → Prop} [∀ K, Decidable (p K)] (h : ex[i]? = some fun K => decide (p K)) : p K := of_decide_eq_true (c.look i _ h)
end
/-- a def of no default by place -/
theorem funOf {K : PySem.W.Frag} {x qual : Str} {st : Stmt} {kws : List (Str × V)} {f : Addr} {fd : FuncData} (F : FunD K x qual (defArgs st) (defBody st) (defScope st) [] kws f fd) : Fun K x qual st f fd := by
  obtain ⟨oc, od, dV, kV, doc, pm, an, cdv, ct, osl, e, lk, cd, hD, hK⟩ := F.ex
  rcases hD with ⟨_, rfl⟩ | ⟨ne, _⟩
  · exact ⟨⟨oc, od, kV, doc, pm, an, cdv, ct, osl, e, lk, cd⟩, F.kp⟩
  · exact absurd rfl ne
end HN
namespace G
open PySem PySem.Spec PyProof.Rows L2
/-- G.walk, the written part told by the state behind the top -/
theorem walkE {l : PySem.W.OpenLaw} {n k : Nat} {q : Program} {loose : List Str} {XP : (Str → Option Value) → Heap → Prop} {YP : World → Heap → Prop} {d : DefRec} {x : Str}
    (hn : l.most = some n) (hn2 : n ≤ sizeLine) (hdf : d.params.defaults = []) (hr : Room k callerA)
    (F : ∀ (w : World) (mg : Str → Option Value) (fa : Addr) (h : Heap), YP w h → h.Ns mainGlobals mg → mg d.name = some (.ref fa) →
      ∃ (K : PySem.W.Frag) (fd : FuncData) (sp : Sp), K.In h ∧ (∀ (s : Shared) (u : Value), BindsTo s fd ⟨[u], []⟩ [(x, u)]) ∧
        (∀ (H : Hp) (a : Addr) (ns : List Int), ns.length ≤ n → (∀ z ∈ ns, Builtin.Int.intBits z ≤ 1048576) → SqL K H a (ns.map V.int) → sp [.ref a] H (fun v _ => v = .bl true) fun _ _ _ => False) ∧
        ∀ base : Heap, K.In base → base.Ns mainGlobals mg → Ok l.prog w K mg base CX0 k fa fd [x] sp) :
    PySem.W.WalkO q loose XP YP l.row.toRowW d [] (fun f vs => PySem.call f vs) := by
  refine Att.attach_callB hn hdf ?_
  intro w s₀ s₁ mg mb fa o pm cd doc a vs ns G Y ho hd hcd hmg hobj hints hlen hbits hg
  obtain ⟨K, fd, sp, KX, hb, hsp, hF⟩ := F w mg fa _ Y G.T.g hmg
  have rv := vals_ints hints
  have zl : ns.length ≤ sizeLine := Nat.le_trans hlen hn2
  have wish := fun (H : Hp) (S : SqL K H a (ns.map V.int)) => hsp H a ns hlen hbits S
  by_cases hk : K.lookup a = none
  · refine enter (H := fun b => if b = a then some (.frz { cls := .type "list", data := .seq vs.toArray } (.lst (ns.map V.int))) else none) KX G.T.g G.T.b G.T.builtins G.T.nolimit hg hobj hr hF hb ?_ ?_ ?_ (fun _ => hk) (wish _ ?_) fun _ _ _ z => z
    · intro b
      by_cases e : b = a
      · exact .inr ⟨_, _, if_pos e⟩
      · exact .inl (if_neg e)
    · intro b o e
      by_cases z : b = a
      · subst z
        cases (if_pos rfl).symm.trans e
        exact ⟨hobj, by rw [List.length_map]; exact zl, vs, _, rv, hobj⟩
      · cases (if_neg z).symm.trans e
    · intro b o e
      by_cases z : b = a
      · exact z
      · cases (if_neg z).symm.trans e
    · exact .inl (.inr ⟨_, if_pos rfl⟩)
  · obtain ⟨o, ek⟩ := Option.ne_none_iff_exists'.mp hk
    have eo := (KX a o ek).symm.trans hobj
    cases eo
    refine enter (H := fun _ => none) KX G.T.g G.T.b G.T.builtins G.T.nolimit hg hobj hr hF hb (fun _ => .inl rfl) (fun b o e => nomatch e) (fun b o e => nomatch e) (fun ⟨o, e⟩ => nomatch e) (wish _ ?_) fun _ _ _ z => z
    refine .inr ⟨_, vs.toArray, _, ek, rfl, rfl, rfl, ?_, by simpa using rv⟩
    rw [List.size_toArray, hints.length]
    exact zl
end G

end
section
set_option autoImplicit false
set_option Elab.async false
set_option linter.all false
set_option maxRecDepth 100000
set_option maxHeartbeats 4000000
/-! ## what the top leaves -/
namespace CP
open PySem L2 G Y
theorem ln1 {α : Type} {l : List α} (h : l.length = 1) : ∃ a0, l = [a0] := by
  match l, h with
  | [a0], _ => exact ⟨a0, rfl⟩
theorem ln2 {α : Type} {l : List α} (h : l.length = 2) : ∃ a0 a1, l = [a0, a1] := by
  match l, h with
  | [a0, a1], _ => exact ⟨a0, a1, rfl⟩
theorem ln3 {α : Type} {l : List α} (h : l.length = 3) : ∃ a0 a1 a2, l = [a0, a1, a2] := by
  match l, h with
  | [a0, a1, a2], _ => exact ⟨a0, a1, a2, rfl⟩
theorem ln4 {α : Type} {l : List α} (h : l.length = 4) : ∃ a0 a1 a2 a3, l = [a0, a1, a2, a3] := by
  match l, h with
  | [a0, a1, a2, a3], _ => exact ⟨a0, a1, a2, a3, rfl⟩
theorem ln5 {α : Type} {l : List α} (h : l.length = 5) : ∃ a0 a1 a2 a3 a4, l = [a0, a1, a2, a3, a4] := by
  match l, h with
  | [a0, a1, a2, a3, a4], _ => exact ⟨a0, a1, a2, a3, a4, rfl⟩
/-- a def as it stands behind the top -/
structure Fa (K : PySem.W.Frag) (mg : Str → Option Value) (x : Str) (st : Stmt) (ps : List Str) : Prop where
  ex : ∃ (f : Addr) (fd : FuncData), Fun K x x st f fd ∧ mg x = some (.ref f) ∧ PySem.W.keepIn K (.ref f) = true ∧ Binds K fd ps []
theorem Fa.df {P : Program} {w : World} {K : PySem.W.Frag} {mg : Str → Option Value} {base : Heap} {x : Str} {st : Stmt} {ps : List Str} {k : Nat} {sp : Sp} (h : Fa K mg x st ps) (ok : ∀ f fd, Fun K x x st f fd → FnOk P w K mg base CX0 k f fd ps sp) : Df P w K mg base k x ps sp := by
  obtain ⟨f, fd, h1, h2, h3, h4⟩ := h.ex
  exact ⟨f, fd, ok f fd h1, h2, h3, h4⟩
theorem Fa.dw {P : Program} {w : World} {K : PySem.W.Frag} {mg : Str → Option Value} {base : Heap} {x : Str} {st : Stmt} {ps : List Str} {k : Nat} {sp : Sp} (h : Fa K mg x st ps) (ok : ∀ f fd, Fun K x x st f fd → FnOk P w K mg base CX0 k f fd ps sp) : WP.Df P w K mg base k x ps sp := by
  obtain ⟨f, fd, h1, h2, h3, h4⟩ := h.ex
  exact ⟨f, fd, ok f fd h1, h2, h3, h4⟩
/-- a def with one argument behind the star -/
structure Fg (K : PySem.W.Frag) (mg : Str → Option Value) (x : Str) (st : Stmt) (ps ks : List Str) : Prop where
  ex : ∃ (f : Addr) (fd : FuncData), Fun K x x st f fd ∧ mg x = some (.ref f) ∧ KBinds K fd ps ks g11 g11
theorem Fg.d {P : Program} {w : World} {K : PySem.W.Frag} {mg : Str → Option Value} {base : Heap} {x : Str} {st : Stmt} {ps ks : List Str} {k : Nat} {sp : Sp} (F : Fg K mg x st ps ks) (ok : ∀ f fd, Fun K x x st f fd → FnOk P w K mg base CX0 k f fd ps sp) : Dg P w K mg base k x ps ks sp := by
  obtain ⟨f, fd, h1, h2, h3⟩ := F.ex
  exact ⟨f, fd, ok f fd h1, h2, h1.kp, h3⟩

structure Ff (K : PySem.W.Frag) (mg : Str → Option Value) : Prop where
  ex : ∃ (f : Addr) (fd : FuncData), Fun K "fate" "fate" sFate f fd ∧ mg "fate" = some (.ref f) ∧ KBinds K fd ["way", "body", "sealed"] ["sealed"] g21 g21
structure Fp (K : PySem.W.Frag) (mg : Str → Option Value) : Prop where
  ex : ∃ (f : Addr) (fd : FuncData), Fun K "form" "form" sForm f fd ∧ mg "form" = some (.ref f) ∧ KBinds K fd ["way", "upto"] ["upto"] g11 g11 ∧ Binds K fd ["way", "upto"] [.none]
structure Fk (K : PySem.W.Frag) (mg : Str → Option Value) : Prop where
  ex : ∃ (f : Addr) (fd : FuncData), Fun K "alike" "alike" sAlike f fd ∧ mg "alike" = some (.ref f) ∧ KBinds K fd ["first", "second", "upto"] ["upto"] g21 g21 ∧ Binds K fd ["first", "second", "upto"] [.none]
structure Fl (K : PySem.W.Frag) (mg : Str → Option Value) : Prop where
  ex : ∃ (f : Addr) (fd : FuncData), Fun K "least_difference" "least_difference" sLeastD f fd ∧ mg "least_difference" = some (.ref f) ∧ KBinds K fd ["first", "second", "limit"] ["limit"] g21 g21
section
variable {P : Program} {w : World} {K : PySem.W.Frag} {mg : Str → Option Value} {base : Heap} {C CW : Addr}

theorem dg_gates (B : Bn mg) (T : Ct K mg C) (TW : WP.Wt K mg CW) (nP : ∃ t, mg "NOTHING_PASSES" = some (.int (-1) t)) (zg : Fg K mg "gates" sGates ["way", "sealed"] ["sealed"]) (zt : Fa K mg "_tunnel_gates" sTunG ["head", "tunnel", "chain", "sealed"]) (za : Fa K mg "_gates_at" sGAt ["head", "step", "chain", "sealed"])
    (DM : Df P w K mg base 4 "_most_gates" ["most", "chain"] (spMostG C)) (DC : Df P w K mg base 7 "chains_before" ["way", "sealed"] (spChB C CW)) (DL : Df P w K mg base 1 "_leaves_more" ["chain", "stretch"] (spLeaves C)) (DT : Df P w K mg base 1 "_turned" ["answer", "inner_head", "tells"] spTurnG) (DR : Df P w K mg base 2 "_road_gates" ["head", "road", "chain", "sealed"] (spRoadG C)) :
    ∀ n, n ≤ 10 → ∀ f fd, Fun K "gates" "gates" sGates f fd → FnOk P w K mg base CX0 (8 + 3 * n) f fd ["way", "sealed"] (spGates CW n)
  | 0, _, f, fd, F => F.ok scGt (fun vs H Q E h => by
      obtain ⟨a, se, wy, rfl, _⟩ := h
      rfl) (fun cdv A outer s H vs Q E hr h => by
      exfalso
      obtain ⟨a, se, wy, _, _, _, hd, _⟩ := h
      have := M.depth_pos wy
      omega)
  | n + 1, hn, f, fd, F => by
    have DG : Dg P w K mg base (8 + 3 * n) "gates" ["way", "sealed"] ["sealed"] (spGates CW n) := zg.d fun f fd F => dg_gates B T TW nP zg zt za DM DC DL DT DR n (by omega) f fd F
    have DU : Df P w K mg base (8 + 3 * n + 1) "_tunnel_gates" ["head", "tunnel", "chain", "sealed"] (spTunG C CW n) := zt.df fun f fd F => ok_tung F (by omega) B TW nP DG DM DC DL DT
    have DA : Df P w K mg base (8 + 3 * n + 1 + 1) "_gates_at" ["head", "step", "chain", "sealed"] (spGsAt C CW n) := za.df fun f fd F => ok_gsat F (by omega) DR DM DU
    have r : FnOk P w K mg base CX0 (8 + 3 * n + 1 + 1 + 1) f fd ["way", "sealed"] (spGates CW (n + 1)) := ok_gates F (by omega) (by omega) B TW DC DA
    exact r
theorem dl_plan (B : Bn mg) (zp : Fa K mg "_law_plan" sLPlan ["stream", "depth", "base"]) (zs : Fa K mg "_law_plan_step" sLStep ["stream", "depth", "base", "head"]) (DD : Df P w K mg base 1 "_law_draw" ["stream", "size"] S.spDraw) (DP : Df P w K mg base 2 "_law_choose" ["stream", "items"] (S.spChoose K)) (DM : Df P w K mg base 3 "_law_most" ["stream"] spLMost) :
    ∀ n, Df P w K mg base (4 + 2 * n) "_law_plan" ["stream", "depth", "base"] (spLPlan n)
  | 0 => zp.df fun f fd F => F.ok scPn (fun vs H Q E h => by
      obtain ⟨p, d, b, rfl, _⟩ := h
      rfl) (fun cdv A outer s H vs Q E hr h => by
      exfalso
      obtain ⟨p, d, b, _, _, hd, _⟩ := h
      omega)
  | n + 1 => by
    have D0 := dl_plan B zp zs DD DP DM n
    have DS : Df P w K mg base (4 + 2 * n + 1) "_law_plan_step" ["stream", "depth", "base", "head"] (spLStep n) := zs.df fun f fd F => ok_lstep F (by omega) B DD DP DM D0
    have r : Df P w K mg base (4 + 2 * n + 1 + 1) "_law_plan" ["stream", "depth", "base"] (spLPlan (n + 1)) := zp.df fun f fd F => ok_lplan F (by omega) B DD DP DS
    exact r
theorem dl_way (T : WP.Wt K mg CW) (MW : WP.Mw P w K mg base CW) (z : Fa K mg "_law_way" sLWay ["plan"]) : ∀ n, Df P w K mg base (8 + n) "_law_way" ["plan"] (spLWay CW n)
  | 0 => z.df fun f fd F => F.ok scLw (fun vs H Q E h => by
      obtain ⟨v, wy, rfl, _⟩ := h
      rfl) (fun cdv A outer s H vs Q E hr h => by
      exfalso
      obtain ⟨v, wy, _, _, _, hd, _⟩ := h
      have := M.depth_pos wy
      omega)
  | n + 1 => z.df fun f fd F => ok_lway F T MW (by show 7 ≤ 8 + n; omega) (dl_way T MW z n)
end
section
variable {K : PySem.W.Frag} {mg : Str → Option Value} {h : Heap} {f : Addr} {fd : FuncData}
theorem fd_I (X : K.In h) (Gn : h.Ns mainGlobals mg) (a : PySem.W.nsIn K mainGlobals "is_integer" = some (some (.ref f))) (F : Fun K "is_integer" "is_integer" sInteger f fd) : Fa K mg "is_integer" sInteger ["value"] :=
  ⟨f, fd, F, PySem.W.mg_of X Gn a, F.kp, F.binds fun _ _ _ _ _ _ us hl => by obtain ⟨a0, rfl⟩ := ln1 hl; rfl⟩
theorem fd_W (X : K.In h) (Gn : h.Ns mainGlobals mg) (a : PySem.W.nsIn K mainGlobals "is_within" = some (some (.ref f))) (F : Fun K "is_within" "is_within" sWithin f fd) : Fa K mg "is_within" sWithin ["value", "least", "greatest"] :=
  ⟨f, fd, F, PySem.W.mg_of X Gn a, F.kp, F.binds fun _ _ _ _ _ _ us hl => by obtain ⟨a0, a1, a2, rfl⟩ := ln3 hl; rfl⟩
theorem fd_ar (X : K.In h) (Gn : h.Ns mainGlobals mg) (a : PySem.W.nsIn K mainGlobals "_are_cuts" = some (some (.ref f))) (F : Fun K "_are_cuts" "_are_cuts" sAreCuts f fd) : Fa K mg "_are_cuts" sAreCuts ["value"] :=
  ⟨f, fd, F, PySem.W.mg_of X Gn a, F.kp, F.binds fun _ _ _ _ _ _ us hl => by obtain ⟨a0, rfl⟩ := ln1 hl; rfl⟩
theorem fd_co (X : K.In h) (Gn : h.Ns mainGlobals mg) (a : PySem.W.nsIn K mainGlobals "_piece_counts" = some (some (.ref f))) (F : Fun K "_piece_counts" "_piece_counts" sCounts f fd) : Fa K mg "_piece_counts" sCounts ["cuts"] :=
  ⟨f, fd, F, PySem.W.mg_of X Gn a, F.kp, F.binds fun _ _ _ _ _ _ us hl => by obtain ⟨a0, rfl⟩ := ln1 hl; rfl⟩
theorem fd_pi (X : K.In h) (Gn : h.Ns mainGlobals mg) (a : PySem.W.nsIn K mainGlobals "_pieces" = some (some (.ref f))) (F : Fun K "_pieces" "_pieces" sPieces f fd) : Fa K mg "_pieces" sPieces ["body", "cuts", "counts"] :=
  ⟨f, fd, F, PySem.W.mg_of X Gn a, F.kp, F.binds fun _ _ _ _ _ _ us hl => by obtain ⟨a0, a1, a2, rfl⟩ := ln3 hl; rfl⟩
theorem fd_mk (X : K.In h) (Gn : h.Ns mainGlobals mg) (a : PySem.W.nsIn K mainGlobals "_marks" = some (some (.ref f))) (F : Fun K "_marks" "_marks" sMarks f fd) : Fa K mg "_marks" sMarks ["chain", "length"] :=
  ⟨f, fd, F, PySem.W.mg_of X Gn a, F.kp, F.binds fun _ _ _ _ _ _ us hl => by obtain ⟨a0, a1, rfl⟩ := ln2 hl; rfl⟩
theorem fd_lp (X : K.In h) (Gn : h.Ns mainGlobals mg) (a : PySem.W.nsIn K mainGlobals "least_periods" = some (some (.ref f))) (F : Fun K "least_periods" "least_periods" sLeastP f fd) : Fa K mg "least_periods" sLeastP ["marks"] :=
  ⟨f, fd, F, PySem.W.mg_of X Gn a, F.kp, F.binds fun _ _ _ _ _ _ us hl => by obtain ⟨a0, rfl⟩ := ln1 hl; rfl⟩
theorem fd_bo (X : K.In h) (Gn : h.Ns mainGlobals mg) (a : PySem.W.nsIn K mainGlobals "borders" = some (some (.ref f))) (F : Fun K "borders" "borders" sBorders f fd) : Fa K mg "borders" sBorders ["marks"] :=
  ⟨f, fd, F, PySem.W.mg_of X Gn a, F.kp, F.binds fun _ _ _ _ _ _ us hl => by obtain ⟨a0, rfl⟩ := ln1 hl; rfl⟩
theorem fd_fc (X : K.In h) (Gn : h.Ns mainGlobals mg) (a : PySem.W.nsIn K mainGlobals "_first_cut" = some (some (.ref f))) (F : Fun K "_first_cut" "_first_cut" sFirstCut f fd) : Fa K mg "_first_cut" sFirstCut ["chain"] :=
  ⟨f, fd, F, PySem.W.mg_of X Gn a, F.kp, F.binds fun _ _ _ _ _ _ us hl => by obtain ⟨a0, rfl⟩ := ln1 hl; rfl⟩
theorem fd_le (X : K.In h) (Gn : h.Ns mainGlobals mg) (a : PySem.W.nsIn K mainGlobals "_length" = some (some (.ref f))) (F : Fun K "_length" "_length" sLength f fd) : Fa K mg "_length" sLength ["places", "limit"] :=
  ⟨f, fd, F, PySem.W.mg_of X Gn a, F.kp, F.binds fun _ _ _ _ _ _ us hl => by obtain ⟨a0, a1, rfl⟩ := ln2 hl; rfl⟩
theorem fd_wd (X : K.In h) (Gn : h.Ns mainGlobals mg) (a : PySem.W.nsIn K mainGlobals "_word" = some (some (.ref f))) (F : Fun K "_word" "_word" sWord f fd) : Fa K mg "_word" sWord ["road", "sealed"] :=
  ⟨f, fd, F, PySem.W.mg_of X Gn a, F.kp, F.binds fun _ _ _ _ _ _ us hl => by obtain ⟨a0, a1, rfl⟩ := ln2 hl; rfl⟩
theorem fd_ga (X : K.In h) (Gn : h.Ns mainGlobals mg) (a : PySem.W.nsIn K mainGlobals "_gates_at" = some (some (.ref f))) (F : Fun K "_gates_at" "_gates_at" sGAt f fd) : Fa K mg "_gates_at" sGAt ["head", "step", "chain", "sealed"] :=
  ⟨f, fd, F, PySem.W.mg_of X Gn a, F.kp, F.binds fun _ _ _ _ _ _ us hl => by obtain ⟨a0, a1, a2, a3, rfl⟩ := ln4 hl; rfl⟩
theorem fd_rg (X : K.In h) (Gn : h.Ns mainGlobals mg) (a : PySem.W.nsIn K mainGlobals "_road_gates" = some (some (.ref f))) (F : Fun K "_road_gates" "_road_gates" sRoadG f fd) : Fa K mg "_road_gates" sRoadG ["head", "road", "chain", "sealed"] :=
  ⟨f, fd, F, PySem.W.mg_of X Gn a, F.kp, F.binds fun _ _ _ _ _ _ us hl => by obtain ⟨a0, a1, a2, a3, rfl⟩ := ln4 hl; rfl⟩
theorem fd_lv (X : K.In h) (Gn : h.Ns mainGlobals mg) (a : PySem.W.nsIn K mainGlobals "_leaves_more" = some (some (.ref f))) (F : Fun K "_leaves_more" "_leaves_more" sLeaves f fd) : Fa K mg "_leaves_more" sLeaves ["chain", "stretch"] :=
  ⟨f, fd, F, PySem.W.mg_of X Gn a, F.kp, F.binds fun _ _ _ _ _ _ us hl => by obtain ⟨a0, a1, rfl⟩ := ln2 hl; rfl⟩
theorem fd_mg (X : K.In h) (Gn : h.Ns mainGlobals mg) (a : PySem.W.nsIn K mainGlobals "_most_gates" = some (some (.ref f))) (F : Fun K "_most_gates" "_most_gates" sMostG f fd) : Fa K mg "_most_gates" sMostG ["most", "chain"] :=
  ⟨f, fd, F, PySem.W.mg_of X Gn a, F.kp, F.binds fun _ _ _ _ _ _ us hl => by obtain ⟨a0, a1, rfl⟩ := ln2 hl; rfl⟩
theorem fd_tg (X : K.In h) (Gn : h.Ns mainGlobals mg) (a : PySem.W.nsIn K mainGlobals "_tunnel_gates" = some (some (.ref f))) (F : Fun K "_tunnel_gates" "_tunnel_gates" sTunG f fd) : Fa K mg "_tunnel_gates" sTunG ["head", "tunnel", "chain", "sealed"] :=
  ⟨f, fd, F, PySem.W.mg_of X Gn a, F.kp, F.binds fun _ _ _ _ _ _ us hl => by obtain ⟨a0, a1, a2, a3, rfl⟩ := ln4 hl; rfl⟩
theorem fd_tu (X : K.In h) (Gn : h.Ns mainGlobals mg) (a : PySem.W.nsIn K mainGlobals "_turned" = some (some (.ref f))) (F : Fun K "_turned" "_turned" sTurnG f fd) : Fa K mg "_turned" sTurnG ["answer", "inner_head", "tells"] :=
  ⟨f, fd, F, PySem.W.mg_of X Gn a, F.kp, F.binds fun _ _ _ _ _ _ us hl => by obtain ⟨a0, a1, a2, rfl⟩ := ln3 hl; rfl⟩
theorem fd_cb (X : K.In h) (Gn : h.Ns mainGlobals mg) (a : PySem.W.nsIn K mainGlobals "chains_before" = some (some (.ref f))) (F : Fun K "chains_before" "chains_before" sChB f fd) : Fa K mg "chains_before" sChB ["way", "sealed"] :=
  ⟨f, fd, F, PySem.W.mg_of X Gn a, F.kp, F.binds fun _ _ _ _ _ _ us hl => by obtain ⟨a0, a1, rfl⟩ := ln2 hl; rfl⟩
theorem fd_sr (X : K.In h) (Gn : h.Ns mainGlobals mg) (a : PySem.W.nsIn K mainGlobals "_stairs" = some (some (.ref f))) (F : Fun K "_stairs" "_stairs" sStairs f fd) : Fa K mg "_stairs" sStairs ["way", "sealed", "upto"] :=
  ⟨f, fd, F, PySem.W.mg_of X Gn a, F.kp, F.binds fun _ _ _ _ _ _ us hl => by obtain ⟨a0, a1, a2, rfl⟩ := ln3 hl; rfl⟩
theorem fd_co2 (X : K.In h) (Gn : h.Ns mainGlobals mg) (a : PySem.W.nsIn K mainGlobals "chain_of" = some (some (.ref f))) (F : Fun K "chain_of" "chain_of" sChainOf f fd) : Fa K mg "chain_of" sChainOf ["way"] :=
  ⟨f, fd, F, PySem.W.mg_of X Gn a, F.kp, F.binds fun _ _ _ _ _ _ us hl => by obtain ⟨a0, rfl⟩ := ln1 hl; rfl⟩
theorem fd_ls (X : K.In h) (Gn : h.Ns mainGlobals mg) (a : PySem.W.nsIn K mainGlobals "_law_stream" = some (some (.ref f))) (F : Fun K "_law_stream" "_law_stream" S.sSource f fd) : Fa K mg "_law_stream" S.sSource ["script", "start"] :=
  ⟨f, fd, F, PySem.W.mg_of X Gn a, F.kp, F.binds fun _ _ _ _ _ _ us hl => by obtain ⟨a0, a1, rfl⟩ := ln2 hl; rfl⟩
theorem fd_ld (X : K.In h) (Gn : h.Ns mainGlobals mg) (a : PySem.W.nsIn K mainGlobals "_law_draw" = some (some (.ref f))) (F : Fun K "_law_draw" "_law_draw" S.sDraw f fd) : Fa K mg "_law_draw" S.sDraw ["stream", "size"] :=
  ⟨f, fd, F, PySem.W.mg_of X Gn a, F.kp, F.binds fun _ _ _ _ _ _ us hl => by obtain ⟨a0, a1, rfl⟩ := ln2 hl; rfl⟩
theorem fd_lch (X : K.In h) (Gn : h.Ns mainGlobals mg) (a : PySem.W.nsIn K mainGlobals "_law_choose" = some (some (.ref f))) (F : Fun K "_law_choose" "_law_choose" S.sPick f fd) : Fa K mg "_law_choose" S.sPick ["stream", "items"] :=
  ⟨f, fd, F, PySem.W.mg_of X Gn a, F.kp, F.binds fun _ _ _ _ _ _ us hl => by obtain ⟨a0, a1, rfl⟩ := ln2 hl; rfl⟩
theorem fd_pn (X : K.In h) (Gn : h.Ns mainGlobals mg) (a : PySem.W.nsIn K mainGlobals "_law_plan" = some (some (.ref f))) (F : Fun K "_law_plan" "_law_plan" sLPlan f fd) : Fa K mg "_law_plan" sLPlan ["stream", "depth", "base"] :=
  ⟨f, fd, F, PySem.W.mg_of X Gn a, F.kp, F.binds fun _ _ _ _ _ _ us hl => by obtain ⟨a0, a1, a2, rfl⟩ := ln3 hl; rfl⟩
theorem fd_lm (X : K.In h) (Gn : h.Ns mainGlobals mg) (a : PySem.W.nsIn K mainGlobals "_law_most" = some (some (.ref f))) (F : Fun K "_law_most" "_law_most" sLMost f fd) : Fa K mg "_law_most" sLMost ["stream"] :=
  ⟨f, fd, F, PySem.W.mg_of X Gn a, F.kp, F.binds fun _ _ _ _ _ _ us hl => by obtain ⟨a0, rfl⟩ := ln1 hl; rfl⟩
theorem fd_ps (X : K.In h) (Gn : h.Ns mainGlobals mg) (a : PySem.W.nsIn K mainGlobals "_law_plan_step" = some (some (.ref f))) (F : Fun K "_law_plan_step" "_law_plan_step" sLStep f fd) : Fa K mg "_law_plan_step" sLStep ["stream", "depth", "base", "head"] :=
  ⟨f, fd, F, PySem.W.mg_of X Gn a, F.kp, F.binds fun _ _ _ _ _ _ us hl => by obtain ⟨a0, a1, a2, a3, rfl⟩ := ln4 hl; rfl⟩
theorem fd_lw (X : K.In h) (Gn : h.Ns mainGlobals mg) (a : PySem.W.nsIn K mainGlobals "_law_way" = some (some (.ref f))) (F : Fun K "_law_way" "_law_way" sLWay f fd) : Fa K mg "_law_way" sLWay ["plan"] :=
  ⟨f, fd, F, PySem.W.mg_of X Gn a, F.kp, F.binds fun _ _ _ _ _ _ us hl => by obtain ⟨a0, rfl⟩ := ln1 hl; rfl⟩
theorem fd_sp (X : K.In h) (Gn : h.Ns mainGlobals mg) (a : PySem.W.nsIn K mainGlobals "_stairs_part" = some (some (.ref f))) (F : Fun K "_stairs_part" "_stairs_part" sSPart f fd) : Fa K mg "_stairs_part" sSPart ["first", "second"] :=
  ⟨f, fd, F, PySem.W.mg_of X Gn a, F.kp, F.binds fun _ _ _ _ _ _ us hl => by obtain ⟨a0, a1, rfl⟩ := ln2 hl; rfl⟩
theorem fd_cp (X : K.In h) (Gn : h.Ns mainGlobals mg) (a : PySem.W.nsIn K mainGlobals "_chains_part" = some (some (.ref f))) (F : Fun K "_chains_part" "_chains_part" sCPart2 f fd) : Fa K mg "_chains_part" sCPart2 ["first", "second", "limit"] :=
  ⟨f, fd, F, PySem.W.mg_of X Gn a, F.kp, F.binds fun _ _ _ _ _ _ us hl => by obtain ⟨a0, a1, a2, rfl⟩ := ln3 hl; rfl⟩
theorem fd_lt (X : K.In h) (Gn : h.Ns mainGlobals mg) (a : PySem.W.nsIn K mainGlobals "_least_threshold" = some (some (.ref f))) (F : Fun K "_least_threshold" "_least_threshold" sLeastT f fd) : Fa K mg "_least_threshold" sLeastT ["stairs"] :=
  ⟨f, fd, F, PySem.W.mg_of X Gn a, F.kp, F.binds fun _ _ _ _ _ _ us hl => by obtain ⟨a0, rfl⟩ := ln1 hl; rfl⟩
theorem fd_be (X : K.In h) (Gn : h.Ns mainGlobals mg) (a : PySem.W.nsIn K mainGlobals "_law_bent_plan" = some (some (.ref f))) (F : Fun K "_law_bent_plan" "_law_bent_plan" sBent f fd) : Fa K mg "_law_bent_plan" sBent ["stream", "plan"] :=
  ⟨f, fd, F, PySem.W.mg_of X Gn a, F.kp, F.binds fun _ _ _ _ _ _ us hl => by obtain ⟨a0, a1, rfl⟩ := ln2 hl; rfl⟩
theorem fd_md (X : K.In h) (Gn : h.Ns mainGlobals mg) (a : PySem.W.nsIn K mainGlobals "_law_made" = some (some (.ref f))) (F : Fun K "_law_made" "_law_made" sLMade f fd) : Fa K mg "_law_made" sLMade ["stream", "plan"] :=
  ⟨f, fd, F, PySem.W.mg_of X Gn a, F.kp, F.binds fun _ _ _ _ _ _ us hl => by obtain ⟨a0, a1, rfl⟩ := ln2 hl; rfl⟩
theorem fd_tr (X : K.In h) (Gn : h.Ns mainGlobals mg) (a : PySem.W.nsIn K mainGlobals "_law_two_right" = some (some (.ref f))) (F : Fun K "_law_two_right" "_law_two_right" sLTwoR f fd) : Fa K mg "_law_two_right" sLTwoR ["one", "two"] :=
  ⟨f, fd, F, PySem.W.mg_of X Gn a, F.kp, F.binds fun _ _ _ _ _ _ us hl => by obtain ⟨a0, a1, rfl⟩ := ln2 hl; rfl⟩
theorem fd_pr (X : K.In h) (Gn : h.Ns mainGlobals mg) (a : PySem.W.nsIn K mainGlobals "_law_put_right" = some (some (.ref f))) (F : Fun K "_law_put_right" "_law_put_right" sLPutR f fd) : Fa K mg "_law_put_right" sLPutR ["one", "two", "third"] :=
  ⟨f, fd, F, PySem.W.mg_of X Gn a, F.kp, F.binds fun _ _ _ _ _ _ us hl => by obtain ⟨a0, a1, a2, rfl⟩ := ln3 hl; rfl⟩
theorem fd_B (X : K.In h) (Gn : h.Ns mainGlobals mg) (a : PySem.W.nsIn K mainGlobals "is_body" = some (some (.ref f))) (F : Fun K "is_body" "is_body" WP.sBody f fd) : Fa K mg "is_body" WP.sBody ["value"] :=
  ⟨f, fd, F, PySem.W.mg_of X Gn a, F.kp, F.binds fun _ _ _ _ _ _ us hl => by obtain ⟨a0, rfl⟩ := ln1 hl; rfl⟩
theorem fd_pt (X : K.In h) (Gn : h.Ns mainGlobals mg) (a : PySem.W.nsIn K mainGlobals "parting" = some (some (.ref f))) (F : Fun K "parting" "parting" sParting f fd) : Fa K mg "parting" sParting ["first", "second"] :=
  ⟨f, fd, F, PySem.W.mg_of X Gn a, F.kp, F.binds fun _ _ _ _ _ _ us hl => by obtain ⟨a0, a1, rfl⟩ := ln2 hl; rfl⟩
theorem fd_ln (X : K.In h) (Gn : h.Ns mainGlobals mg) (a : PySem.W.nsIn K mainGlobals "lean" = some (some (.ref f))) (F : Fun K "lean" "lean" sLean f fd) : Fa K mg "lean" sLean ["way"] :=
  ⟨f, fd, F, PySem.W.mg_of X Gn a, F.kp, F.binds fun _ _ _ _ _ _ us hl => by obtain ⟨a0, rfl⟩ := ln1 hl; rfl⟩
theorem fd_li (X : K.In h) (Gn : h.Ns mainGlobals mg) (a : PySem.W.nsIn K mainGlobals "is_step_list" = some (some (.ref f))) (F : Fun K "is_step_list" "is_step_list" WP.sList f fd) : Fa K mg "is_step_list" WP.sList ["value"] :=
  ⟨f, fd, F, PySem.W.mg_of X Gn a, F.kp, F.binds fun _ _ _ _ _ _ us hl => by obtain ⟨a0, rfl⟩ := ln1 hl; rfl⟩
theorem fd_st (X : K.In h) (Gn : h.Ns mainGlobals mg) (a : PySem.W.nsIn K mainGlobals "_is_step" = some (some (.ref f))) (F : Fun K "_is_step" "_is_step" WP.sStep f fd) : Fa K mg "_is_step" WP.sStep ["value", "head"] :=
  ⟨f, fd, F, PySem.W.mg_of X Gn a, F.kp, F.binds fun _ _ _ _ _ _ us hl => by obtain ⟨a0, a1, rfl⟩ := ln2 hl; rfl⟩
theorem fd_rd (X : K.In h) (Gn : h.Ns mainGlobals mg) (a : PySem.W.nsIn K mainGlobals "is_road" = some (some (.ref f))) (F : Fun K "is_road" "is_road" WP.sRoad f fd) : Fa K mg "is_road" WP.sRoad ["size", "sealed", "loose", "least"] :=
  ⟨f, fd, F, PySem.W.mg_of X Gn a, F.kp, F.binds fun _ _ _ _ _ _ us hl => by obtain ⟨a0, a1, a2, a3, rfl⟩ := ln4 hl; rfl⟩
theorem fd_tl (X : K.In h) (Gn : h.Ns mainGlobals mg) (a : PySem.W.nsIn K mainGlobals "is_tells" = some (some (.ref f))) (F : Fun K "is_tells" "is_tells" WP.sTells f fd) : Fa K mg "is_tells" WP.sTells ["value"] :=
  ⟨f, fd, F, PySem.W.mg_of X Gn a, F.kp, F.binds fun _ _ _ _ _ _ us hl => by obtain ⟨a0, rfl⟩ := ln1 hl; rfl⟩
theorem fd_mo (X : K.In h) (Gn : h.Ns mainGlobals mg) (a : PySem.W.nsIn K mainGlobals "is_most" = some (some (.ref f))) (F : Fun K "is_most" "is_most" WP.sMost f fd) : Fa K mg "is_most" WP.sMost ["value"] :=
  ⟨f, fd, F, PySem.W.mg_of X Gn a, F.kp, F.binds fun _ _ _ _ _ _ us hl => by obtain ⟨a0, rfl⟩ := ln1 hl; rfl⟩
theorem fd_hd (X : K.In h) (Gn : h.Ns mainGlobals mg) (a : PySem.W.nsIn K mainGlobals "is_head" = some (some (.ref f))) (F : Fun K "is_head" "is_head" WP.sHead f fd) : Fa K mg "is_head" WP.sHead ["value"] :=
  ⟨f, fd, F, PySem.W.mg_of X Gn a, F.kp, F.binds fun _ _ _ _ _ _ us hl => by obtain ⟨a0, rfl⟩ := ln1 hl; rfl⟩
theorem kl_gt (F : Fun K "gates" "gates" sGates f fd) : KBinds K fd ["way", "sealed"] ["sealed"] g11 g11 := by
  obtain ⟨oc, od, kV, doc, pm, an, cdv, ct, osl, rfl, lk, hcd⟩ := F.ex
  refine ⟨fun _ us ws _ hl => ?_, fun {vs us zs ws} r rz => rel11 r rz⟩
  match us, ws, hl with
  | [_], [_], _ => exact .of_eq rfl
theorem fk_gt (X : K.In h) (Gn : h.Ns mainGlobals mg) (a : PySem.W.nsIn K mainGlobals "gates" = some (some (.ref f))) (F : Fun K "gates" "gates" sGates f fd) : Fg K mg "gates" sGates ["way", "sealed"] ["sealed"] := ⟨f, fd, F, PySem.W.mg_of X Gn a, kl_gt F⟩
theorem kl_lo (F : Fun K "lows" "lows" sLows f fd) : KBinds K fd ["way", "sealed"] ["sealed"] g11 g11 := by
  obtain ⟨oc, od, kV, doc, pm, an, cdv, ct, osl, rfl, lk, hcd⟩ := F.ex
  refine ⟨fun _ us ws _ hl => ?_, fun {vs us zs ws} r rz => rel11 r rz⟩
  match us, ws, hl with
  | [_], [_], _ => exact .of_eq rfl
theorem fk_lo (X : K.In h) (Gn : h.Ns mainGlobals mg) (a : PySem.W.nsIn K mainGlobals "lows" = some (some (.ref f))) (F : Fun K "lows" "lows" sLows f fd) : Fg K mg "lows" sLows ["way", "sealed"] ["sealed"] := ⟨f, fd, F, PySem.W.mg_of X Gn a, kl_lo F⟩
theorem kl_no (F : Fun K "normal" "normal" sNormal f fd) : KBinds K fd ["chain", "limit"] ["limit"] g11 g11 := by
  obtain ⟨oc, od, kV, doc, pm, an, cdv, ct, osl, rfl, lk, hcd⟩ := F.ex
  refine ⟨fun _ us ws _ hl => ?_, fun {vs us zs ws} r rz => rel11 r rz⟩
  match us, ws, hl with
  | [_], [_], _ => exact .of_eq rfl
theorem fk_no (X : K.In h) (Gn : h.Ns mainGlobals mg) (a : PySem.W.nsIn K mainGlobals "normal" = some (some (.ref f))) (F : Fun K "normal" "normal" sNormal f fd) : Fg K mg "normal" sNormal ["chain", "limit"] ["limit"] := ⟨f, fd, F, PySem.W.mg_of X Gn a, kl_no F⟩
theorem non_of {ds : List Value} (r : Vals [V.non] ds) : ds = [.none] := by
  cases r with
  | cons a b =>
    cases b
    cases a
    rfl
theorem kl_fm (F : Fun K "form" "form" sForm f fd) : KBinds K fd ["way", "upto"] ["upto"] g11 g11 := by
  obtain ⟨oc, od, kV, doc, pm, an, cdv, ct, osl, rfl, lk, hcd⟩ := F.ex
  refine ⟨fun _ us ws _ hl => ?_, fun {vs us zs ws} r rz => rel11 r rz⟩
  match us, ws, hl with
  | [_], [_], _ => exact .of_eq rfl
theorem kl_al (F : Fun K "alike" "alike" sAlike f fd) : KBinds K fd ["first", "second", "upto"] ["upto"] g21 g21 := by
  obtain ⟨oc, od, kV, doc, pm, an, cdv, ct, osl, rfl, lk, hcd⟩ := F.ex
  refine ⟨fun _ us ws _ hl => ?_, fun {vs us zs ws} r rz => rel21 r rz⟩
  match us, ws, hl with
  | [_, _], [_], _ => exact .of_eq rfl
theorem bq_fm (X : K.In h) (Gn : h.Ns mainGlobals mg) (a : PySem.W.nsIn K mainGlobals "form" = some (some (.ref f))) (F : FunD K "form" "form" (defArgs sForm) (defBody sForm) (defScope sForm) [] [("upto", .non)] f fd) : Fp K mg := by
  obtain ⟨ds, r, b⟩ := F.binds0 (ps := ["way", "upto"]) 1 (by simp) rfl fun D doc pm an cdv ct us ks hu hk => match us, ks, hu, hk with
    | [_], [_], _, _ => ⟨_, _, _, _, _, _, rfl, rfl, rfl⟩
  rw [non_of r] at b
  exact ⟨f, fd, HN.funOf F, PySem.W.mg_of X Gn a, kl_fm (HN.funOf F), b⟩
theorem bq_al (X : K.In h) (Gn : h.Ns mainGlobals mg) (a : PySem.W.nsIn K mainGlobals "alike" = some (some (.ref f))) (F : FunD K "alike" "alike" (defArgs sAlike) (defBody sAlike) (defScope sAlike) [] [("upto", .non)] f fd) : Fk K mg := by
  obtain ⟨ds, r, b⟩ := F.binds0 (ps := ["first", "second", "upto"]) 2 (by simp) rfl fun D doc pm an cdv ct us ks hu hk => match us, ks, hu, hk with
    | [_, _], [_], _, _ => ⟨_, _, _, _, _, _, rfl, rfl, rfl⟩
  rw [non_of r] at b
  exact ⟨f, fd, HN.funOf F, PySem.W.mg_of X Gn a, kl_al (HN.funOf F), b⟩
theorem kl_fa (F : Fun K "fate" "fate" sFate f fd) : KBinds K fd ["way", "body", "sealed"] ["sealed"] g21 g21 := by
  obtain ⟨oc, od, kV, doc, pm, an, cdv, ct, osl, rfl, lk, hcd⟩ := F.ex
  refine ⟨fun _ us ws _ hl => ?_, fun {vs us zs ws} r rz => rel21 r rz⟩
  match us, ws, hl with
  | [_, _], [_], _ => exact .of_eq rfl
theorem fk_fa (X : K.In h) (Gn : h.Ns mainGlobals mg) (a : PySem.W.nsIn K mainGlobals "fate" = some (some (.ref f))) (F : Fun K "fate" "fate" sFate f fd) : Ff K mg := ⟨f, fd, F, PySem.W.mg_of X Gn a, kl_fa F⟩
theorem fk_ldf (X : K.In h) (Gn : h.Ns mainGlobals mg) (a : PySem.W.nsIn K mainGlobals "least_difference" = some (some (.ref f))) (F : Fun K "least_difference" "least_difference" sLeastD f fd) : Fl K mg := by
  refine ⟨f, fd, F, PySem.W.mg_of X Gn a, ?_⟩
  obtain ⟨oc, od, kV, doc, pm, an, cdv, ct, osl, rfl, lk, hcd⟩ := F.ex
  refine ⟨fun _ us ws _ hl => ?_, fun {vs us zs ws} r rz => rel21 r rz⟩
  match us, ws, hl with
  | [_, _], [_], _ => exact .of_eq rfl
end
theorem all_mk {l : PySem.W.OpenLaw} {w : World} {K : PySem.W.Frag} {h : Heap} {mg : Str → Option Value} {fa C CW fIn fIw fWx fWl fWa fPc fBd fX fE fA fG fLaw : Addr} {dIn dIw dWx dWl dWa dPc dBd dX dE dA dG dLaw : FuncData} (X : K.In h) (Gn : h.Ns mainGlobals mg) (hfa : mg "law" = some (.ref fa)) (B : Bn mg) (hsum : mg "sum" = none) (T : Ct K mg C) (gC : ∃ t, mg "GREATEST_CUT" = some (.int 1000 t)) (nP : ∃ t, mg "NOTHING_PASSES" = some (.int (-1) t)) (gB : ∃ t, mg "GREATEST_BODY" = some (.int 1000000000000000000 t)) (T2 : Cn2 K C) (sfC : PySem.W.selfFirst K C = true) (nfG : PySem.W.fnIn K fG = true) (TW : WP.Wt K mg CW)
    (z_I : Fa K mg "is_integer" sInteger ["value"])
    (z_W : Fa K mg "is_within" sWithin ["value", "least", "greatest"])
    (z_ar : Fa K mg "_are_cuts" sAreCuts ["value"])
    (z_co : Fa K mg "_piece_counts" sCounts ["cuts"])
    (z_pi : Fa K mg "_pieces" sPieces ["body", "cuts", "counts"])
    (z_mk : Fa K mg "_marks" sMarks ["chain", "length"])
    (z_lp : Fa K mg "least_periods" sLeastP ["marks"])
    (z_bo : Fa K mg "borders" sBorders ["marks"])
    (z_fc : Fa K mg "_first_cut" sFirstCut ["chain"])
    (z_le : Fa K mg "_length" sLength ["places", "limit"])
    (z_wd : Fa K mg "_word" sWord ["road", "sealed"])
    (z_ga : Fa K mg "_gates_at" sGAt ["head", "step", "chain", "sealed"])
    (z_rg : Fa K mg "_road_gates" sRoadG ["head", "road", "chain", "sealed"])
    (z_lv : Fa K mg "_leaves_more" sLeaves ["chain", "stretch"])
    (z_mg : Fa K mg "_most_gates" sMostG ["most", "chain"])
    (z_tg : Fa K mg "_tunnel_gates" sTunG ["head", "tunnel", "chain", "sealed"])
    (z_tu : Fa K mg "_turned" sTurnG ["answer", "inner_head", "tells"])
    (z_cb : Fa K mg "chains_before" sChB ["way", "sealed"])
    (z_sr : Fa K mg "_stairs" sStairs ["way", "sealed", "upto"])
    (z_co2 : Fa K mg "chain_of" sChainOf ["way"])
    (z_ls : Fa K mg "_law_stream" S.sSource ["script", "start"])
    (z_ld : Fa K mg "_law_draw" S.sDraw ["stream", "size"])
    (z_lch : Fa K mg "_law_choose" S.sPick ["stream", "items"])
    (z_pn : Fa K mg "_law_plan" sLPlan ["stream", "depth", "base"])
    (z_lm : Fa K mg "_law_most" sLMost ["stream"])
    (z_ps : Fa K mg "_law_plan_step" sLStep ["stream", "depth", "base", "head"])
    (z_lw : Fa K mg "_law_way" sLWay ["plan"])
    (z_sp : Fa K mg "_stairs_part" sSPart ["first", "second"])
    (z_cp : Fa K mg "_chains_part" sCPart2 ["first", "second", "limit"])
    (z_lt : Fa K mg "_least_threshold" sLeastT ["stairs"])
    (z_be : Fa K mg "_law_bent_plan" sBent ["stream", "plan"])
    (z_md : Fa K mg "_law_made" sLMade ["stream", "plan"])
    (z_tr : Fa K mg "_law_two_right" sLTwoR ["one", "two"])
    (z_pr : Fa K mg "_law_put_right" sLPutR ["one", "two", "third"])
    (z_B : Fa K mg "is_body" WP.sBody ["value"])
    (z_pt : Fa K mg "parting" sParting ["first", "second"])
    (z_ln : Fa K mg "lean" sLean ["way"])
    (z_li : Fa K mg "is_step_list" WP.sList ["value"])
    (z_st : Fa K mg "_is_step" WP.sStep ["value", "head"])
    (z_rd : Fa K mg "is_road" WP.sRoad ["size", "sealed", "loose", "least"])
    (z_tl : Fa K mg "is_tells" WP.sTells ["value"])
    (z_mo : Fa K mg "is_most" WP.sMost ["value"])
    (z_hd : Fa K mg "is_head" WP.sHead ["value"])
    (z_gt : Fg K mg "gates" sGates ["way", "sealed"] ["sealed"]) (z_lo : Fg K mg "lows" sLows ["way", "sealed"] ["sealed"]) (z_no : Fg K mg "normal" sNormal ["chain", "limit"] ["limit"]) (z_fm : Fp K mg) (z_al : Fk K mg) (z_ldf : Fl K mg) (z_fa : Ff K mg)
    (MI : Mk K C fIn) (FIn : Fun K "__init__" "Chain.__init__" sCInit fIn dIn) (MIw : Mk K CW fIw) (FIw : Fun K "__init__" "Way.__init__" WP.sInit fIw dIw)
    (mWx : Meth K CW "without" fWx) (FWx : Fun K "without" "Way.without" WP.sWithout fWx dWx) (oWl : WO.Own K CW fWl "__len__") (FWl : Fun K "__len__" "Way.__len__" WP.sLen fWl dWl) (oWa : WO.Own K CW fWa "__add__") (FWa : Fun K "__add__" "Way.__add__" EB.sAddW fWa dWa) (sfW : PySem.W.selfFirst K CW = true)
    (mPc : Meth K C "pieces" fPc) (FPc : Fun K "pieces" "Chain.pieces" sCPieces fPc dPc)
    (mBd : Meth K C "_boundary" fBd) (FBd : Fun K "_boundary" "Chain._boundary" sCBoundary fBd dBd)
    (mX : Meth K C "stretch" fX) (FX : Fun K "stretch" "Chain.stretch" sCStretch fX dX)
    (oE : WO.Own K C fE "__eq__") (FE : Fun K "__eq__" "Chain.__eq__" sCEq fE dE) 
    (oA : WO.Own K C fA "__add__") (FA : Fun K "__add__" "Chain.__add__" sCAdd fA dA) 
    (oG : WO.Own K C fG "__getitem__") (FG : Fun K "__getitem__" "Chain.__getitem__" sCGet fG dG) 
    (aL : PySem.W.nsIn K mainGlobals "law" = some (some (.ref fLaw))) (FLaw : Fun K "law" "law" sLaw fLaw dLaw) :
    ∃ fd : FuncData, (∀ (s : Shared) (u : Value), BindsTo s fd ⟨[u], []⟩ [("script", u)]) ∧ ∀ base : Heap, K.In base → base.Ns mainGlobals mg → G.Ok l.prog w K mg base CX0 23 fa fd ["script"] (spLaw K) := by
  have e := hfa.symm.trans (PySem.W.mg_of X Gn aL)
  cases e
  refine ⟨dLaw, ?_, fun base _ _ => ?_⟩
  · obtain ⟨_, _, _, _, _, _, _, _, _, rfl, _, _⟩ := FLaw.ex
    exact fun s u => .of_eq rfl

  have DI : Df l.prog w K mg base 1 "is_integer" ["value"] spInteger := z_I.df fun f fd F => ok_integer F B
  have DW : Df l.prog w K mg base 2 "is_within" ["value", "least", "greatest"] spWithin := z_W.df fun f fd F => ok_within F DI
  have DP : Df l.prog w K mg base 1 "_pieces" ["body", "cuts", "counts"] (spPieces K) := z_pi.df fun f fd F => ok_pieces F B
  have DC : Df l.prog w K mg base 2 "_piece_counts" ["cuts"] (spCounts K) := z_co.df fun f fd F => ok_counts F B DP
  have DA : Df l.prog w K mg base 3 "_are_cuts" ["value"] spAre := z_ar.df fun f fd F => ok_are F B gC DW
  have MW : Mw l.prog w K mg base C := ⟨fIn, dIn, ok_cinit FIn B T DA DC, MI, FIn.binds fun _ _ _ _ _ _ us hl => by obtain ⟨a0, a1, rfl⟩ := ln2 hl; rfl⟩
  have MB : Me l.prog w K mg base C 1 "_boundary" ["self", "number"] (spCBound C) := ⟨fBd, dBd, ok_cbound FBd B T, mBd, FBd.binds fun _ _ _ _ _ _ us hl => by obtain ⟨a0, a1, rfl⟩ := ln2 hl; rfl⟩
  have DE : Oe l.prog w K mg base C 1 "__eq__" ["self", "other"] (EB.spEqC C) := ⟨fE, dE, ok_eqc FE B T T2, oE, FE.binds fun _ _ _ _ _ _ us hl => by obtain ⟨a0, a1, rfl⟩ := ln2 hl; rfl⟩

  have MP : Me l.prog w K mg base C 2 "pieces" ["self", "body"] (spCPieces C) := ⟨fPc, dPc, ok_cpieces FPc T DP, mPc, FPc.binds fun _ _ _ _ _ _ us hl => by obtain ⟨a0, a1, rfl⟩ := ln2 hl; rfl⟩
  have MX : Me l.prog w K mg base C 3 "stretch" ["self", "body", "number"] (spCStretch C) := ⟨fX, dX, ok_cstretch FX T DW MP MB, mX, FX.binds fun _ _ _ _ _ _ us hl => by obtain ⟨a0, a1, a2, rfl⟩ := ln3 hl; rfl⟩

  have DAd : Oq l.prog w K mg base C 6 "__add__" ["self", "other"] (spCAdd C) := ⟨fA, dA, ok_cadd FA B T gC MW, oA, FA.binds fun _ _ _ _ _ _ us hl => by obtain ⟨a0, a1, rfl⟩ := ln2 hl; rfl⟩
  have DGt : Op l.prog w K mg base C 2 "__getitem__" ["self", "at"] (spCGet C) := ⟨fG, dG, ok_cget FG B T DI MB, oG, FG.binds fun _ _ _ _ _ _ us hl => by obtain ⟨a0, a1, rfl⟩ := ln2 hl; rfl, nfG⟩
  have Bi : S.Bi mg := ⟨B.int, B.len⟩
  have DU : Df l.prog w K mg base 1 "_law_stream" ["script", "start"] (S.spSource K) := z_ls.df fun f fd F => S.ok_source F Bi
  have DR : Df l.prog w K mg base 1 "_law_draw" ["stream", "size"] S.spDraw := z_ld.df fun f fd F => S.ok_draw F Bi
  have DC2 : Df l.prog w K mg base 2 "_law_choose" ["stream", "items"] (S.spChoose K) := z_lch.df fun f fd F => S.ok_choose F B.len DR

  have DM : Df l.prog w K mg base 1 "_marks" ["chain", "length"] (spMarks C) := z_mk.df fun f fd F => ok_marks F B T
  have DBo : Df l.prog w K mg base 1 "borders" ["marks"] spBorders := z_bo.df fun f fd F => ok_borders F
  have DLp : Df l.prog w K mg base 2 "least_periods" ["marks"] spLeastP := z_lp.df fun f fd F => ok_leastp F B DBo
  have DFc : Df l.prog w K mg base 1 "_first_cut" ["chain"] (spFirst C) := z_fc.df fun f fd F => ok_first F B T
  have DLe : Df l.prog w K mg base 1 "_length" ["places", "limit"] spLen := z_le.df fun f fd F => ok_length F B
  have DN : Dg l.prog w K mg base 6 "normal" ["chain", "limit"] ["limit"] (spNormal C) := z_no.d fun f fd F => ok_normal F B T MW DFc DLe DM DLp
  -- ways
  have BW : WP.Bn mg := ⟨B.isi, B.bool, B.int, B.tuple, B.list, B.len, B.enum, B.max, hsum⟩
  obtain ⟨fN, fdN, FN, gN, kN, bN⟩ := z_I.ex
  obtain ⟨fW, fdW, FW, gW, kW, bW⟩ := z_W.ex
  obtain ⟨tM, gM⟩ := TW.gMost
  obtain ⟨tB, gB⟩ := gB
  have W0 : WP.Wi l.prog w K mg base fW fdW := ⟨WP.ok_within FW BW FN gN bN, gW, kW, bW⟩
  have EW : WP.Df l.prog w K mg base 2 "is_within" ["value", "least", "greatest"] WP.spWithin := ⟨fW, fdW, W0.ok, gW, kW, bW⟩
  have DBd : Df l.prog w K mg base 3 "is_body" ["value"] (WP.spIn1 0 1000000000000000000) := z_B.df fun f fd F => WP.ok_body F W0 gB
  have EM : WP.Df l.prog w K mg base 3 "is_most" ["value"] (WP.spIn1 1 1000000000000) := z_mo.dw fun f fd F => WP.ok_most F W0 gM
  have ERd : WP.Df l.prog w K mg base 3 "is_road" ["size", "sealed", "loose", "least"] WP.spRoad := z_rd.dw fun f fd F => WP.ok_road F TW EW
  have ETn : WP.Df l.prog w K mg base 1 "is_tells" ["value"] WP.spTells := z_tl.dw fun f fd F => WP.ok_tells F TW
  obtain ⟨tH, gH⟩ := TW.gHead
  have EHd : WP.Df l.prog w K mg base 3 "is_head" ["value"] (WP.spIn1 1 40) := z_hd.dw fun f fd F => WP.ok_head F W0 gH
  have ELi : WP.Df l.prog w K mg base 1 "is_step_list" ["value"] (WP.spList K) := z_li.dw fun f fd F => WP.ok_list F BW TW
  have ESt : WP.Df l.prog w K mg base 5 "_is_step" ["value", "head"] (WP.spStep CW) := z_st.dw fun f fd F => WP.ok_step F BW TW ERd EM ETn
  have MWw : WP.Mw l.prog w K mg base CW := ⟨fIw, dIw, WP.ok_init FIw BW TW EHd ELi ESt, MIw, FIw.binds fun _ _ _ _ _ _ us hl => by obtain ⟨a0, a1, a2, rfl⟩ := ln3 hl; rfl⟩
  have DLm : Df l.prog w K mg base 3 "_law_most" ["stream"] spLMost := z_lm.df fun f fd F => ok_lmost F DR DC2

  have DPl2 : Df l.prog w K mg base 8 "_law_plan" ["stream", "depth", "base"] (spLPlan 2) := dl_plan B z_pn z_ps DR DC2 DLm 2
  have DPs : Df l.prog w K mg base 9 "_law_plan_step" ["stream", "depth", "base", "head"] (spLStep 2) := z_ps.df fun f fd F => ok_lstep F (by omega) B DR DC2 DLm DPl2
  have DPl : Df l.prog w K mg base 10 "_law_plan" ["stream", "depth", "base"] (spLPlan 3) := dl_plan B z_pn z_ps DR DC2 DLm 3
  have DBe : Df l.prog w K mg base 10 "_law_bent_plan" ["stream", "plan"] spBent := z_be.df fun f fd F => ok_bent F B DR DC2 DPs
  have DLw : Df l.prog w K mg base 11 "_law_way" ["plan"] (spLWay CW 3) := dl_way TW MWw z_lw 3

  -- gates
  have GWd : Df l.prog w K mg base 1 "_word" ["road", "sealed"] spWord := z_wd.df fun f fd F => ok_word F
  have GLv : Df l.prog w K mg base 1 "_leaves_more" ["chain", "stretch"] (spLeaves C) := z_lv.df fun f fd F => ok_leaves F B T
  have GTu : Df l.prog w K mg base 1 "_turned" ["answer", "inner_head", "tells"] spTurnG := z_tu.df fun f fd F => ok_turng F
  have GMg : Df l.prog w K mg base 4 "_most_gates" ["most", "chain"] (spMostG C) := z_mg.df fun f fd F => ok_mostg F B T DGt
  have GRg : Df l.prog w K mg base 2 "_road_gates" ["head", "road", "chain", "sealed"] (spRoadG C) := z_rg.df fun f fd F => ok_roadg F GWd GLv
  have GCb : Df l.prog w K mg base 7 "chains_before" ["way", "sealed"] (spChB C CW) := z_cb.df fun f fd F => ok_chb (sfC := sfC) F T TW MW DAd GWd
  have okG := dg_gates (P := l.prog) (w := w) (base := base) B T TW nP z_gt z_tg z_ga GMg GCb GLv GTu GRg 3 (by decide)
  have GG : Dg l.prog w K mg base 17 "gates" ["way", "sealed"] ["sealed"] (spGates CW 3) := z_gt.d okG
  have GLo : Dg l.prog w K mg base 18 "lows" ["way", "sealed"] ["sealed"] (spLows CW 3) := z_lo.d fun f fd F => ok_lows F B GG
  have GCo : Df l.prog w K mg base 8 "chain_of" ["way"] (spChainOf C CW) := z_co2.df fun f fd F => ok_chainof F GCb
  have GSt : Df l.prog w K mg base 19 "_stairs" ["way", "sealed", "upto"] (spStairs CW 3) := z_sr.df fun f fd F => ok_stairs F B GLo
  have GFm : Df1 l.prog w K mg base 20 (spForm C CW 3) := by
    obtain ⟨f, fd, h1, h2, h3, h4⟩ := z_fm.ex
    exact ⟨f, fd, ok_form h1 (by decide) B GSt GCo DN, h2, h1.kp, h3, h4⟩
  have GLd : Dl l.prog w K mg base 2 "least_difference" ["first", "second", "limit"] ["limit"] (spLeastD C) := by
    obtain ⟨f, fd, h1, h2, h3⟩ := z_ldf.ex
    exact ⟨f, fd, ok_leastd h1 B DFc DLe DM, h2, h1.kp, h3⟩
  have GSp : Df l.prog w K mg base 1 "_stairs_part" ["first", "second"] spSPart := z_sp.df fun f fd F => ok_spart F B
  have GCp : Df l.prog w K mg base 3 "_chains_part" ["first", "second", "limit"] (spCPart2 C) := z_cp.df fun f fd F => ok_cpart2 F GLd
  have GLt : Df l.prog w K mg base 1 "_least_threshold" ["stairs"] spLeastT := z_lt.df fun f fd F => ok_leastt F B

  have GFa : DFt l.prog w K mg base 21 (spFate C CW 3) := by
    obtain ⟨f, fd, h1, h2, h3⟩ := z_fa.ex
    exact ⟨f, fd, (ok_fate h1 (by decide) T DBd GLo GCb MP MX).mono (by decide), h2, h1.kp, h3⟩
  have GFm1 : Df1 l.prog w K mg base 21 (spForm C CW 3) := by
    obtain ⟨f, fd, h1, h2, h3, h4, h5⟩ := GFm.ex
    exact ⟨f, fd, h1.mono (by decide), h2, h3, h4, h5⟩
  have GPd : Df l.prog w K mg base 21 "parting" ["first", "second"] (spPart CW 3) := z_pt.df fun f fd F => ok_part F (by decide) GFm GSp GCp GLt
  have GKa : DAl l.prog w K mg base 21 (spAlike CW 3) := by
    obtain ⟨f, fd, h1, h2, h3, h4⟩ := z_al.ex
    exact ⟨f, fd, ok_alike h1 (by decide) GFm DE, h2, h1.kp, h3, h4⟩
  have GKb : DAl l.prog w K mg base 22 (spAlike CW 3) := by
    obtain ⟨f, fd, h1, h2, h3, h4, h5⟩ := GKa.ex
    exact ⟨f, fd, h1.mono (by decide), h2, h3, h4, h5⟩
  have GMx : Mx l.prog w K mg base CW := ⟨fWx, dWx, WP.ok_out FWx BW TW MWw EW, mWx, FWx.binds fun _ _ _ _ _ _ us hl => by obtain ⟨a0, a1, rfl⟩ := ln2 hl; rfl⟩
  have GOw : Ow l.prog w K mg base CW := ⟨fWl, dWl, WP.ok_len FWl BW TW, oWl, FWl.binds fun _ _ _ _ _ _ us hl => by obtain ⟨a0, rfl⟩ := ln1 hl; rfl⟩
  have GAw : AwB l.prog w K mg base CW := ⟨fWa, dWa, EB.ok_addW FWa TW MWw, oWa, sfW, FWa.binds fun _ _ _ _ _ _ us hl => by obtain ⟨a0, a1, rfl⟩ := ln2 hl; rfl⟩
  have GNa : Df l.prog w K mg base 22 "lean" ["way"] (spLean CW 3) := z_ln.df fun f fd F => ok_lean F (by decide) B TW GPd GMx GOw (by decide)
  have GMd : Df l.prog w K mg base 2 "_law_made" ["stream", "plan"] (spMade K) := z_md.df fun f fd F => ok_made F B DR
  have GTr : Df l.prog w K mg base 22 "_law_two_right" ["one", "two"] (spTwoR CW) := z_tr.df fun f fd F => ok_twor F (by decide) GPd GKa GFm1 GFa DE
  have GPr : Df l.prog w K mg base 22 "_law_put_right" ["one", "two", "third"] (spPutR CW) := z_pr.df fun f fd F => ok_putr F (by decide) TW GKa GAw MWw
  exact G.Ok.of (ok_law FLaw B (by decide) DU DPl DLw DPs GMd GTr GPr DBe GNa GKb GOw)
end CP

end
section
set_option Elab.async false
set_option linter.all false
set_option maxRecDepth 100000
set_option maxHeartbeats 0
/-! ## the head -/
namespace HT
open PySem PySem.Spec PyProof.Rows L2
def lo0 : List PySem.Str := ["GREATEST_BODY",
  "is_integer",
  "is_within",
  "is_body",
  "RoadError",
  "BadHead",
  "BadSteps",
  "BadStep",
  "TooDeep",
  "TooGreat",
  "OtherHead",
  "NoStep",
  "BadBody",
  "BadChain",
  "NoBoundary",
  "NoPiece",
  "GREATEST_CUT",
  "Chain",
  "_are_cuts",
  "_piece_counts",
  "_pieces",
  "NOTHING_PASSES",
  "gates",
  "lows",
  "chains_before",
  "_word",
  "_gates_at",
  "_road_gates",
  "_leaves_more",
  "_most_gates"]
def lo1 : List PySem.Str := ["_tunnel_gates",
  "_turned",
  "normal",
  "least_difference",
  "least_periods",
  "borders",
  "_first_cut",
  "_length",
  "_marks",
  "chain_of",
  "form",
  "fate",
  "_stairs",
  "alike",
  "parting",
  "lean",
  "_stairs_part",
  "_chains_part",
  "_least_threshold",
  "GREATEST_HEAD",
  "GREATEST_ROAD",
  "GREATEST_MOST",
  "MOST_STEPS",
  "GREATEST_DEPTH",
  "GREATEST_SIZE",
  "SEALED_WORDS",
  "LOOSE_WORDS",
  "TELLS_WORDS",
  "Way",
  "is_head"]
def lo2 : List PySem.Str := ["is_step_list",
  "is_road",
  "is_most",
  "is_tells",
  "_is_step",
  "_law_stream",
  "_law_draw",
  "_law_choose",
  "_law_plan",
  "_law_most",
  "_law_plan_step",
  "_law_way",
  "_law_bent_plan",
  "_law_made",
  "_law_two_right",
  "_law_put_right"]
def lo : List PySem.Str := lo0 ++ lo1 ++ lo2
def fa0 : List He.Fa := [.free "isinstance",
  .free "bool",
  .free "int",
  .free "tuple",
  .free "list",
  .free "len",
  .free "range",
  .free "zip",
  .free "min",
  .free "max",
  .free "sorted",
  .free "set",
  .free "enumerate",
  .free "sum",
  .glo "Chain",
  .cls "Chain",
  .noat "Chain" "cuts",
  .noat "Chain" "_counts",
  .int "GREATEST_CUT" 1000,
  .int "NOTHING_PASSES" (-1),
  .int "GREATEST_BODY" 1000000000000000000,
  .glo "Way",
  .cls "Way",
  .noat "Way" "head",
  .noat "Way" "steps",
  .noat "Way" "depth",
  .noat "Way" "size",
  .int "GREATEST_HEAD" 40,
  .int "GREATEST_ROAD" 1000,
  .int "GREATEST_MOST" 1000000000000]
def fa1 : List He.Fa := [.int "MOST_STEPS" 12,
  .int "GREATEST_DEPTH" 3,
  .int "GREATEST_SIZE" 40,
  .glo "SEALED_WORDS",
  .glo "LOOSE_WORDS",
  .glo "TELLS_WORDS",
  .glo "is_integer",
  .glo "is_within",
  .glo "_are_cuts",
  .glo "_piece_counts",
  .glo "_pieces",
  .glo "_marks",
  .glo "least_periods",
  .glo "borders",
  .glo "_first_cut",
  .glo "_length",
  .glo "_word",
  .glo "_gates_at",
  .glo "_road_gates",
  .glo "_leaves_more",
  .glo "_most_gates",
  .glo "_tunnel_gates",
  .glo "_turned",
  .glo "chains_before",
  .glo "_stairs",
  .glo "chain_of",
  .glo "_law_stream",
  .glo "_law_draw",
  .glo "_law_choose",
  .glo "_law_plan"]
def fa2 : List He.Fa := [.glo "_law_most",
  .glo "_law_plan_step",
  .glo "_law_way",
  .glo "_stairs_part",
  .glo "_chains_part",
  .glo "_least_threshold",
  .glo "_law_bent_plan",
  .glo "_law_made",
  .glo "_law_two_right",
  .glo "_law_put_right",
  .glo "is_body",
  .glo "parting",
  .glo "lean",
  .glo "is_step_list",
  .glo "_is_step",
  .glo "is_road",
  .glo "is_tells",
  .glo "is_most",
  .glo "is_head",
  .glo "gates",
  .glo "lows",
  .glo "normal",
  .glo "form",
  .glo "alike",
  .glo "least_difference",
  .glo "fate",
  .mkr "Chain",
  .mkr "Way",
  .meth "Way" "without",
  .meth "Way" "__len__"]
def fa3 : List He.Fa := [.meth "Way" "__add__",
  .meth "Chain" "pieces",
  .meth "Chain" "_boundary",
  .meth "Chain" "stretch",
  .meth "Chain" "__eq__",
  .meth "Chain" "__add__",
  .meth "Chain" "__getitem__",
  .glo "law"]
def fa : List He.Fa := fa0 ++ fa1 ++ fa2 ++ fa3
def fn0 : List He.DefD := [⟨("is_integer", none), "is_integer", "is_integer", defArgs CP.sInteger, defBody CP.sInteger, defScope CP.sInteger, [], []⟩,
  ⟨("is_within", none), "is_within", "is_within", defArgs CP.sWithin, defBody CP.sWithin, defScope CP.sWithin, [], []⟩,
  ⟨("_are_cuts", none), "_are_cuts", "_are_cuts", defArgs CP.sAreCuts, defBody CP.sAreCuts, defScope CP.sAreCuts, [], []⟩,
  ⟨("_piece_counts", none), "_piece_counts", "_piece_counts", defArgs CP.sCounts, defBody CP.sCounts, defScope CP.sCounts, [], []⟩,
  ⟨("_pieces", none), "_pieces", "_pieces", defArgs CP.sPieces, defBody CP.sPieces, defScope CP.sPieces, [], []⟩,
  ⟨("_marks", none), "_marks", "_marks", defArgs CP.sMarks, defBody CP.sMarks, defScope CP.sMarks, [], []⟩,
  ⟨("least_periods", none), "least_periods", "least_periods", defArgs CP.sLeastP, defBody CP.sLeastP, defScope CP.sLeastP, [], []⟩,
  ⟨("borders", none), "borders", "borders", defArgs CP.sBorders, defBody CP.sBorders, defScope CP.sBorders, [], []⟩,
  ⟨("_first_cut", none), "_first_cut", "_first_cut", defArgs CP.sFirstCut, defBody CP.sFirstCut, defScope CP.sFirstCut, [], []⟩,
  ⟨("_length", none), "_length", "_length", defArgs CP.sLength, defBody CP.sLength, defScope CP.sLength, [], []⟩,
  ⟨("_word", none), "_word", "_word", defArgs CP.sWord, defBody CP.sWord, defScope CP.sWord, [], []⟩,
  ⟨("_gates_at", none), "_gates_at", "_gates_at", defArgs CP.sGAt, defBody CP.sGAt, defScope CP.sGAt, [], []⟩,
  ⟨("_road_gates", none), "_road_gates", "_road_gates", defArgs CP.sRoadG, defBody CP.sRoadG, defScope CP.sRoadG, [], []⟩,
  ⟨("_leaves_more", none), "_leaves_more", "_leaves_more", defArgs CP.sLeaves, defBody CP.sLeaves, defScope CP.sLeaves, [], []⟩,
  ⟨("_most_gates", none), "_most_gates", "_most_gates", defArgs CP.sMostG, defBody CP.sMostG, defScope CP.sMostG, [], []⟩,
  ⟨("_tunnel_gates", none), "_tunnel_gates", "_tunnel_gates", defArgs CP.sTunG, defBody CP.sTunG, defScope CP.sTunG, [], []⟩,
  ⟨("_turned", none), "_turned", "_turned", defArgs CP.sTurnG, defBody CP.sTurnG, defScope CP.sTurnG, [], []⟩,
  ⟨("chains_before", none), "chains_before", "chains_before", defArgs CP.sChB, defBody CP.sChB, defScope CP.sChB, [], []⟩,
  ⟨("_stairs", none), "_stairs", "_stairs", defArgs CP.sStairs, defBody CP.sStairs, defScope CP.sStairs, [], []⟩,
  ⟨("chain_of", none), "chain_of", "chain_of", defArgs CP.sChainOf, defBody CP.sChainOf, defScope CP.sChainOf, [], []⟩,
  ⟨("_law_stream", none), "_law_stream", "_law_stream", defArgs S.sSource, defBody S.sSource, defScope S.sSource, [], []⟩,
  ⟨("_law_draw", none), "_law_draw", "_law_draw", defArgs S.sDraw, defBody S.sDraw, defScope S.sDraw, [], []⟩,
  ⟨("_law_choose", none), "_law_choose", "_law_choose", defArgs S.sPick, defBody S.sPick, defScope S.sPick, [], []⟩,
  ⟨("_law_plan", none), "_law_plan", "_law_plan", defArgs CP.sLPlan, defBody CP.sLPlan, defScope CP.sLPlan, [], []⟩,
  ⟨("_law_most", none), "_law_most", "_law_most", defArgs CP.sLMost, defBody CP.sLMost, defScope CP.sLMost, [], []⟩,
  ⟨("_law_plan_step", none), "_law_plan_step", "_law_plan_step", defArgs CP.sLStep, defBody CP.sLStep, defScope CP.sLStep, [], []⟩,
  ⟨("_law_way", none), "_law_way", "_law_way", defArgs CP.sLWay, defBody CP.sLWay, defScope CP.sLWay, [], []⟩,
  ⟨("_stairs_part", none), "_stairs_part", "_stairs_part", defArgs CP.sSPart, defBody CP.sSPart, defScope CP.sSPart, [], []⟩,
  ⟨("_chains_part", none), "_chains_part", "_chains_part", defArgs CP.sCPart2, defBody CP.sCPart2, defScope CP.sCPart2, [], []⟩,
  ⟨("_least_threshold", none), "_least_threshold", "_least_threshold", defArgs CP.sLeastT, defBody CP.sLeastT, defScope CP.sLeastT, [], []⟩]
def fn1 : List He.DefD := [⟨("_law_bent_plan", none), "_law_bent_plan", "_law_bent_plan", defArgs CP.sBent, defBody CP.sBent, defScope CP.sBent, [], []⟩,
  ⟨("_law_made", none), "_law_made", "_law_made", defArgs CP.sLMade, defBody CP.sLMade, defScope CP.sLMade, [], []⟩,
  ⟨("_law_two_right", none), "_law_two_right", "_law_two_right", defArgs CP.sLTwoR, defBody CP.sLTwoR, defScope CP.sLTwoR, [], []⟩,
  ⟨("_law_put_right", none), "_law_put_right", "_law_put_right", defArgs CP.sLPutR, defBody CP.sLPutR, defScope CP.sLPutR, [], []⟩,
  ⟨("is_body", none), "is_body", "is_body", defArgs WP.sBody, defBody WP.sBody, defScope WP.sBody, [], []⟩,
  ⟨("parting", none), "parting", "parting", defArgs CP.sParting, defBody CP.sParting, defScope CP.sParting, [], []⟩,
  ⟨("lean", none), "lean", "lean", defArgs CP.sLean, defBody CP.sLean, defScope CP.sLean, [], []⟩,
  ⟨("is_step_list", none), "is_step_list", "is_step_list", defArgs WP.sList, defBody WP.sList, defScope WP.sList, [], []⟩,
  ⟨("_is_step", none), "_is_step", "_is_step", defArgs WP.sStep, defBody WP.sStep, defScope WP.sStep, [], []⟩,
  ⟨("is_road", none), "is_road", "is_road", defArgs WP.sRoad, defBody WP.sRoad, defScope WP.sRoad, [], []⟩,
  ⟨("is_tells", none), "is_tells", "is_tells", defArgs WP.sTells, defBody WP.sTells, defScope WP.sTells, [], []⟩,
  ⟨("is_most", none), "is_most", "is_most", defArgs WP.sMost, defBody WP.sMost, defScope WP.sMost, [], []⟩,
  ⟨("is_head", none), "is_head", "is_head", defArgs WP.sHead, defBody WP.sHead, defScope WP.sHead, [], []⟩,
  ⟨("gates", none), "gates", "gates", defArgs CP.sGates, defBody CP.sGates, defScope CP.sGates, [], [("sealed", .bl false)]⟩,
  ⟨("lows", none), "lows", "lows", defArgs CP.sLows, defBody CP.sLows, defScope CP.sLows, [], [("sealed", .bl false)]⟩,
  ⟨("normal", none), "normal", "normal", defArgs CP.sNormal, defBody CP.sNormal, defScope CP.sNormal, [], [("limit", .non)]⟩,
  ⟨("form", none), "form", "form", defArgs CP.sForm, defBody CP.sForm, defScope CP.sForm, [], [("upto", .non)]⟩,
  ⟨("alike", none), "alike", "alike", defArgs CP.sAlike, defBody CP.sAlike, defScope CP.sAlike, [], [("upto", .non)]⟩,
  ⟨("least_difference", none), "least_difference", "least_difference", defArgs CP.sLeastD, defBody CP.sLeastD, defScope CP.sLeastD, [], [("limit", .non)]⟩,
  ⟨("fate", none), "fate", "fate", defArgs CP.sFate, defBody CP.sFate, defScope CP.sFate, [], [("sealed", .bl false)]⟩,
  ⟨("Chain", some "__init__"), "__init__", "Chain.__init__", defArgs CP.sCInit, defBody CP.sCInit, defScope CP.sCInit, [], []⟩,
  ⟨("Way", some "__init__"), "__init__", "Way.__init__", defArgs WP.sInit, defBody WP.sInit, defScope WP.sInit, [], []⟩,
  ⟨("Way", some "without"), "without", "Way.without", defArgs WP.sWithout, defBody WP.sWithout, defScope WP.sWithout, [], []⟩,
  ⟨("Way", some "__len__"), "__len__", "Way.__len__", defArgs WP.sLen, defBody WP.sLen, defScope WP.sLen, [], []⟩,
  ⟨("Way", some "__add__"), "__add__", "Way.__add__", defArgs EB.sAddW, defBody EB.sAddW, defScope EB.sAddW, [], []⟩,
  ⟨("Chain", some "pieces"), "pieces", "Chain.pieces", defArgs CP.sCPieces, defBody CP.sCPieces, defScope CP.sCPieces, [], []⟩,
  ⟨("Chain", some "_boundary"), "_boundary", "Chain._boundary", defArgs CP.sCBoundary, defBody CP.sCBoundary, defScope CP.sCBoundary, [], []⟩,
  ⟨("Chain", some "stretch"), "stretch", "Chain.stretch", defArgs CP.sCStretch, defBody CP.sCStretch, defScope CP.sCStretch, [], []⟩,
  ⟨("Chain", some "__eq__"), "__eq__", "Chain.__eq__", defArgs CP.sCEq, defBody CP.sCEq, defScope CP.sCEq, [], []⟩,
  ⟨("Chain", some "__add__"), "__add__", "Chain.__add__", defArgs CP.sCAdd, defBody CP.sCAdd, defScope CP.sCAdd, [], []⟩]
def fn2 : List He.DefD := [⟨("Chain", some "__getitem__"), "__getitem__", "Chain.__getitem__", defArgs CP.sCGet, defBody CP.sCGet, defScope CP.sCGet, [], []⟩,
  ⟨("law", none), "law", "law", defArgs CP.sLaw, defBody CP.sLaw, defScope CP.sLaw, [], []⟩]
def fn : List He.DefD := fn0 ++ fn1 ++ fn2
def ex0 : List HN.Ex := [fun K => He.eqO (PySem.W.findIn K (.ref (He.ga K "Chain")) "__class__") (some (some (.builtin "object.__class__"))),
  fun K => He.eqO (PySem.W.specialIn K (.builtin "object.__class__") "__get__") (some (some (.builtin "getset_descriptor.__get__"))),
  fun K => decide (PySem.W.takesIn K (.builtin "object.__class__") = some true),
  fun K => decide (PySem.W.mroIn K (He.ga K "Chain") (.type "object") = some true),
  fun K => He.eqO (PySem.W.findIn K (.ref (He.ga K "Chain")) "__ne__") (some (some (.builtin "object.__ne__"))),
  fun K => PySem.W.selfFirst K (He.ga K "Chain"),
  fun K => PySem.W.fnIn K (He.ma K (He.ga K "Chain") "__getitem__"),
  fun K => He.eqO (PySem.W.findIn K (.ref (He.ga K "Way")) "__class__") (some (some (.builtin "object.__class__"))),
  fun K => decide (PySem.W.mroIn K (He.ga K "Way") (.type "object") = some true),
  fun K => He.tupB K "SEALED_WORDS" [.str "tell", .str "drop"],
  fun K => He.tupB K "LOOSE_WORDS" [.str "cut", .str "tell", .str "drop"],
  fun K => He.tupB K "TELLS_WORDS" [.str "turn", .str "keep", .str "lose"],
  fun K => PySem.W.selfFirst K (He.ga K "Way")]
def ex : List HN.Ex := ex0
abbrev R : PySem.W.OpenRow := PySem.W.OpenLaw.row PySem.Challenge.rw_roadsizes_k41_whole_ways_alike
abbrev hk : PySem.W.Hook := HN.hookX fa fn ex
def ob (s : PySem.W.SharedT) : HN.AlX := HN.obsG fa fn ex (HandSHeadRun.getT s)
theorem ob_eq (s : PySem.W.SharedT) : ob s = hk.obs s.abs := HN.obsG_eq (HandSHeadRun.getT_eq s)
theorem run (w : World) : HandSHeadRun.RunEq R (PySem.W.view R.prog [85]) hk ob 7500 lo w := by
  intro os
  kernel_rfl
theorem facts {l : PySem.W.OpenLaw} {w : World} {K : PySem.W.Frag} {h : Heap} {mg : Str → Option Value} {f : Addr} (KX : K.In h) (hNs : h.Ns mainGlobals mg) (hmg : mg "law" = some (.ref f)) (c : HN.Says fa fn ex K) :
    ∃ fd : FuncData, (∀ (s : Shared) (u : Value), BindsTo s fd ⟨[u], []⟩ [("script", u)]) ∧ ∀ base : Heap, K.In base → base.Ns mainGlobals mg → G.Ok l.prog w K mg base CX0 23 f fd ["script"] (CP.spLaw K) :=
  CP.all_mk KX hNs hmg ⟨(He.free_ok KX hNs (c.fact 0 _ rfl)), (He.free_ok KX hNs (c.fact 1 _ rfl)), (He.free_ok KX hNs (c.fact 2 _ rfl)), (He.free_ok KX hNs (c.fact 3 _ rfl)), (He.free_ok KX hNs (c.fact 4 _ rfl)), (He.free_ok KX hNs (c.fact 5 _ rfl)), (He.free_ok KX hNs (c.fact 6 _ rfl)), (He.free_ok KX hNs (c.fact 7 _ rfl)), (He.free_ok KX hNs (c.fact 8 _ rfl)), (He.free_ok KX hNs (c.fact 9 _ rfl)), (He.free_ok KX hNs (c.fact 10 _ rfl)), (He.free_ok KX hNs (c.fact 11 _ rfl)), (He.free_ok KX hNs (c.fact 12 _ rfl))⟩ (He.free_ok KX hNs (c.fact 13 _ rfl))
    ⟨(He.glo_ok KX hNs (c.fact 14 _ rfl)), (He.cls_ok (c.fact 15 _ rfl)), (He.noat_ok (c.fact 16 _ rfl)), (He.noat_ok (c.fact 17 _ rfl))⟩ (He.int_ok KX hNs (c.fact 18 _ rfl)) (He.int_ok KX hNs (c.fact 19 _ rfl)) (He.int_ok KX hNs (c.fact 20 _ rfl))
    ⟨(He.eqO_ok (c.look 0 _ rfl)), (He.eqO_ok (c.look 1 _ rfl)), (of_decide_eq_true (c.look 2 _ rfl)), (of_decide_eq_true (c.look 3 _ rfl)), (He.eqO_ok (c.look 4 _ rfl))⟩ (c.look 5 _ rfl) (c.look 6 _ rfl)
    ⟨(He.glo_ok KX hNs (c.fact 21 _ rfl)), (He.cls_ok (c.fact 22 _ rfl)), (He.noat_ok (c.fact 23 _ rfl)), (He.noat_ok (c.fact 24 _ rfl)), (He.noat_ok (c.fact 25 _ rfl)), (He.noat_ok (c.fact 26 _ rfl)), (He.eqO_ok (c.look 7 _ rfl)), (He.eqO_ok (c.look 1 _ rfl)), (of_decide_eq_true (c.look 2 _ rfl)), (of_decide_eq_true (c.look 8 _ rfl)), (He.int_ok KX hNs (c.fact 27 _ rfl)), (He.int_ok KX hNs (c.fact 28 _ rfl)), (He.int_ok KX hNs (c.fact 29 _ rfl)), (He.int_ok KX hNs (c.fact 30 _ rfl)), (He.int_ok KX hNs (c.fact 31 _ rfl)), (He.int_ok KX hNs (c.fact 32 _ rfl)), ⟨_, (He.glo_ok KX hNs (c.fact 33 _ rfl)), fun H => He.tupB_ok (vs := [.str "tell", .str "drop"]) (c.look 9 _ rfl) H⟩, ⟨_, (He.glo_ok KX hNs (c.fact 34 _ rfl)), fun H => He.tupB_ok (vs := [.str "cut", .str "tell", .str "drop"]) (c.look 10 _ rfl) H⟩, ⟨_, (He.glo_ok KX hNs (c.fact 35 _ rfl)), fun H => He.tupB_ok (vs := [.str "turn", .str "keep", .str "lose"]) (c.look 11 _ rfl) H⟩⟩
    (CP.fd_I KX hNs (He.eqO_ok (c.fact 36 _ rfl)) (HN.funOf (c.def_ 0 _ rfl).choose_spec))
    (CP.fd_W KX hNs (He.eqO_ok (c.fact 37 _ rfl)) (HN.funOf (c.def_ 1 _ rfl).choose_spec))
    (CP.fd_ar KX hNs (He.eqO_ok (c.fact 38 _ rfl)) (HN.funOf (c.def_ 2 _ rfl).choose_spec))
    (CP.fd_co KX hNs (He.eqO_ok (c.fact 39 _ rfl)) (HN.funOf (c.def_ 3 _ rfl).choose_spec))
    (CP.fd_pi KX hNs (He.eqO_ok (c.fact 40 _ rfl)) (HN.funOf (c.def_ 4 _ rfl).choose_spec))
    (CP.fd_mk KX hNs (He.eqO_ok (c.fact 41 _ rfl)) (HN.funOf (c.def_ 5 _ rfl).choose_spec))
    (CP.fd_lp KX hNs (He.eqO_ok (c.fact 42 _ rfl)) (HN.funOf (c.def_ 6 _ rfl).choose_spec))
    (CP.fd_bo KX hNs (He.eqO_ok (c.fact 43 _ rfl)) (HN.funOf (c.def_ 7 _ rfl).choose_spec))
    (CP.fd_fc KX hNs (He.eqO_ok (c.fact 44 _ rfl)) (HN.funOf (c.def_ 8 _ rfl).choose_spec))
    (CP.fd_le KX hNs (He.eqO_ok (c.fact 45 _ rfl)) (HN.funOf (c.def_ 9 _ rfl).choose_spec))
    (CP.fd_wd KX hNs (He.eqO_ok (c.fact 46 _ rfl)) (HN.funOf (c.def_ 10 _ rfl).choose_spec))
    (CP.fd_ga KX hNs (He.eqO_ok (c.fact 47 _ rfl)) (HN.funOf (c.def_ 11 _ rfl).choose_spec))
    (CP.fd_rg KX hNs (He.eqO_ok (c.fact 48 _ rfl)) (HN.funOf (c.def_ 12 _ rfl).choose_spec))
    (CP.fd_lv KX hNs (He.eqO_ok (c.fact 49 _ rfl)) (HN.funOf (c.def_ 13 _ rfl).choose_spec))
    (CP.fd_mg KX hNs (He.eqO_ok (c.fact 50 _ rfl)) (HN.funOf (c.def_ 14 _ rfl).choose_spec))
    (CP.fd_tg KX hNs (He.eqO_ok (c.fact 51 _ rfl)) (HN.funOf (c.def_ 15 _ rfl).choose_spec))
    (CP.fd_tu KX hNs (He.eqO_ok (c.fact 52 _ rfl)) (HN.funOf (c.def_ 16 _ rfl).choose_spec))
    (CP.fd_cb KX hNs (He.eqO_ok (c.fact 53 _ rfl)) (HN.funOf (c.def_ 17 _ rfl).choose_spec))
    (CP.fd_sr KX hNs (He.eqO_ok (c.fact 54 _ rfl)) (HN.funOf (c.def_ 18 _ rfl).choose_spec))
    (CP.fd_co2 KX hNs (He.eqO_ok (c.fact 55 _ rfl)) (HN.funOf (c.def_ 19 _ rfl).choose_spec))
    (CP.fd_ls KX hNs (He.eqO_ok (c.fact 56 _ rfl)) (HN.funOf (c.def_ 20 _ rfl).choose_spec))
    (CP.fd_ld KX hNs (He.eqO_ok (c.fact 57 _ rfl)) (HN.funOf (c.def_ 21 _ rfl).choose_spec))
    (CP.fd_lch KX hNs (He.eqO_ok (c.fact 58 _ rfl)) (HN.funOf (c.def_ 22 _ rfl).choose_spec))
    (CP.fd_pn KX hNs (He.eqO_ok (c.fact 59 _ rfl)) (HN.funOf (c.def_ 23 _ rfl).choose_spec))
    (CP.fd_lm KX hNs (He.eqO_ok (c.fact 60 _ rfl)) (HN.funOf (c.def_ 24 _ rfl).choose_spec))
    (CP.fd_ps KX hNs (He.eqO_ok (c.fact 61 _ rfl)) (HN.funOf (c.def_ 25 _ rfl).choose_spec))
    (CP.fd_lw KX hNs (He.eqO_ok (c.fact 62 _ rfl)) (HN.funOf (c.def_ 26 _ rfl).choose_spec))
    (CP.fd_sp KX hNs (He.eqO_ok (c.fact 63 _ rfl)) (HN.funOf (c.def_ 27 _ rfl).choose_spec))
    (CP.fd_cp KX hNs (He.eqO_ok (c.fact 64 _ rfl)) (HN.funOf (c.def_ 28 _ rfl).choose_spec))
    (CP.fd_lt KX hNs (He.eqO_ok (c.fact 65 _ rfl)) (HN.funOf (c.def_ 29 _ rfl).choose_spec))
    (CP.fd_be KX hNs (He.eqO_ok (c.fact 66 _ rfl)) (HN.funOf (c.def_ 30 _ rfl).choose_spec))
    (CP.fd_md KX hNs (He.eqO_ok (c.fact 67 _ rfl)) (HN.funOf (c.def_ 31 _ rfl).choose_spec))
    (CP.fd_tr KX hNs (He.eqO_ok (c.fact 68 _ rfl)) (HN.funOf (c.def_ 32 _ rfl).choose_spec))
    (CP.fd_pr KX hNs (He.eqO_ok (c.fact 69 _ rfl)) (HN.funOf (c.def_ 33 _ rfl).choose_spec))
    (CP.fd_B KX hNs (He.eqO_ok (c.fact 70 _ rfl)) (HN.funOf (c.def_ 34 _ rfl).choose_spec))
    (CP.fd_pt KX hNs (He.eqO_ok (c.fact 71 _ rfl)) (HN.funOf (c.def_ 35 _ rfl).choose_spec))
    (CP.fd_ln KX hNs (He.eqO_ok (c.fact 72 _ rfl)) (HN.funOf (c.def_ 36 _ rfl).choose_spec))
    (CP.fd_li KX hNs (He.eqO_ok (c.fact 73 _ rfl)) (HN.funOf (c.def_ 37 _ rfl).choose_spec))
    (CP.fd_st KX hNs (He.eqO_ok (c.fact 74 _ rfl)) (HN.funOf (c.def_ 38 _ rfl).choose_spec))
    (CP.fd_rd KX hNs (He.eqO_ok (c.fact 75 _ rfl)) (HN.funOf (c.def_ 39 _ rfl).choose_spec))
    (CP.fd_tl KX hNs (He.eqO_ok (c.fact 76 _ rfl)) (HN.funOf (c.def_ 40 _ rfl).choose_spec))
    (CP.fd_mo KX hNs (He.eqO_ok (c.fact 77 _ rfl)) (HN.funOf (c.def_ 41 _ rfl).choose_spec))
    (CP.fd_hd KX hNs (He.eqO_ok (c.fact 78 _ rfl)) (HN.funOf (c.def_ 42 _ rfl).choose_spec))
    (CP.fk_gt KX hNs (He.eqO_ok (c.fact 79 _ rfl)) (HN.funOf (c.def_ 43 _ rfl).choose_spec))
    (CP.fk_lo KX hNs (He.eqO_ok (c.fact 80 _ rfl)) (HN.funOf (c.def_ 44 _ rfl).choose_spec))
    (CP.fk_no KX hNs (He.eqO_ok (c.fact 81 _ rfl)) (HN.funOf (c.def_ 45 _ rfl).choose_spec))
    (CP.bq_fm KX hNs (He.eqO_ok (c.fact 82 _ rfl)) (c.def_ 46 _ rfl).choose_spec)
    (CP.bq_al KX hNs (He.eqO_ok (c.fact 83 _ rfl)) (c.def_ 47 _ rfl).choose_spec)
    (CP.fk_ldf KX hNs (He.eqO_ok (c.fact 84 _ rfl)) (HN.funOf (c.def_ 48 _ rfl).choose_spec))
    (CP.fk_fa KX hNs (He.eqO_ok (c.fact 85 _ rfl)) (HN.funOf (c.def_ 49 _ rfl).choose_spec))
    (He.mkr_ok (c.fact 86 _ rfl)) (HN.funOf (c.def_ 50 _ rfl).choose_spec) (He.mkr_ok (c.fact 87 _ rfl)) (HN.funOf (c.def_ 51 _ rfl).choose_spec)
    (He.meth_ok (c.fact 88 _ rfl)) (HN.funOf (c.def_ 52 _ rfl).choose_spec) ⟨(He.meth_ok (c.fact 89 _ rfl)).1, (He.meth_ok (c.fact 89 _ rfl)).2⟩ (HN.funOf (c.def_ 53 _ rfl).choose_spec) ⟨(He.meth_ok (c.fact 90 _ rfl)).1, (He.meth_ok (c.fact 90 _ rfl)).2⟩ (HN.funOf (c.def_ 54 _ rfl).choose_spec) (c.look 12 _ rfl)
    (He.meth_ok (c.fact 91 _ rfl)) (HN.funOf (c.def_ 55 _ rfl).choose_spec)
    (He.meth_ok (c.fact 92 _ rfl)) (HN.funOf (c.def_ 56 _ rfl).choose_spec)
    (He.meth_ok (c.fact 93 _ rfl)) (HN.funOf (c.def_ 57 _ rfl).choose_spec)
    ⟨(He.meth_ok (c.fact 94 _ rfl)).1, (He.meth_ok (c.fact 94 _ rfl)).2⟩ (HN.funOf (c.def_ 58 _ rfl).choose_spec)
    ⟨(He.meth_ok (c.fact 95 _ rfl)).1, (He.meth_ok (c.fact 95 _ rfl)).2⟩ (HN.funOf (c.def_ 59 _ rfl).choose_spec)
    ⟨(He.meth_ok (c.fact 96 _ rfl)).1, (He.meth_ok (c.fact 96 _ rfl)).2⟩ (HN.funOf (c.def_ 60 _ rfl).choose_spec)
    (He.eqO_ok (c.fact 97 _ rfl)) (HN.funOf (c.def_ 61 _ rfl).choose_spec)
end HT
open PySem PySem.W PySem.Calls PyProof.Rows
set_option maxRecDepth 100000 in
set_option maxHeartbeats 0 in
theorem PySem.Challenge.cw_roadsizes_k41_whole_ways_alike_holds : PySem.Challenge.rw_roadsizes_k41_whole_ways_alike.Holds := by
  w_on; o_law
  refine HandSHeadRun.head_any (r := OpenLaw.row PySem.Challenge.rw_roadsizes_k41_whole_ways_alike) (q := view (OpenLaw.row PySem.Challenge.rw_roadsizes_k41_whole_ways_alike).prog [85]) (H := HT.hk) (ob := HT.ob) (M := 7500) (loose := HT.lo) (d := HandSHeadRun.topDef (OpenLaw.row PySem.Challenge.rw_roadsizes_k41_whole_ways_alike).prog 85) (kwd := []) HT.ob_eq
    (by kernel_rfl) (fun s => by kernel_rfl) HT.run (by kernel_rfl) (by kernel_rfl) (by kernel_rfl) (by rfl) (by first | assumption | decide +kernel) (by decide +kernel) ⟨rfl, rfl, rfl, rfl, rfl, by decide +kernel⟩ ?hw ?hc
  case hw => w_witness2
  case hc =>
    refine G.walkE (l := PySem.Challenge.rw_roadsizes_k41_whole_ways_alike) (n := 63) (k := 23) (x := "script") rfl (by decide) (by kernel_rfl) ⟨rfl, by decide, by decide⟩ ?F
    intro w mg fa h Y G hmg0
    obtain ⟨K, KX, c⟩ := Y
    have hmg : mg ("law" : PySem.Str) = some (.ref fa) := by
      have e : (HandSHeadRun.topDef (OpenLaw.row PySem.Challenge.rw_roadsizes_k41_whole_ways_alike).prog 85).name = ("law" : PySem.Str) := by kernel_rfl
      rw [← e]
      exact hmg0
    obtain ⟨fd, hb, hF⟩ := HT.facts (l := PySem.Challenge.rw_roadsizes_k41_whole_ways_alike) (w := w) KX G hmg c
    exact ⟨K, fd, CP.spLaw K, KX, hb, fun H a ns hl hb hS => ⟨a, ns, rfl, hS, hl, hb, fun _ => rfl⟩, hF⟩

end
