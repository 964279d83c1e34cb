import PyProof.Rows.All
import Wide.All
import OpenK.AllK
import Wide.FinOn
import HandS.ForMost
import HandS.EndBits
import HandS.Wide
import PyProof.ReprRoads
import HandS.SortKw
import KE.DataMinMax
import HandS.IsInst
import HandS.More
import KE.GoesEnum
import HandS.Walk
import HandS.Flow
import HandS.OwnEq
import HandS.SetFor
import HandS.Strs
import HandS.Zip
import HandS.Star
import HandS.TupAny
import HandS.GenList
import HandS.Style
import KE.KRevSl
import PyProof.ReprBulk
import HandS.Text
import HandS.FStr
import HandS.RaiseMore
import HandS.StrMore
import PyProof.NeKinds
import KE.KStateDown
import HandS.Defaults
import HandS.Head0
import HandS.Head1
import HandS.Head2
import HandS.HeadEnd
import HandS.HeadHook1
import HandS.HeadHook2
import PySem.Challenge.RW_roadsizes_k82_whole_texts_and_fates
section
set_option autoImplicit false
/-! ## chains: what the numbers do -/
namespace N
/-- the pieces of a body -/
def L : List Nat → Nat → Nat
  | [], _ => 1
  | c :: r, b => b / c * L r c + (if b % c = 0 then 0 else L r (b % c))
/-- the boundary with a number -/
def B : List Nat → Nat → Nat
  | [], _ => 0
  | c :: r, n => n / L r c * c + B r (n % L r c)
/-- the rest of a place -/
def rem : List Nat → Nat → Nat
  | [], p => p
  | c :: r, p => rem r (p % c)
def dig : List Nat → Nat → List Nat
  | [], p => [p]
  | c :: r, p => p / c :: dig r (p % c)
theorem L_cons (c : Nat) (r : List Nat) (b : Nat) : L (c :: r) b = b / c * L r c + (if b % c = 0 then 0 else L r (b % c)) := by conv => lhs; unfold L
theorem B_cons (c : Nat) (r : List Nat) (n : Nat) : B (c :: r) n = n / L r c * c + B r (n % L r c) := by conv => lhs; unfold B
theorem rem_cons (c : Nat) (r : List Nat) (p : Nat) : rem (c :: r) p = rem r (p % c) := by conv => lhs; unfold rem
/-- cuts: falling, none of them 0 -/
def Fall : List Nat → Prop
  | [] => True
  | c :: r => 0 < c ∧ (∀ d ∈ r, d < c) ∧ Fall r
theorem Fall.pos : ∀ {l : List Nat}, Fall l → ∀ d ∈ l, 0 < d
  | [], _, d, h => by cases h
  | c :: r, f, d, h => by
    rcases List.mem_cons.mp h with e | e
    · rw [e]; exact f.1
    · exact f.2.2.pos d e
theorem L_pos : ∀ (l : List Nat), Fall l → ∀ b, 0 < b → 0 < L l b
  | [], _, b, _ => by unfold L; omega
  | c :: r, f, b, hb => by
    unfold L
    have h1 := L_pos r f.2.2 c f.1
    by_cases h : b % c = 0
    · rw [if_pos h]
      have h2 : 0 < b / c := Nat.div_pos (Nat.le_of_dvd hb (Nat.dvd_of_mod_eq_zero h)) f.1
      exact Nat.lt_of_lt_of_le (Nat.mul_pos h2 h1) (Nat.le_add_right _ _)
    · rw [if_neg h]
      have h2 := L_pos r f.2.2 (b % c) (by omega)
      omega
theorem B_zero : ∀ l : List Nat, B l 0 = 0
  | [] => rfl
  | c :: r => by
    unfold B
    rw [Nat.zero_div, Nat.zero_mod, B_zero r, Nat.zero_mul]
theorem rem_zero : ∀ l : List Nat, rem l 0 = 0
  | [] => rfl
  | c :: r => by
    unfold rem
    rw [Nat.zero_mod, rem_zero r]
/-- two numbers in parts: which one is less -/
theorem parts_lt {q j Q R c : Nat} (hj : j < c) (hR : R < c) : q * c + j < Q * c + R ↔ q < Q ∨ (q = Q ∧ j < R) := by
  constructor
  · intro h
    rcases Nat.lt_trichotomy q Q with a | a | a
    · exact .inl a
    · subst a
      exact .inr ⟨rfl, by omega⟩
    · have := Nat.mul_le_mul_right c a
      rw [Nat.succ_mul] at this
      omega
  · rintro (a | ⟨rfl, a⟩)
    · have := Nat.mul_le_mul_right c a
      rw [Nat.succ_mul] at this
      omega
    · omega
/-- the boundaries below a body are one less than its pieces -/
theorem below : ∀ (l : List Nat), Fall l → ∀ b, 0 < b → ∀ m, (l = [] → m = 0) → (B l m < b ↔ m < L l b)
  | [], _, b, hb, m, hm => by
    rw [hm rfl]
    unfold B L
    omega
  | c :: r, f, b, hb, m, _ => by
    have hc := f.1
    have hk := L_pos r f.2.2 c hc
    have ih := below r f.2.2
    have hj := Nat.mod_lt m hk
    have hR := Nat.mod_lt b hc
    have e1 := Nat.div_add_mod m (L r c)
    have e2 := Nat.div_add_mod b c
    have nil : r = [] → m % L r c = 0 := fun e => by
      rw [e]
      show m % 1 = 0
      exact Nat.mod_one m
    have hB : B r (m % L r c) < c := (ih c hc _ nil).mpr hj
    -- what is left of the body
    have left : ∀ (x : Nat), x < L r c → (r = [] → x = 0) → (B r x < b % c ↔ x < (if b % c = 0 then 0 else L r (b % c))) := fun x hx hn => by
      by_cases h : b % c = 0
      · rw [if_pos h, h]
        omega
      · rw [if_neg h]
        exact ih (b % c) (by omega) x hn
    have most : (if b % c = 0 then 0 else L r (b % c)) ≤ L r c := by
      by_cases h : b % c = 0
      · rw [if_pos h]
        omega
      · rw [if_neg h]
        cases r with
        | nil => exact Nat.le_refl _
        | cons d s =>
          rcases Nat.lt_or_ge (L (d :: s) c) (L (d :: s) (b % c)) with z | z
          · have q := (ih (b % c) (by omega) (L (d :: s) c) (fun e => by cases e)).mpr z
            have q2 := (ih c hc (L (d :: s) c) (fun e => by cases e)).mp (by omega)
            omega
          · exact z
    have goal : (m / L r c < b / c ∨ (m / L r c = b / c ∧ B r (m % L r c) < b % c)) ↔ (m / L r c < b / c ∨ (m / L r c = b / c ∧ m % L r c < (if b % c = 0 then 0 else L r (b % c)))) := by
      rw [left _ hj nil]
    rw [B_cons, L_cons]
    have h1 := parts_lt (q := m / L r c) (Q := b / c) hB hR
    rw [Nat.mul_comm c] at e2
    rw [e2] at h1
    refine h1.trans (goal.trans ?_)
    generalize hX : (if b % c = 0 then 0 else L r (b % c)) = X at most ⊢
    rw [Nat.mul_comm (L r c)] at e1
    rcases Nat.lt_or_ge X (L r c) with z | z
    · have h2 := parts_lt (q := m / L r c) (Q := b / c) hj z
      rw [e1] at h2
      exact h2.symm
    · have eX : X = L r c := Nat.le_antisymm most z
      rw [eX]
      constructor
      · rintro (a | ⟨a, _⟩)
        · have := Nat.mul_le_mul_right (L r c) a
          rw [Nat.succ_mul] at this
          omega
        · rw [← a]
          omega
      · intro h
        rcases Nat.lt_trichotomy (m / L r c) (b / c) with a | a | a
        · exact .inl a
        · exact .inr ⟨a, hj⟩
        · have := Nat.mul_le_mul_right (L r c) a
          rw [Nat.succ_mul] at this
          omega
/-- boundaries go up -/
theorem up : ∀ (l : List Nat), Fall l → l ≠ [] → ∀ n, B l n < B l (n + 1)
  | [], _, h, _ => absurd rfl h
  | c :: r, f, _, n => by
    have hk := L_pos r f.2.2 c f.1
    have hj := Nat.mod_lt n hk
    have nil : r = [] → n % L r c = 0 := fun e => by
      rw [e]
      show n % 1 = 0
      exact Nat.mod_one n
    have hB : B r (n % L r c) < c := (below r f.2.2 c f.1 _ nil).mpr hj
    have e1 := Nat.div_add_mod n (L r c)
    rw [B_cons, B_cons]
    by_cases h : n % L r c + 1 = L r c
    · have e2 : n + 1 = 0 + L r c * (n / L r c + 1) := by rw [Nat.mul_add]; omega
      have d : (n + 1) / L r c = n / L r c + 1 := by rw [e2, Nat.add_mul_div_left _ _ hk, Nat.zero_div, Nat.zero_add]
      have m : (n + 1) % L r c = 0 := by rw [e2, Nat.add_mul_mod_self_left, Nat.zero_mod]
      rw [d, m, B_zero, Nat.succ_mul]
      omega
    · have e2 : n + 1 = (n % L r c + 1) + L r c * (n / L r c) := by omega
      have d : (n + 1) / L r c = n / L r c := by rw [e2, Nat.add_mul_div_left _ _ hk, Nat.div_eq_of_lt (by omega), Nat.zero_add]
      have m : (n + 1) % L r c = n % L r c + 1 := by rw [e2, Nat.add_mul_mod_self_left, Nat.mod_eq_of_lt (by omega)]
      rw [d, m]
      have hr : r ≠ [] := fun e => h (by rw [e]; show n % 1 + 1 = 1; rw [Nat.mod_one])
      have := up r f.2.2 hr (n % L r c)
      omega
theorem up_lt {l : List Nat} (f : Fall l) (h : l ≠ []) : ∀ {m n : Nat}, m < n → B l m < B l n
  | m, 0, q => absurd q (Nat.not_lt_zero _)
  | m, n + 1, q => by
    rcases Nat.lt_or_ge m n with a | a
    · exact Nat.lt_trans (up_lt f h a) (up l f h n)
    · have e : m = n := by omega
      rw [e]
      exact up l f h n
theorem up_iff {l : List Nat} (f : Fall l) (h : l ≠ []) {m n : Nat} : B l m < B l n ↔ m < n := by
  constructor
  · intro q
    rcases Nat.lt_trichotomy m n with a | a | a
    · exact a
    · rw [a] at q; omega
    · have := up_lt f h a; omega
  · exact up_lt f h
theorem eq_of_lt_iff {a b : Nat} (h : ∀ m, m < a ↔ m < b) : a = b := by
  have h1 := h a
  have h2 := h b
  omega
/-- the boundary with a number has so many up to it -/
theorem L_B {l : List Nat} (f : Fall l) (h : l ≠ []) {n : Nat} (hn : 0 < n) : L l (B l n) = n := by
  have p : 0 < B l n := by
    have := up_lt f h hn
    omega
  refine eq_of_lt_iff fun m => ?_
  rw [← below l f (B l n) p m fun e => absurd e h, up_iff f h]
theorem L_B1 {l : List Nat} (f : Fall l) (h : l ≠ []) {n : Nat} : L l (B l n + 1) = n + 1 := by
  refine eq_of_lt_iff fun m => ?_
  rw [← below l f (B l n + 1) (by omega) m fun e => absurd e h]
  constructor
  · intro q
    rcases Nat.lt_or_ge m (n + 1) with a | a
    · exact a
    · have := up_lt f h (m := n) (n := m) (by omega)
      omega
  · intro q
    rcases Nat.lt_or_ge m n with a | a
    · have := up_lt f h a
      omega
    · have e : m = n := by omega
      rw [e]
      omega
theorem rem_B : ∀ (l : List Nat), Fall l → ∀ n, (l = [] → n = 0) → rem l (B l n) = 0
  | [], _, n, h => by rw [h rfl]; rfl
  | c :: r, f, n, _ => by
    have hk := L_pos r f.2.2 c f.1
    have hj := Nat.mod_lt n hk
    have nil : r = [] → n % L r c = 0 := fun e => by
      rw [e]
      show n % 1 = 0
      exact Nat.mod_one n
    have hB : B r (n % L r c) < c := (below r f.2.2 c f.1 _ nil).mpr hj
    rw [B_cons, rem_cons, Nat.add_comm, Nat.add_mul_mod_self_right, Nat.mod_eq_of_lt hB]
    exact rem_B r f.2.2 _ nil
/-- the first boundary is the least cut -/
theorem B_one : ∀ (l : List Nat), Fall l → ∀ (h : l ≠ []), B l 1 = l.getLast h
  | [], _, h => absurd rfl h
  | [c], _, _ => by
    rw [B_cons]
    show 1 / 1 * c + 0 = c
    omega
  | c :: d :: s, f, _ => by
    have ih := B_one (d :: s) f.2.2 (by simp)
    have lt : (d :: s).getLast (by simp) < c := f.2.1 _ (List.getLast_mem _)
    have k1 : 1 < L (d :: s) c := (below (d :: s) f.2.2 c f.1 1 (fun e => by cases e)).mp (by rw [ih]; exact lt)
    rw [List.getLast_cons (by simp)]
    rw [B_cons, Nat.div_eq_of_lt k1, Nat.mod_eq_of_lt k1, ih]
    omega
theorem last_le : ∀ (l : List Nat), Fall l → ∀ (h : l ≠ []), ∀ d ∈ l, l.getLast h ≤ d
  | [], _, h, _, _ => absurd rfl h
  | [c], _, _, d, hd => by
    have e : d = c := by simpa using hd
    rw [e]
    exact Nat.le_refl _
  | c :: e :: s, f, _, d, hd => by
    rw [List.getLast_cons (by simp)]
    rcases List.mem_cons.mp hd with q | q
    · rw [q]
      exact Nat.le_of_lt (f.2.1 _ (List.getLast_mem _))
    · exact last_le (e :: s) f.2.2 (by simp) d q
theorem L_mono_lt {l : List Nat} (f : Fall l) (h : l ≠ []) {n b : Nat} (hb : B l n < b) : n < L l b := (below l f b (by omega) n fun e => absurd e h).mp hb
end N
namespace N
/-- how many pieces each cut's part makes -/
def cn : List Nat → List Nat
  | [] => []
  | c :: r => L r c :: cn r
theorem cn_len : ∀ l : List Nat, (cn l).length = l.length
  | [] => rfl
  | c :: r => congrArg Nat.succ (cn_len r)
theorem cn_at : ∀ {l : List Nat} {i k : Nat}, (cn l)[i]? = some k → ∃ c, l[i]? = some c ∧ k = L (l.drop (i + 1)) c
  | [], i, k, h => by cases h
  | c :: r, 0, k, h => by
    cases h
    exact ⟨c, rfl, rfl⟩
  | c :: r, i + 1, k, h => by
    obtain ⟨d, a, b⟩ := cn_at (l := r) (i := i) h
    exact ⟨d, a, b⟩
/-- the number of pieces of any body -/
def PC (l : List Nat) (b : Nat) : Nat := if b = 0 then 1 else L l b
def sm : List Nat → Nat → Nat
  | [], _ => 0
  | c :: r, b => b / c * L r c + sm r (b % c)
theorem sm_cons (c : Nat) (r : List Nat) (b : Nat) : sm (c :: r) b = b / c * L r c + sm r (b % c) := by conv => lhs; unfold sm
theorem sm_nil (b : Nat) : sm [] b = 0 := rfl
theorem rem_nil (b : Nat) : rem [] b = b := rfl
theorem sm_zero : ∀ l : List Nat, sm l 0 = 0
  | [] => rfl
  | c :: r => by
    unfold sm
    rw [Nat.zero_div, Nat.zero_mod, Nat.zero_mul, sm_zero r]
theorem L_sm : ∀ (l : List Nat) (b : Nat), 0 < b → L l b = sm l b + (if 0 < rem l b then 1 else 0)
  | [], b, h => by
    unfold L sm rem
    rw [if_pos h]
  | c :: r, b, h => by
    rw [L_cons, rem_cons]
    unfold sm
    by_cases z : b % c = 0
    · rw [if_pos z, z, sm_zero, rem_zero, if_neg (by omega)]
    · rw [if_neg z, L_sm r (b % c) (by omega), Nat.add_assoc]
theorem PC_sm (l : List Nat) (b : Nat) : PC l b = sm l b + (if 0 < rem l b ∨ b = 0 then 1 else 0) := by
  unfold PC
  by_cases h : b = 0
  · rw [if_pos h, if_pos (.inr h), h, sm_zero]
  · rw [if_neg h, L_sm l b (by omega)]
    by_cases z : 0 < rem l b
    · rw [if_pos z, if_pos (.inl z)]
    · rw [if_neg z, if_neg (by omega)]
theorem Fall.drop : ∀ {l : List Nat}, Fall l → ∀ i, Fall (l.drop i)
  | [], _, i => by rw [List.drop_nil]; trivial
  | c :: r, f, 0 => f
  | c :: r, f, i + 1 => f.2.2.drop i
theorem le_B {l : List Nat} (f : Fall l) (h : l ≠ []) : ∀ n, n ≤ B l n
  | 0 => Nat.zero_le _
  | n + 1 => by
    have := le_B f h n
    have := up l f h n
    omega
theorem L_le {l : List Nat} (f : Fall l) {b : Nat} (hb : 0 < b) : L l b ≤ b := by
  cases l with
  | nil => exact hb
  | cons c r =>
    have p := L_pos (c :: r) f b hb
    have q := (below (c :: r) f b hb (L (c :: r) b - 1) fun e => by cases e).mpr (by omega)
    have := le_B f (by simp) (L (c :: r) b - 1)
    omega
theorem dig_rem : ∀ (l : List Nat) (p : Nat), ∃ ds, dig l p = ds ++ [rem l p]
  | [], p => ⟨[], rfl⟩
  | c :: r, p => by
    obtain ⟨ds, e⟩ := dig_rem r (p % c)
    exact ⟨p / c :: ds, by unfold dig; rw [e, rem_cons]; rfl⟩
theorem dig_len : ∀ (l : List Nat) (p : Nat), (dig l p).length = l.length + 1
  | [], p => rfl
  | c :: r, p => congrArg Nat.succ (dig_len r (p % c))
end N
namespace N
theorem fall_snoc : ∀ {l : List Nat} {x : Nat}, Fall l → 0 < x → (∀ d ∈ l, x < d) → Fall (l ++ [x])
  | [], x, _, h, _ => ⟨h, (fun d hd => by cases hd), trivial⟩
  | c :: r, x, f, h, hd => by
    refine ⟨f.1, fun d q => ?_, fall_snoc f.2.2 h fun d q => hd d (List.mem_cons_of_mem _ q)⟩
    rcases List.mem_append.mp q with q | q
    · exact f.2.1 d q
    · rw [List.mem_singleton.mp q]
      exact hd c List.mem_cons_self
end N

end
section
set_option autoImplicit false
set_option linter.all false
namespace N
/-! ## sums of chains, and bodies parted one cut after another -/
def cu (c b : Nat) : List Nat := if h : 0 < c ∧ c < b then c :: cu c (b - c) else [b]
termination_by b
decreasing_by omega
theorem cu_lt {c b : Nat} (h : 0 < c) (h2 : c < b) : cu c b = c :: cu c (b - c) := by
  rw [cu, dif_pos ⟨h, h2⟩]
theorem cu_le {c b : Nat} (h2 : b ≤ c) : cu c b = [b] := by
  rw [cu, dif_neg (by omega)]
def pt : List Nat → List Nat → List Nat
  | [], ss => ss
  | c :: r, ss => pt r (ss.flatMap (cu c))
theorem pt_app : ∀ (l a b : List Nat), pt l (a ++ b) = pt l a ++ pt l b
  | [], a, b => rfl
  | c :: r, a, b => by
    unfold pt
    rw [List.flatMap_append, pt_app r]
theorem pt_cat : ∀ (l m ss : List Nat), pt (l ++ m) ss = pt m (pt l ss)
  | [], m, ss => rfl
  | c :: r, m, ss => pt_cat r m _
theorem pt_lt {c b : Nat} (r : List Nat) (h : 0 < c) (h2 : c < b) : pt (c :: r) [b] = pt r [c] ++ pt (c :: r) [b - c] := by
  show pt r (([b] : List Nat).flatMap (cu c)) = pt r [c] ++ pt r (([b - c] : List Nat).flatMap (cu c))
  rw [← pt_app, List.flatMap_singleton, List.flatMap_singleton, cu_lt h h2]
  rfl
theorem pt_le {c b : Nat} (r : List Nat) (h2 : b ≤ c) : pt (c :: r) [b] = pt r [b] := by
  show pt r (([b] : List Nat).flatMap (cu c)) = pt r [b]
  rw [List.flatMap_singleton, cu_le h2]
theorem cu_mem {c : Nat} (h : 0 < c) : ∀ (b : Nat), ∀ s ∈ cu c b, s ≤ c ∧ s ≤ b ∧ (0 < b → 0 < s) := by
  intro b
  induction b using Nat.strongRecOn with
  | ind b ih =>
    intro s hs
    by_cases h2 : c < b
    · rw [cu_lt h h2] at hs
      rcases List.mem_cons.mp hs with z | z
      · omega
      · have := ih (b - c) (by omega) s z
        omega
    · rw [cu_le (by omega)] at hs
      rw [List.mem_singleton.mp hs]
      omega
theorem cu_sum {c : Nat} (h : 0 < c) : ∀ (b : Nat), (cu c b).sum = b := by
  intro b
  induction b using Nat.strongRecOn with
  | ind b ih =>
    by_cases h2 : c < b
    · rw [cu_lt h h2, List.sum_cons, ih (b - c) (by omega)]
      omega
    · rw [cu_le (by omega)]
      simp
theorem cu_len {c : Nat} (h : 0 < c) (b : Nat) : 0 < (cu c b).length := by
  by_cases h2 : c < b
  · rw [cu_lt h h2]
    simp
  · rw [cu_le (by omega)]
    simp
theorem flat_len {c : Nat} (h : 0 < c) : ∀ ss : List Nat, ss.length ≤ (ss.flatMap (cu c)).length
  | [] => Nat.zero_le _
  | s :: ss => by
    have := flat_len h ss
    have := cu_len h s
    rw [List.flatMap_cons, List.length_append, List.length_cons]
    omega
theorem pt_len : ∀ {l : List Nat}, (∀ c ∈ l, 0 < c) → ∀ ss, ss.length ≤ (pt l ss).length
  | [], _, ss => Nat.le_refl _
  | c :: r, f, ss => Nat.le_trans (flat_len (f c List.mem_cons_self) ss) (pt_len (fun d hd => f d (List.mem_cons_of_mem _ hd)) _)
theorem flat_sum {c : Nat} (h : 0 < c) : ∀ ss : List Nat, (ss.flatMap (cu c)).sum = ss.sum
  | [] => rfl
  | s :: ss => by
    rw [List.flatMap_cons, List.sum_append, cu_sum h, flat_sum h ss, List.sum_cons]
theorem pt_sum : ∀ {l : List Nat}, (∀ c ∈ l, 0 < c) → ∀ ss, (pt l ss).sum = ss.sum
  | [], _, ss => rfl
  | c :: r, f, ss => (pt_sum (fun d hd => f d (List.mem_cons_of_mem _ hd)) _).trans (flat_sum (f c List.mem_cons_self) ss)
theorem pt_bound {m : Nat} : ∀ {l : List Nat}, (∀ c ∈ l, 0 < c) → ∀ ss, (∀ s ∈ ss, s ≤ m) → ∀ s ∈ pt l ss, s ≤ m
  | [], _, ss, h => h
  | c :: r, f, ss, h => pt_bound (l := r) (fun d hd => f d (List.mem_cons_of_mem _ hd)) _ fun s hs => by
    obtain ⟨b, hb, hs⟩ := List.mem_flatMap.mp hs
    have := cu_mem (f c List.mem_cons_self) b s hs
    have := h b hb
    omega
theorem pt_pos : ∀ {l : List Nat}, (∀ c ∈ l, 0 < c) → ∀ ss, (∀ s ∈ ss, 0 < s) → ∀ s ∈ pt l ss, 0 < s
  | [], _, ss, h => h
  | c :: r, f, ss, h => pt_pos (l := r) (fun d hd => f d (List.mem_cons_of_mem _ hd)) _ fun s hs => by
    obtain ⟨b, hb, hs⟩ := List.mem_flatMap.mp hs
    exact (cu_mem (f c List.mem_cons_self) b s hs).2.2 (h b hb)
theorem pt_cuts : ∀ {l : List Nat}, (∀ c ∈ l, 0 < c) → ∀ ss, ∀ c ∈ l, ∀ s ∈ pt l ss, s ≤ c
  | [], _, ss, c, h => by cases h
  | c :: r, f, ss, d, hd => by
    rcases List.mem_cons.mp hd with z | z
    · subst z
      exact pt_bound (l := r) (fun d hd => f d (List.mem_cons_of_mem _ hd)) _ fun s hs => by
        obtain ⟨b, hb, hs⟩ := List.mem_flatMap.mp hs
        exact (cu_mem (f d List.mem_cons_self) b s hs).1
    · exact pt_cuts (l := r) (fun d hd => f d (List.mem_cons_of_mem _ hd)) _ d z
theorem flat_id {c : Nat} : ∀ {ss : List Nat}, (∀ s ∈ ss, s ≤ c) → ss.flatMap (cu c) = ss
  | [], _ => rfl
  | s :: ss, h => by
    rw [List.flatMap_cons, cu_le (h s List.mem_cons_self), flat_id fun t ht => h t (List.mem_cons_of_mem _ ht)]
    rfl
/-- cuts that are not less than all stretches do nothing -/
theorem pt_idle {m : Nat} : ∀ {l : List Nat}, (∀ c ∈ l, 0 < c) → ∀ ss, (∀ s ∈ ss, s ≤ m) → pt l ss = pt (l.filter fun d => decide (d < m)) ss
  | [], _, ss, h => rfl
  | c :: r, f, ss, h => by
    have f2 : ∀ d ∈ r, 0 < d := fun d hd => f d (List.mem_cons_of_mem _ hd)
    by_cases hc : c < m
    · rw [List.filter_cons_of_pos (by simpa using hc)]
      exact pt_idle f2 _ fun s hs => by
        obtain ⟨b, hb, hs⟩ := List.mem_flatMap.mp hs
        have := cu_mem (f c List.mem_cons_self) b s hs
        have := h b hb
        omega
    · rw [List.filter_cons_of_neg (by simpa using hc)]
      show pt r (ss.flatMap (cu c)) = _
      rw [flat_id fun s hs => by have := h s hs; omega]
      exact pt_idle f2 ss h
/-! ### the pieces of a chain, by its boundaries -/
theorem L_lt {c b : Nat} (r : List Nat) (h : 0 < c) (h2 : c < b) : L (c :: r) b = L r c + L (c :: r) (b - c) := by
  obtain ⟨d, rfl⟩ : ∃ d, b = d + c := ⟨b - c, by omega⟩
  rw [Nat.add_sub_cancel, L_cons, L_cons, Nat.add_div_right _ h, Nat.add_mod_right, Nat.succ_mul]
  omega
theorem B_ge {c k : Nat} (r : List Nat) (h : 0 < L r c) (h2 : L r c ≤ k) : B (c :: r) k = c + B (c :: r) (k - L r c) := by
  obtain ⟨d, rfl⟩ : ∃ d, k = d + L r c := ⟨k - L r c, by omega⟩
  rw [Nat.add_sub_cancel, B_cons, B_cons, Nat.add_div_right _ h, Nat.add_mod_right, Nat.succ_mul]
  omega
theorem B_lt {c k : Nat} (r : List Nat) (h2 : k < L r c) : B (c :: r) k = B r k := by
  rw [B_cons, Nat.div_eq_of_lt h2, Nat.mod_eq_of_lt h2]
  omega
theorem L_le1 {c b : Nat} {r : List Nat} (h0 : 0 < b) (h : b ≤ c) : L (c :: r) b = L r b := by
  rw [L_cons]
  by_cases e : b = c
  · subst e
    rw [Nat.div_self h0, Nat.mod_self, if_pos rfl]
    omega
  · rw [Nat.div_eq_of_lt (by omega), Nat.mod_eq_of_lt (by omega), if_neg (by omega)]
    omega
theorem pt_L : ∀ (l : List Nat), Fall l → ∀ b, 0 < b → (pt l [b]).length = L l b ∧ ∀ k, k < L l b → ((pt l [b]).take k).sum = B l k
  | [], _, b, hb => ⟨rfl, fun k hk => by
    have : k = 0 := by
      have : k < 1 := hk
      omega
    subst this
    rfl⟩
  | c :: r, f, b, hb => by
    induction b using Nat.strongRecOn with
    | ind b ih =>
      by_cases h : c < b
      · obtain ⟨a1, a2⟩ := pt_L r f.2.2 c f.1
        have c0 := f.1
        obtain ⟨b1, b2⟩ := ih (b - c) (by omega) (by omega)
        have lp := L_pos r f.2.2 c f.1
        rw [pt_lt r f.1 h, L_lt r f.1 h]
        refine ⟨by rw [List.length_append, a1, b1], fun k hk => ?_⟩
        rw [List.take_append, a1, List.sum_append]
        by_cases hk2 : k < L r c
        · rw [a2 k hk2, B_lt r hk2, show k - L r c = 0 by omega]
          simp
        · rw [List.take_of_length_le (by omega), pt_sum f.2.2.pos, b2 (k - L r c) (by omega), B_ge (k := k) r lp (by omega)]
          simp
      · obtain ⟨a1, a2⟩ := pt_L r f.2.2 b hb
        rw [pt_le r (by omega), L_le1 hb (by omega)]
        refine ⟨a1, fun k hk => ?_⟩
        rw [a2 k hk, B_lt r]
        by_cases e : b = c
        · rw [← e]
          exact hk
        · by_cases hr : r = []
          · rw [hr] at hk ⊢
            exact hk
          · have q := (below r f.2.2 b hb k fun e => absurd e hr).mpr hk
            exact L_mono_lt f.2.2 hr (by omega)
theorem pt_at {l : List Nat} (f : Fall l) {b i : Nat} (hb : 0 < b) (h : i < L l b) : ∃ x, (pt l [b])[i]? = some x ∧ x + B l i = if i + 1 < L l b then B l (i + 1) else b := by
  obtain ⟨a1, a2⟩ := pt_L l f b hb
  have hi : i < (pt l [b]).length := by omega
  refine ⟨(pt l [b])[i], List.getElem?_eq_getElem hi, ?_⟩
  have s1 : ((pt l [b]).take (i + 1)).sum = ((pt l [b]).take i).sum + (pt l [b])[i] := by
    rw [List.take_succ, List.getElem?_eq_getElem hi, List.sum_append]
    simp
  rw [a2 i h] at s1
  by_cases e : i + 1 < L l b
  · rw [if_pos e]
    rw [a2 (i + 1) e] at s1
    omega
  · rw [if_neg e]
    rw [List.take_of_length_le (by omega), pt_sum f.pos] at s1
    simp at s1
    omega
/-! ### sums -/
def lo (l : List Nat) : Nat := l.foldl min 1001
theorem lt_foldl {d : Nat} : ∀ (l : List Nat) (m : Nat), d < l.foldl min m ↔ d < m ∧ ∀ x ∈ l, d < x
  | [], m => by simp
  | x :: l, m => by
    rw [List.foldl_cons, lt_foldl l]
    constructor
    · rintro ⟨h1, h2⟩
      exact ⟨by omega, fun y hy => by
        rcases List.mem_cons.mp hy with z | z
        · omega
        · exact h2 y z⟩
    · rintro ⟨h1, h2⟩
      have := h2 x List.mem_cons_self
      exact ⟨by omega, fun y hy => h2 y (List.mem_cons_of_mem _ hy)⟩
theorem lt_lo {d : Nat} {l : List Nat} : d < lo l ↔ d < 1001 ∧ ∀ x ∈ l, d < x := lt_foldl l 1001
def add (a b : List Nat) : List Nat := a ++ b.filter fun d => decide (d < lo a)
theorem add_assoc' (a b c : List Nat) : add (add a b) c = add a (add b c) := by
  unfold add
  rw [List.filter_append, List.filter_filter, List.append_assoc]
  congr 2
  refine List.filter_congr fun d hd => ?_
  rw [Bool.eq_iff_iff]
  simp only [Bool.and_eq_true, decide_eq_true_eq]
  rw [lt_lo, lt_lo, lt_lo]
  constructor
  · rintro ⟨h1, h2⟩
    have ha : ∀ x ∈ a, d < x := fun x hx => h2 x (List.mem_append_left _ hx)
    refine ⟨⟨h1, ha⟩, h1, fun x hx => ?_⟩
    by_cases e : x < lo a
    · exact h2 x (List.mem_append_right _ (List.mem_filter.mpr ⟨hx, decide_eq_true e⟩))
    · have := lt_lo.mpr ⟨h1, ha⟩
      omega
  · rintro ⟨⟨h1, ha⟩, _, hb⟩
    refine ⟨h1, fun x hx => ?_⟩
    rcases List.mem_append.mp hx with z | z
    · exact ha x z
    · exact hb x (List.mem_filter.mp z).1
theorem add_nil (a : List Nat) : add a [] = a := List.append_nil a
theorem add_self (a : List Nat) : add a a = a := by
  unfold add
  rw [List.filter_eq_nil_iff.mpr fun x hx => ?_, List.append_nil]
  intro z
  have := (lt_lo.mp (of_decide_eq_true z)).2 x hx
  omega
theorem nil_add {a : List Nat} (h : ∀ c ∈ a, c ≤ 1000) : add [] a = a := by
  unfold add
  rw [List.nil_append]
  exact List.filter_eq_self.mpr fun x hx => decide_eq_true (by
    have := h x hx
    show x < 1001
    omega)
theorem Fall.filter {p : Nat → Bool} : ∀ {l : List Nat}, Fall l → Fall (l.filter p)
  | [], _ => trivial
  | c :: r, f => by
    by_cases h : p c = true
    · rw [List.filter_cons_of_pos h]
      exact ⟨f.1, fun d hd => f.2.1 d (List.mem_filter.mp hd).1, f.2.2.filter⟩
    · rw [List.filter_cons_of_neg h]
      exact f.2.2.filter
theorem Fall.append : ∀ {a b : List Nat}, Fall a → Fall b → (∀ d ∈ b, ∀ x ∈ a, d < x) → Fall (a ++ b)
  | [], b, _, fb, _ => fb
  | c :: r, b, fa, fb, h => ⟨fa.1, fun d hd => by
      rcases List.mem_append.mp hd with z | z
      · exact fa.2.1 d z
      · exact h d z c List.mem_cons_self, fa.2.2.append fb fun d hd x hx => h d hd x (List.mem_cons_of_mem _ hx)⟩
theorem add_fall {a b : List Nat} (fa : Fall a) (fb : Fall b) : Fall (add a b) :=
  fa.append fb.filter fun d hd x hx => (lt_lo.mp (of_decide_eq_true (List.mem_filter.mp hd).2)).2 x hx
theorem add_le {a b : List Nat} (ha : ∀ c ∈ a, c ≤ 1000) (hb : ∀ c ∈ b, c ≤ 1000) : ∀ c ∈ add a b, c ≤ 1000 := fun c hc => by
  rcases List.mem_append.mp hc with z | z
  · exact ha c z
  · exact hb c (List.mem_filter.mp z).1
theorem add_len (a b : List Nat) : (add a b).length ≤ a.length + b.length := by
  unfold add
  rw [List.length_append]
  have := List.length_filter_le (fun d => decide (d < lo a)) b
  omega
/-- the law's own test -/
theorem lo_last {a : List Nat} (fa : Fall a) {d : Nat} (hd : d ≤ 1000) : (d < lo a) ↔ (a = [] ∨ ∃ x, a.getLast? = some x ∧ d < x) := by
  rw [lt_lo]
  by_cases h : a = []
  · subst h
    simp
    omega
  · rw [List.getLast?_eq_some_getLast h]
    constructor
    · rintro ⟨_, h2⟩
      exact .inr ⟨_, rfl, h2 _ (List.getLast_mem h)⟩
    · rintro (z | ⟨x, e, z⟩)
      · exact absurd z h
      · cases e
        exact ⟨by omega, fun y hy => by have := last_le a fa h y hy; omega⟩
/-- what is parted by both -/
theorem pt_add {a b : List Nat} (fa : Fall a) (fb : Fall b) (hb : ∀ c ∈ b, c ≤ 1000) (n : Nat) : pt (add a b) [n] = pt b (pt a [n]) := by
  unfold add
  rw [pt_cat]
  by_cases h : a = []
  · subst h
    have := nil_add hb
    unfold add at this
    rw [List.nil_append] at this
    rw [this]
  · have e : ∀ s ∈ pt a [n], s ≤ a.getLast h := pt_cuts fa.pos [n] _ (List.getLast_mem h)
    rw [pt_idle fb.pos _ e]
    congr 1
    refine List.filter_congr fun d hd => ?_
    rw [decide_eq_decide, lo_last fa (hb d hd), List.getLast?_eq_some_getLast h]
    constructor
    · rintro (z | ⟨x, e, z⟩)
      · exact absurd z h
      · cases e
        exact z
    · exact fun z => .inr ⟨_, rfl, z⟩
theorem add_more {a b : List Nat} (fa : Fall a) (fb : Fall b) (hb : ∀ c ∈ b, c ≤ 1000) {n : Nat} (hn : 0 < n) : L a n ≤ L (add a b) n := by
  rw [← (pt_L a fa n hn).1, ← (pt_L _ (add_fall fa fb) n hn).1, pt_add fa fb hb]
  exact pt_len fb.pos _
end N

end
section
set_option Elab.async false
set_option linter.all false
set_option maxRecDepth 100000
set_option maxHeartbeats 4000000
/-! ## G: defs that are entered with no repr under way (guards known), so that repr of containers can be told -/
namespace G
open PySem PySem.Spec PyProof.Rows L2

/-- a def's promise, kept where no repr is under way -/
structure Ok (P : Program) (w : World) (K : PySem.W.Frag) (mg : Str → Option Value) (base : Heap) (CX : CXT) (k : Nat) (f : Addr) (fd : FuncData) (ps : List Str) (sp : Sp) : Prop where
  len : ∀ vs H Q E, sp vs H Q E → vs.length = ps.length
  go : ∀ (A : Around), A.guards = some [] → ∀ (outer : List Env) (s : Shared) (H : Hp) (args : Args) (us : List Value) (vs : List V) (Q : VK) (E : XK),
    Room k A → Env0 P w K mg base A outer s H → BindsTo s fd args (ps.zip us) → Vals vs us → sp vs H Q E → codeAny (model P w) A (.call (.ref f) args) (CR CX outer P w H s Q E) s
section
variable {P : Program} {w : World} {K : PySem.W.Frag} {mg : Str → Option Value} {base : Heap} {CX : CXT}
theorem Ok.mono {j k : Nat} {f : Addr} {fd : FuncData} {ps : List Str} {sp : Sp} (F : Ok P w K mg base CX j f fd ps sp) (h : j ≤ k) : Ok P w K mg base CX k f fd ps sp :=
  ⟨F.len, fun A hg outer s H args us vs Q E hr => F.go A hg outer s H args us vs Q E (hr.mono h)⟩
theorem Ok.of {k : Nat} {f : Addr} {fd : FuncData} {ps : List Str} {sp : Sp} (F : FnOk P w K mg base CX k f fd ps sp) : Ok P w K mg base CX k f fd ps sp :=
  ⟨F.len, fun A _ => F.run A⟩

theorem mk {k : Nat} {x qual : Str} {st : Stmt} {f : Addr} {fd : FuncData} {N ps : List Str} {sp : Sp} (F : Fun K x qual st f fd) (S : FnScope N ps (defScope st)) (len : ∀ vs H Q E, sp vs H Q E → vs.length = ps.length)
    (walk : ∀ (cdv : Value) (A : Around) (outer : List Env) (s : Shared) (H : Hp) (vs : List V) (Q : VK) (E : XK), A.guards = some [] → Room k (A.deeper (envOfC qual (defScope st) s.heap.objs.size f cdv)) → sp vs H Q E →
      ∃ t, PSs (cxOf CX P w K mg base N qual (defScope st) f cdv A outer s H E).nox (defBody st) t ∧ t { nx := fun _ H' => Q .non H', rt := Q } (start N vs) H) :
    Ok P w K mg base CX (k + 1) f fd ps sp := by
  refine ⟨len, ?_⟩
  obtain ⟨oc, od, kV, doc, pm, an, cdv, ct, osl, hfd, lk, cd⟩ := F.ex
  intro A hg outer s H args us vs Q E hr e0 hb rv hsp
  subst hfd
  have stay : ∀ b o, base.get? b = some o → s.heap.get? b = some o := fun b o e => (e0.bs b o e).1
  have KX : K.In s.heap := e0.mod.kin.keeps stay
  have par : ∀ y ∈ ps.zip us, (defScope st).names.lookup y.1 = some .local ∨ ((defScope st).names.lookup y.1 = some .cell ∧ ((cellsFrom (s.heap.objs.size + 1) (defScope st).names []).lookup y.1).isSome = true) := by
    rintro ⟨n, v⟩ hy
    cases S.par n (List.of_mem_zip hy).1 with
    | inl q => exact .inl q
    | inr q => exact .inr ⟨q, PySem.W.cellsFrom_some _ _ _ (.inl q)⟩
  refine codeAny_call_function hr.depth (KX _ _ lk) rfl S.co S.gen rfl (PySem.W.codeRec_of KX cd) (hb _ _ _ _ (wpAny_newFunctionEnv_cells S.kind par ?_))
  intro env he s1 x
  subst he
  refine ⟨(e0.mod.nolimit.keeps stay).keeps x.toInCall.keep, codeAny_func ?_⟩
  obtain ⟨t, ht, hq⟩ := walk cdv A outer s H vs Q E hg (hr.deeper _) hsp
  refine wpAny_mono (ht.nox.run [] s1 (start N vs) H _ (inv_start S hr.hd e0 (len _ _ _ _ hsp) rv x) hq) ?_ fun e s' hs => hs
  intro fl s' hs
  cases fl with
  | ret u => obtain ⟨v, σ', H', J, ru, q⟩ := hs; exact ⟨v, H', J.os, J.bare, J.base, J.hok, ru, q⟩
  | next => obtain ⟨σ', H', J, q⟩ := hs; exact ⟨.non, H', J.os, J.bare, J.base, J.hok, rfl, q⟩
  | brk => obtain ⟨_, _, _, q⟩ := hs; exact q.elim
  | cont => obtain ⟨_, _, _, q⟩ := hs; exact q.elim

/-- the law's entry: callerA has no guard -/
theorem enter {mb : Str → Option Value} {k : Nat} {fa a : Addr} {fd : FuncData} {x : Str} {sp : Sp} {s₁ : Shared} {vs : List Value} {H : Hp}
    (KX : K.In s₁.heap) (hns : s₁.heap.Ns mainGlobals mg) (hb : s₁.heap.Ns builtinsNs mb) (hbb : ∀ x : Str, x ≠ "__name__" → mb x = bootBuiltins x) (hlim : s₁.heap.NoLimit) (hgen : s₁.gens = #[])
    (ha : s₁.heap.get? a = some { cls := .type "list", data := .seq vs.toArray }) (hr : Room k callerA)
    (F : ∀ base : Heap, K.In base → base.Ns mainGlobals mg → Ok P w K mg base CX k fa fd [x] sp) (hbind : ∀ (s : Shared) (u : Value), BindsTo s fd ⟨[u], []⟩ [(x, u)])
    (hO : Only H) (hok : HOk P w H s₁.heap) (only_a : ∀ b o, H b = some o → b = a) (notK : (∃ o, H a = some o) → K.lookup a = none)
    (hsp : sp [.ref a] H (fun v _ => v = .bl true) fun _ _ _ => False) (hCX : ∀ H e s', CX [] H s₁ (fun _ _ _ => False) e s' → False) :
    codeAny (model P w) callerA (.call (.ref fa) ⟨[.ref a], []⟩) (fun r s' => r = .ok (.ret (.bool true)) ∧ OldK s₁.heap s'.heap ∧ s'.os = s₁.os ∧ AllBare s'.gens) s₁ := by
  have free : ∀ {b : Addr}, b ≠ a → H b = none := fun {b} hne => by
    cases q : H b with
    | none => rfl
    | some u => exact absurd (only_a b u q) hne
  have dic : ∀ {b : Addr} {m : Str → Option Value}, s₁.heap.Ns b m → (hidT s₁.heap H).Ns b m := by
    rintro b m ⟨o, es, ep, e, d, r⟩
    refine ⟨o, es, ep, hidT_get e (free ?_), d, r⟩
    rintro rfl
    rw [ha] at e
    cases e
    cases d
  have kin : K.In (hidT s₁.heap H) := by
    intro b o e
    refine hidT_get (KX b o e) ?_
    cases q : H b with
    | none => rfl
    | some u =>
      have hba := only_a b u q
      subst hba
      rw [notK ⟨u, q⟩] at e
      cases e
  obtain ⟨mc, l1, l2⟩ := hlim
  have e0 : Env0 P w K mg (hidT s₁.heap H) callerA [] s₁ H :=
    { frames := rfl, mod := ⟨kin, dic hns, ⟨mb, dic hb, hbb⟩, ⟨mc, dic l1, l2⟩⟩, bs := fun b o e => of_hidT e, bsz := Nat.le_of_eq (hidT_size _ _), funs := trivial, frf := fun b z => (List.not_mem_nil z).elim, hok := hok, bare := .of_eq hgen }
  refine codeAny_mono ((F _ kin (dic hns)).go callerA rfl [] s₁ H _ [.ref a] _ _ _ hr e0 (hbind s₁ (.ref a)) (.cons (show RelV (.ref a) (.ref a) from rfl) .nil) hsp) ?_
  intro r s' h
  match r, h with
  | .error e, h => exact (hCX H e s' h).elim
  | .ok .next, h => exact h.elim
  | .ok .brk, h => exact h.elim
  | .ok .cont, h => exact h.elim
  | .ok (.ret u), ⟨v, H', os, bare, un, hok', rv, q⟩ =>
    cases (q : v = .bl true)
    cases (rv : u = .bool true)
    refine ⟨rfl, OldK.of_keep fun b o e => ?_, os, bare⟩
    by_cases q : H b = none
    · exact un.keep b o e q List.not_mem_nil List.not_mem_nil
    · rcases hO b with z | ⟨ob, xs, z⟩
      · exact absurd z q
      · have k1 := (hok b _ z).1
        rw [e] at k1
        cases k1
        exact (hok' b _ (un.frzs b _ _ z)).1

theorem walk {l : PySem.W.OpenLaw} {n k : Nat} {q : Program} {loose : List Str} {XP : (Str → Option Value) → Heap → Prop} {YP : World → Heap → Prop} {d : DefRec} {K : Params → PySem.W.Frag} {sp : PySem.W.Frag → Sp} {x : Str}
    (hn : l.most = some n) (hn2 : n ≤ sizeLine) (hdf : d.params.defaults = []) (hr : Room k callerA) (hY : ∀ (w : World) (h : Heap), YP w h → (K w.params).In h)
    (F : ∀ (w : World) (mg : Str → Option Value) (fa : Addr) (h : Heap), (K w.params).In h → h.Ns mainGlobals mg → mg d.name = some (.ref fa) →
      ∃ fd : FuncData, (∀ (s : Shared) (u : Value), BindsTo s fd ⟨[u], []⟩ [(x, u)]) ∧ ∀ base : Heap, (K w.params).In base → base.Ns mainGlobals mg → Ok l.prog w (K w.params) mg base CX0 k fa fd [x] (sp (K w.params)))
    (hsp : ∀ (K : PySem.W.Frag) (H : Hp) (a : Addr) (ns : List Int), ns.length ≤ n → (∀ z ∈ ns, Builtin.Int.intBits z ≤ 1048576) → SqL K H a (ns.map V.int) → sp K [.ref a] H (fun v _ => v = .bl true) fun _ _ _ => False) :
    PySem.W.WalkO q loose XP YP l.row.toRowW d [] (fun f vs => PySem.call f vs) := by
  refine Att.attach_callB hn hdf ?_
  intro w s₀ s₁ mg mb fa o pm cd doc a vs ns G Y ho hd hcd hmg hobj hints hlen hbits hg
  have KX := hY w _ Y
  obtain ⟨fd, hb, hF⟩ := F w mg fa _ KX G.T.g hmg
  have rv := vals_ints hints
  have zl : ns.length ≤ sizeLine := Nat.le_trans hlen hn2
  have wish := fun (H : Hp) (S : SqL (K w.params) H a (ns.map V.int)) => hsp (K w.params) H a ns hlen hbits S
  by_cases hk : (K w.params).lookup a = none
  · refine enter (H := fun b => if b = a then some (.frz { cls := .type "list", data := .seq vs.toArray } (.lst (ns.map V.int))) else none) KX G.T.g G.T.b G.T.builtins G.T.nolimit hg hobj hr hF hb ?_ ?_ ?_ (fun _ => hk) (wish _ ?_) fun _ _ _ z => z
    · intro b
      by_cases e : b = a
      · exact .inr ⟨_, _, if_pos e⟩
      · exact .inl (if_neg e)
    · intro b o e
      by_cases z : b = a
      · subst z
        cases (if_pos rfl).symm.trans e
        exact ⟨hobj, by rw [List.length_map]; exact zl, vs, _, rv, hobj⟩
      · cases (if_neg z).symm.trans e
    · intro b o e
      by_cases z : b = a
      · exact z
      · cases (if_neg z).symm.trans e
    · exact .inl (.inr ⟨_, if_pos rfl⟩)
  · obtain ⟨o, ek⟩ := Option.ne_none_iff_exists'.mp hk
    have eo := (KX a o ek).symm.trans hobj
    cases eo
    refine enter (H := fun _ => none) KX G.T.g G.T.b G.T.builtins G.T.nolimit hg hobj hr hF hb (fun _ => .inl rfl) (fun b o e => nomatch e) (fun b o e => nomatch e) (fun ⟨o, e⟩ => nomatch e) (wish _ ?_) fun _ _ _ z => z
    refine .inr ⟨_, vs.toArray, _, ek, rfl, rfl, rfl, ?_, by simpa using rv⟩
    rw [List.size_toArray, hints.length]
    exact zl
end
end G

end
section
set_option Elab.async false
set_option linter.all false
set_option maxRecDepth 100000
set_option maxHeartbeats 4000000
/-! ## repr of containers; int ** int of great ints -/
namespace G
open PySem PySem.Spec PyProof.Rows L2
mutual
/-- data at a value: as it is read off the abstract heap; lists and no dict (true), or dicts and no list (false) -/
inductive Dr (K : PySem.W.Frag) (H : Hp) : Bool → V → PyData → Prop
  | non {m : Bool} : Dr K H m .non .none
  | bl {m : Bool} (b : Bool) : Dr K H m (.bl b) (.bool b)
  | int {m : Bool} (i : Int) : Dr K H m (.int i) (.int i)
  | str {m : Bool} (x : Str) : Dr K H m (.str x) (.str x)
  | lst {a : Addr} {xs : List V} {ds : List PyData} : SqL K H a xs → DrA K H true xs ds → Dr K H true (.ref a) (.list ds)
  | tup {m : Bool} {a : Addr} {xs : List V} {ds : List PyData} : SqT K H a xs → DrA K H m xs ds → Dr K H m (.ref a) (.tuple ds)
inductive DrA (K : PySem.W.Frag) (H : Hp) : Bool → List V → List PyData → Prop
  | nil {m : Bool} : DrA K H m [] []
  | cons {m : Bool} {v : V} {vs : List V} {d : PyData} {ds : List PyData} : Dr K H m v d → DrA K H m vs ds → DrA K H m (v :: vs) (d :: ds)
end
theorem DrA.len {K : PySem.W.Frag} {H : Hp} {m : Bool} : ∀ {vs : List V} {ds : List PyData}, DrA K H m vs ds → vs.length = ds.length
  | _, _, .nil => rfl
  | _, _, .cons _ t => congrArg Nat.succ (DrA.len t)
mutual
theorem Dr.noDict {K : PySem.W.Frag} {H : Hp} : ∀ (d : PyData) (v : V), Dr K H true v d → d.hasDict = false
  | .none, _, _ => by simp only [PyData.hasDict]
  | .bool _, _, _ => by simp only [PyData.hasDict]
  | .int _, _, _ => by simp only [PyData.hasDict]
  | .str _, _, _ => by simp only [PyData.hasDict]
  | .list ds, _, h => by
    cases h with
    | lst _ ha => simp only [PyData.hasDict]; exact DrA.noDict ds _ ha
  | .tuple ds, _, h => by
    cases h with
    | tup _ ha => simp only [PyData.hasDict]; exact DrA.noDict ds _ ha
  | .dict _, _, h => by cases h
theorem DrA.noDict {K : PySem.W.Frag} {H : Hp} : ∀ (ds : List PyData) (vs : List V), DrA K H true vs ds → PyData.hasDictAll ds = false
  | [], _, _ => by simp only [PyData.hasDictAll]
  | d :: ds, _, h => by
    cases h with
    | cons a b => simp only [PyData.hasDictAll, Dr.noDict d _ a, DrA.noDict ds _ b, Bool.or_self]
end
section
variable {X : Cx} {pins : List (Addr × Obj)} {σ : L2.St} {H : Hp} {s : Shared}
mutual
theorem Dr.reads (I : Inv X pins σ H s) {m : Bool} : ∀ (d : PyData) (v : V) (u : Value), Dr X.K H m v d → RelV v u → ∃ as, Reads s.heap u d as ∧ (m = false → sysModules ∉ as)
  | .none, _, _, h, r => by
    cases h
    cases r
    exact ⟨_, Reads.none, fun _ => List.not_mem_nil⟩
  | .bool b, _, _, h, r => by
    cases h
    cases r
    exact ⟨_, Reads.bool b, fun _ => List.not_mem_nil⟩
  | .int i, _, _, h, r => by
    cases h
    obtain ⟨t, rfl⟩ := r
    exact ⟨_, Reads.int i t, fun _ => List.not_mem_nil⟩
  | .str x, _, _, h, r => by
    cases h
    obtain ⟨t, rfl⟩ := r
    exact ⟨_, Reads.str x t, fun _ => List.not_mem_nil⟩
  | .list ds, _, _, h, r => by
    cases h with
    | @lst a xs _ hs ha =>
      cases r
      obtain ⟨its, rv, ⟨o, n, ho, hc, _, hd⟩, _⟩ := I.list hs
      obtain ⟨as, hr, hn⟩ := DrA.reads I ds _ its ha rv
      exact ⟨_, Reads.list ho hc hd hr, fun z => by cases z⟩
  | .tuple ds, _, _, h, r => by
    cases h with
    | tup hs ha =>
      cases r
      obtain ⟨its, rv, ⟨o, ho, hc, n, hd⟩, _⟩ := I.tuple hs
      obtain ⟨as, hr, hn⟩ := DrA.reads I ds _ its ha rv
      exact ⟨_, Reads.tuple ho hc hd hr, hn⟩
  | .dict kds, _, _, h, r => by cases h
theorem DrA.reads (I : Inv X pins σ H s) {m : Bool} : ∀ (ds : List PyData) (vs : List V) (us : List Value), DrA X.K H m vs ds → Vals vs us → ∃ as, ReadsAll s.heap us ds as ∧ (m = false → sysModules ∉ as)
  | [], _, _, h, r => by
    cases h
    cases r
    exact ⟨_, ReadsAll.nil, fun _ => List.not_mem_nil⟩
  | d :: ds, _, _, h, r => by
    cases h with
    | cons h1 h2 =>
      cases r with
      | cons r1 r2 =>
        obtain ⟨as, q1, n1⟩ := Dr.reads I d _ _ h1 r1
        obtain ⟨bs, q2, n2⟩ := DrA.reads I ds _ _ h2 r2
        exact ⟨_, ReadsAll.cons q1 q2, fun e z => (List.mem_append.mp z).elim (n1 e) (n2 e)⟩
end
end
/-- repr of a list that is not empty: what is read below it is none of the interpreter's own dict -/
theorem repr_top {prog : Program} {w : World} {A : Around} {E : Value → Shared → Prop} {s : Shared} {a : Addr} {o : Obj} {v : Value} {vs : List Value} {n : Nat} {ds : List PyData} {as : List Addr} {Q : Value → Shared → Prop} (ho : s.heap.get? a = some o) (hc : o.cls = .type "list") (hd : o.data = .seq (v :: vs).toArray n)
    (hr : ReadsAll s.heap (v :: vs) ds as) (hn : sysModules ∉ as) (hs : PyData.showableAll ds = true) (hg : A.guards = some []) (hu : A.units + ((PyData.list ds).depth + 1) < cLine) (hz : (PyData.list ds).shown.length ≤ sizeLine)
    (hQ : ∀ h' u tk, (∀ b o, s.heap.get? b = some o → h'.get? b = some o) → Q (.str (PyData.list ds).shown u) { s with heap := h', toks := tk }) : wpAny (model prog w) A (call (.builtin "repr") [.ref a]) Q E s := by
  have depth : (PyData.list ds).depth = PyData.depthAll ds + 1 := by simp only [PyData.depth]
  have text : (PyData.list ds).shown = listText (PyData.shownAll ds) := by simp only [PyData.shown]
  rw [text] at hz
  rw [depth] at hu
  obtain ⟨bs, most, items⟩ := ReprAllK.of_readsAll (prog := prog) (w := w) hr hs (fun _ => hn) (fun t ht => Nat.le_trans (listText_mem_le ht) hz)
  have apart : a ∉ bs := not_mem_of_deeper (.list ho hc hd (by simpa using hr)) (by rw [depth]; omega) most
  refine call_repr_slot (by omega) ⟨o, ho, hc⟩ F.slot_list_repr.toG ?_
  refine call_list_reprK ho hc hd apart (by simpa using items.length_eq) (fun i y e => items.item i y (by simpa using e)) hg (fun b _ => Clear.nil b) (by show A.units + 1 + _ < cLine; omega) (fun _ _ e => e) (fun h' u tk k => ⟨_, _, rfl, ?_⟩) hz
  rw [← text]
  exact hQ h' u tk k
def rRepr (K : PySem.W.Frag) : List V → Hp → VK → Prop := fun xs H Q => ∃ (a : Addr) (m : Bool) (y : V) (ys : List V) (ds : List PyData), xs = [.ref a] ∧ SqL K H a (y :: ys) ∧ DrA K H m (y :: ys) ds ∧ (PyData.list ds).showable = true ∧ (PyData.list ds).depth ≤ 20 ∧ (PyData.list ds).shown.length ≤ sizeLine ∧ Q (.str (PyData.list ds).shown) H
theorem call_repr {X : Cx} (hg : X.A.guards = some []) (hu : X.A.units + 64 < cLine) : CallR X (.builtin "repr") (rRepr X.K) := by
  intro pins s σ H xs us Q I r h
  obtain ⟨a, m, y, ys, ds, rfl, hL, hd, hs, hl, hz, q⟩ := h
  cases r with
  | cons rx rr =>
    cases rr
    cases rx
    have fin : ∀ (h' : Heap) (u : Tok) (tk : Nat), (∀ b o, s.heap.get? b = some o → h'.get? b = some o) → EP X pins σ Q (.str (PyData.list ds).shown u) { s with heap := h', toks := tk } := fun h' u tk k => ⟨.str (PyData.list ds).shown, H, I.kept (t' := tk) k, ⟨u, rfl⟩, q⟩
    obtain ⟨its, rv, ⟨o, n, ho, hc, _, hd'⟩, _⟩ := I.list hL
    obtain ⟨as, hr, hn⟩ := DrA.reads I ds _ its hd rv
    cases m with
    | true =>
      refine repr_of_reads' (.list ho hc hd' hr) hs (fun z => ?_) hg (by omega) (fun _ _ e => e) fin hz
      rw [show (PyData.list ds).hasDict = PyData.hasDictAll ds by simp only [PyData.hasDict], DrA.noDict ds _ hd] at z
      cases z
    | false =>
      cases rv with
      | cons r1 r2 => exact repr_top ho hc hd' hr (hn rfl) (by simpa only [PyData.showable] using hs) hg (by omega) hz fin
def rReprF : List V → Hp → VK → Prop := fun xs H Q => (xs = [.non] ∧ Q (.str "None") H) ∨ (∃ b, xs = [.bl b] ∧ Q (.str (if b then "True" else "False")) H) ∨ ∃ i, xs = [.int i] ∧ i.natAbs.log2 < 1920 ∧ Q (.str (toString i)) H
theorem call_reprF {X : Cx} : CallR X (.builtin "repr") rReprF := by
  intro pins s σ H xs us Q I r h
  rcases h with ⟨rfl, q⟩ | ⟨b, rfl, q⟩ | ⟨i, rfl, hz, q⟩
  · cases r with
    | cons rx rr => cases rr; cases rx; exact PySem.P.repr_of_none ⟨.str _, H, I.tok _, ⟨_, rfl⟩, q⟩
  · cases r with
    | cons rx rr => cases rr; cases rx; exact PySem.P.repr_of_bool ⟨.str _, H, I.tok _, ⟨_, rfl⟩, q⟩
  · cases r with
    | cons rx rr => cases rr; obtain ⟨t, rfl⟩ := rx; exact PySem.P.repr_of_int hz ⟨.str _, H, I.tok _, ⟨_, rfl⟩, q⟩
/-- a ** n, n a small written number, a of any size -/
theorem op_powN {X : Cx} : OpR X (binaryOp .Pow) (rI (fun i j => 0 ≤ j ∧ (Builtin.Int.intBits i : Int) * j ≤ 2 ^ 27) fun i j => .int (i ^ j.toNat)) := opI fun _ _ _ _ _ _ _ hc q => pow_int hc.1 hc.2 q
end G

end
section
set_option Elab.async false
set_option linter.all false
set_option maxRecDepth 100000
set_option maxHeartbeats 4000000
/-! ## max of a list of ints, with and without default= -/
namespace G
open PySem PySem.Spec PyProof.Rows L2 PySem.W
theorem ints_reads {h : Heap} : ∀ {ns : List Int} {us : List Value}, Vals (ns.map V.int) us → ReadsAll h us (ns.map PyData.int) []
  | [], _, r => by cases r; exact .nil
  | n :: ns, _, r => by
    cases r with
    | cons a b =>
      obtain ⟨t, rfl⟩ := a
      exact .cons (as := []) (bs := []) (.int n t) (ints_reads b)
theorem ints_alike : ∀ ns : List Int, AlikeAll (ns.map PyData.int) := by
  intro ns
  refine ⟨fun x hx y hy => ?_, fun x hx => ?_⟩
  · obtain ⟨a, _, rfl⟩ := List.mem_map.mp hx
    obtain ⟨b, _, rfl⟩ := List.mem_map.mp hy
    rfl
  · obtain ⟨a, _, rfl⟩ := List.mem_map.mp hx
    intro z
    cases z
theorem ints_depth : ∀ ns : List Int, PyData.depthAll (ns.map PyData.int) = 0
  | [] => by simp only [List.map_nil, PyData.depthAll]
  | n :: ns => by simp only [List.map_cons, PyData.depthAll, PyData.depth, ints_depth ns, Nat.max_self]
theorem int_reads {h : Heap} {v : Value} {n : Int} {bs : List Addr} (r : Reads h v (.int n) bs) : RelV (.int n) v := by
  cases r
  exact ⟨_, rfl⟩
def rMaxID (K : PySem.W.Frag) : List V → List V → Hp → VK → Prop := fun xs zs H Q => ∃ (a : Addr) (ns : List Int) (d : Int), xs = [.ref a] ∧ zs = [.int d] ∧ SqL K H a (ns.map V.int) ∧ Q (.int (match ns with | [] => d | n :: r => r.foldl max n)) H
section
variable {X : Cx}
theorem call_maxID (hc : X.calm = true) (hu : X.A.units + 64 < cLine) : CallRK X (.builtin "max") ["default"] (rMaxID X.K) := by
  intro pins s σ H xs zs us ws Q I r rz h
  obtain ⟨a, ns, d, rfl, rfl, hL, q⟩ := h
  cases r with
  | cons rx rr =>
    cases rr
    cases rx
    cases rz with
    | cons ra rb =>
      cases rb
      obtain ⟨td, rfl⟩ := ra
      obtain ⟨its, rv, pl, _⟩ := I.list hL
      have hr := ints_reads (h := s.heap) rv
      refine max_list_default (xs := ns.map .int) (d := .int d td) (I.ok.hd hc) pl.isList (by simpa using hr) (ints_alike ns) (by rw [ints_depth]; omega) (fun e h' tk k => ?_) fun y ys i v h' tk bs e hv hR k => ?_
      · cases ns with
        | nil => exact ⟨.int d, H, I.kept (t' := tk) k, ⟨td, rfl⟩, q⟩
        | cons n r => cases e
      · cases ns with
        | nil => cases e
        | cons n r =>
          injection e with e1 e2
          subst e1 e2
          rw [maxD_ints] at hR
          exact ⟨.int _, H, I.kept (t' := tk) k, int_reads hR, q⟩
end
end G

end
section
set_option autoImplicit false
/-! ## ways and what becomes of letters: a mirror, and that a lesser body fares no worse -/
namespace M
inductive LW where
  | cut | tell | drop
  deriving DecidableEq
inductive TW where
  | turn | keep | lose
  deriving DecidableEq
mutual
inductive Way where
  | mk (head : Nat) (steps : List Step)
inductive Step where
  | road (size : Nat) (tellS : Bool) (loose : LW)
  | join (most : Nat)
  | tunnel (w : Way) (most : Nat) (t : TW)
end
def Way.head : Way → Nat
  | .mk h _ => h
def Way.steps : Way → List Step
  | .mk _ s => s
inductive Fate where
  | comes (l : List Nat)
  | told (size : Int) (place : List Nat)
  | silent (place : List Nat)
  deriving DecidableEq
/-- what a step makes of stretches; an end as it is seen from the step -/
def parts (c x : Nat) : List Nat := (List.range ((x + c - 1) / c)).map fun k => min c (x - k * c)
def cutAll (c : Nat) (l : List Nat) : List Nat := l.flatMap (parts c)
def road (h size : Nat) (tellS : Bool) (lw : LW) (sealed : Bool) (l : List Nat) : Fate :=
  if ∀ x ∈ l, x ≤ size - h then .comes l
  else if sealed then (if tellS then .told size [] else .silent [])
  else match lw with
    | .cut => .comes (cutAll (size - h) l)
    | .tell => .told size []
    | .drop => .silent []
def join (most : Nat) (l : List Nat) : Fate := if l.length > most then .silent [] else .comes [l.sum]
def turned (ih : Nat) (t : TW) : Fate → Fate
  | .told s p => if t = .turn then .told (s - ih) p else .silent p
  | .silent p => .silent p
  | .comes _ => .silent []
def seen (i : Nat) : Fate → Fate
  | .told s p => .told s (i :: p)
  | .silent p => .silent (i :: p)
  | .comes l => .comes l
/-- the tunnel, by what the inner way makes of each stretch -/
def tunnel (inner : Nat → Fate) (ih most : Nat) (t : TW) (l : List Nat) : List Nat → Fate
  | [] => .comes l
  | x :: r => match inner x with
    | .comes m => if m.length > most then .silent [] else tunnel inner ih most t l r
    | f => turned ih t f
mutual
def Way.walk (sealed : Bool) : Way → Nat → Fate
  | .mk h steps, b => Way.from sealed h steps 0 [b]
def Way.from (sealed : Bool) (h : Nat) : List Step → Nat → List Nat → Fate
  | [], _, l => .comes l
  | s :: r, i, l => match Step.does sealed h s l with
    | .comes m => Way.from sealed h r (i + 1) m
    | f => seen i f
def Step.does (sealed : Bool) (h : Nat) : Step → List Nat → Fate
  | .road size ts lw, l => road h size ts lw sealed l
  | .join most, l => join most l
  | .tunnel w most t, l => tunnel (fun x => Way.walk sealed w (h + x)) w.head most t l l
end
/-! ### truncation -/
def tr : List Nat → Nat → List Nat
  | _, 0 => []
  | [], _ + 1 => []
  | x :: l, b + 1 => if b + 1 ≤ x then [b + 1] else x :: tr l (b + 1 - x)
theorem tr_zero (l : List Nat) : tr l 0 = [] := by cases l <;> rfl
theorem tr_cons {x b : Nat} {l : List Nat} (hb : 0 < b) : tr (x :: l) b = if b ≤ x then [b] else x :: tr l (b - x) := by
  cases b with
  | zero => omega
  | succ b => rfl
theorem tr_nil (b : Nat) : tr [] b = [] := by cases b <;> rfl
theorem tr_mem : ∀ (l : List Nat) (b x : Nat), x ∈ tr l b → ∃ y ∈ l, x ≤ y
  | [], b, x, h => by rw [tr_nil] at h; cases h
  | y :: l, b, x, h => by
    by_cases hb : 0 < b
    · rw [tr_cons hb] at h
      split at h
      · rename_i hy
        have e : x = b := by simpa using h
        exact ⟨y, List.mem_cons_self, by omega⟩
      · rcases List.mem_cons.mp h with e | e
        · exact ⟨y, List.mem_cons_self, by omega⟩
        · obtain ⟨z, hz, hx⟩ := tr_mem l _ x e
          exact ⟨z, List.mem_cons_of_mem _ hz, hx⟩
    · have e : b = 0 := by omega
      subst e
      rw [tr_zero] at h
      cases h
theorem tr_len : ∀ (l : List Nat) (b : Nat), (tr l b).length ≤ l.length
  | [], b => by rw [tr_nil]; exact Nat.le_refl _
  | y :: l, b => by
    by_cases hb : 0 < b
    · rw [tr_cons hb]
      split
      · simp
      · have := tr_len l (b - y)
        simp; omega
    · have e : b = 0 := by omega
      subst e
      rw [tr_zero]; simp
theorem tr_sum : ∀ (l : List Nat) (b : Nat), b ≤ l.sum → (tr l b).sum = b
  | [], b, h => by rw [tr_nil]; simp at h ⊢; omega
  | y :: l, b, h => by
    by_cases hb : 0 < b
    · rw [tr_cons hb]
      split
      · simp
      · simp at h ⊢
        have := tr_sum l (b - y) (by omega)
        omega
    · have e : b = 0 := by omega
      subst e
      rw [tr_zero]; rfl
theorem tr_all {l : List Nat} (h : ∀ x ∈ l, 0 < x) : tr l l.sum = l := by
  induction l with
  | nil => rfl
  | cons x l ih =>
    have hx := h x List.mem_cons_self
    rw [tr_cons (by simp; omega)]
    cases l with
    | nil => simp
    | cons y r =>
      have hy := h y (by simp)
      rw [if_neg (by simp; omega)]
      have e : (x :: y :: r).sum - x = (y :: r).sum := by simp
      rw [e, ih fun z hz => h z (List.mem_cons_of_mem _ hz)]
theorem tr_append : ∀ (l m : List Nat) (b : Nat), tr (l ++ m) b = if b ≤ l.sum then tr l b else l ++ tr m (b - l.sum)
  | [], m, b => by
    cases b with
    | zero => simp [tr_zero]
    | succ b => simp
  | x :: l, m, b => by
    by_cases hb : 0 < b
    · rw [List.cons_append, tr_cons hb, tr_cons hb, tr_append l m (b - x), List.sum_cons]
      by_cases h1 : b ≤ x
      · rw [if_pos h1, if_pos (by omega), if_pos h1]
      · rw [if_neg h1, if_neg h1]
        by_cases h2 : b ≤ x + l.sum
        · rw [if_pos (by omega), if_pos h2]
        · rw [if_neg (by omega), if_neg h2]
          have e : b - x - l.sum = b - (x + l.sum) := by omega
          rw [e]; rfl
    · have e : b = 0 := by omega
      subst e
      simp [tr_zero]
/-! ### cutting -/
theorem parts_small {c x : Nat} (h0 : 0 < x) (h : x ≤ c) : parts c x = [x] := by
  unfold parts
  have e : (x + c - 1) / c = 1 := by
    have e1 : x + c - 1 = (x - 1) + c * 1 := by omega
    rw [e1, Nat.add_mul_div_left _ _ (by omega : 0 < c), Nat.div_eq_of_lt (by omega)]
  rw [e]
  show [min c (x - 0 * c)] = [x]
  rw [Nat.zero_mul, Nat.sub_zero, Nat.min_eq_right h]
theorem parts_more {c x : Nat} (hc : 0 < c) (h : c < x) : parts c x = c :: parts c (x - c) := by
  unfold parts
  have e : (x + c - 1) / c = (x - c + c - 1) / c + 1 := by
    have e1 : x + c - 1 = (x - c + c - 1) + c * 1 := by omega
    rw [e1, Nat.add_mul_div_left _ _ hc]
  rw [e, List.range_succ_eq_map, List.map_cons, List.map_map]
  congr 1
  · rw [Nat.zero_mul, Nat.sub_zero, Nat.min_eq_left (by omega)]
  · apply List.map_congr_left
    intro k _
    show min c (x - (k + 1) * c) = min c (x - c - k * c)
    rw [Nat.succ_mul]
    congr 1
    omega
theorem parts_ind {c : Nat} {P : Nat → Prop} (hc : 0 < c) (small : ∀ x, 0 < x → x ≤ c → P x) (more : ∀ x, c < x → P (x - c) → P x) (x : Nat) (hx : 0 < x) : P x := by
  induction x using Nat.strongRecOn with
  | _ x ih =>
    by_cases h : x ≤ c
    · exact small x hx h
    · exact more x (by omega) (ih (x - c) (by omega) (by omega))
theorem parts_sum {c x : Nat} (hc : 0 < c) (hx : 0 < x) : (parts c x).sum = x := by
  refine parts_ind (P := fun x => (parts c x).sum = x) hc (fun x h1 h2 => ?_) (fun x h1 ih => ?_) x hx
  · rw [parts_small h1 h2]; simp
  · rw [parts_more hc h1, List.sum_cons, ih]; omega
theorem parts_pos {c x : Nat} (hc : 0 < c) (hx : 0 < x) : ∀ y ∈ parts c x, 0 < y ∧ y ≤ c ∧ y ≤ x := by
  refine parts_ind (P := fun x => ∀ y ∈ parts c x, 0 < y ∧ y ≤ c ∧ y ≤ x) hc (fun x h1 h2 => ?_) (fun x h1 ih => ?_) x hx
  · rw [parts_small h1 h2]
    intro y hy
    have e : y = x := by simpa using hy
    omega
  · rw [parts_more hc h1]
    intro y hy
    rcases List.mem_cons.mp hy with e | e
    · omega
    · have := ih y e
      omega
/-- the first piece -/
theorem parts_head {c x : Nat} (hc : 0 < c) (hx : 0 < x) : ∃ r, parts c x = min c x :: r := by
  by_cases h : x ≤ c
  · exact ⟨[], by rw [parts_small hx h, Nat.min_eq_right h]⟩
  · exact ⟨_, by rw [parts_more hc (by omega), Nat.min_eq_left (by omega)]⟩
theorem parts_tr {c : Nat} (hc : 0 < c) (x : Nat) (hx : 0 < x) : ∀ b, 0 < b → b ≤ x → tr (parts c x) b = parts c b := by
  refine parts_ind (P := fun x => ∀ b, 0 < b → b ≤ x → tr (parts c x) b = parts c b) hc (fun x h1 h2 b hb hbx => ?_) (fun x h1 ih b hb hbx => ?_) x hx
  · rw [parts_small h1 h2, tr_cons hb, if_pos hbx, parts_small hb (by omega)]
  · rw [parts_more hc h1, tr_cons hb]
    by_cases h : b ≤ c
    · rw [if_pos h, parts_small hb h]
    · rw [if_neg h, parts_more (x := b) hc (by omega), ih (b - c) (by omega) (by omega)]
theorem cut_sum {c : Nat} (hc : 0 < c) : ∀ {l : List Nat}, (∀ x ∈ l, 0 < x) → (cutAll c l).sum = l.sum
  | [], _ => rfl
  | x :: l, h => by
    show (parts c x ++ cutAll c l).sum = _
    rw [List.sum_append, parts_sum hc (h x List.mem_cons_self), cut_sum hc fun y hy => h y (List.mem_cons_of_mem _ hy), List.sum_cons]
theorem cut_tr {c : Nat} (hc : 0 < c) : ∀ {l : List Nat} {b : Nat}, (∀ x ∈ l, 0 < x) → b ≤ l.sum → cutAll c (tr l b) = tr (cutAll c l) b
  | [], b, _, _ => by rw [tr_nil]; show [] = tr [] b; rw [tr_nil]
  | x :: l, b, h, hb => by
    have hx := h x List.mem_cons_self
    show _ = tr (parts c x ++ cutAll c l) b
    by_cases h0 : 0 < b
    · rw [tr_append, parts_sum hc hx, tr_cons h0]
      by_cases h1 : b ≤ x
      · rw [if_pos h1, if_pos h1, parts_tr hc x hx b h0 h1]
        show parts c b ++ [] = _
        rw [List.append_nil]
      · rw [if_neg h1, if_neg h1]
        show parts c x ++ cutAll c (tr l (b - x)) = _
        rw [cut_tr hc (fun y hy => h y (List.mem_cons_of_mem _ hy)) (by simp at hb; omega)]
    · have e : b = 0 := by omega
      subst e
      rw [tr_zero, tr_zero]; rfl
theorem cut_same {c : Nat} : ∀ {l : List Nat}, (∀ x ∈ l, 0 < x ∧ x ≤ c) → cutAll c l = l
  | [], _ => rfl
  | x :: l, h => by
    show parts c x ++ cutAll c l = _
    have hx := h x List.mem_cons_self
    rw [parts_small hx.1 hx.2, cut_same fun y hy => h y (List.mem_cons_of_mem _ hy)]
    rfl
/-! ### the stretches of a letter, and those of a lesser one -/
/-- stretches of a body b -/
structure Good (b : Nat) (l : List Nat) : Prop where
  sum : l.sum = b
  ne : l ≠ []
  pos : 0 < b → ∀ x ∈ l, 0 < x
  zero : b = 0 → l = [0]
  first : ∀ x ∈ l, x ≤ l.headD 0
/-- stretches of b beside those of a body that is not less -/
def Rel (b : Nat) (l l' : List Nat) : Prop := if b = 0 then l = [0] else l = tr l' b
theorem good_one (b : Nat) : Good b [b] where
  sum := by simp
  ne := by simp
  pos := fun h x hx => by
    have e : x = b := by simpa using hx
    omega
  zero := fun h => by rw [h]
  first := fun x hx => by
    have e : x = b := by simpa using hx
    rw [e]
    exact Nat.le_refl b
theorem rel_one {b b' : Nat} (h : b ≤ b') : Rel b [b] [b'] := by
  unfold Rel
  split
  · rename_i e; rw [e]
  · rw [tr_cons (by omega), if_pos h]
/-- lesser stretches: each at most one of the greater, the first at most the first; no more of them -/
theorem rel_mem {b b' : Nat} {l l' : List Nat} (h : Rel b l l') (g : Good b' l') : ∀ x ∈ l, ∃ y ∈ l', x ≤ y := by
  unfold Rel at h
  split at h
  · subst h
    intro x hx
    have e : x = 0 := by simpa using hx
    cases l' with
    | nil => exact absurd rfl g.ne
    | cons y r => exact ⟨y, List.mem_cons_self, by omega⟩
  · subst h
    exact tr_mem l' b
theorem rel_len {b b' : Nat} {l l' : List Nat} (h : Rel b l l') (g : Good b' l') : l.length ≤ l'.length := by
  unfold Rel at h
  split at h
  · subst h
    cases l' with
    | nil => exact absurd rfl g.ne
    | cons y r => simp
  · subst h
    exact tr_len l' b
theorem good_cut {b c : Nat} {l : List Nat} (hc : 0 < c) (hb : 0 < b) (g : Good b l) : Good b (cutAll c l) := by
  have p := g.pos hb
  obtain ⟨y, r, rfl⟩ : ∃ y r, l = y :: r := by
    cases l with
    | nil => exact absurd rfl g.ne
    | cons y r => exact ⟨y, r, rfl⟩
  obtain ⟨r', hr⟩ := parts_head hc (p y List.mem_cons_self)
  have e : cutAll c (y :: r) = min c y :: (r' ++ cutAll c r) := by
    show parts c y ++ cutAll c r = _
    rw [hr]; rfl
  refine ⟨by rw [cut_sum hc p, g.sum], by rw [e]; simp, fun _ x hx => ?_, fun h => by omega, fun x hx => ?_⟩
  · obtain ⟨z, hz, hx⟩ := List.mem_flatMap.mp hx
    exact (parts_pos hc (p z hz) x hx).1
  · rw [e]
    show x ≤ min c y
    obtain ⟨z, hz, hx⟩ := List.mem_flatMap.mp hx
    have q := parts_pos hc (p z hz) x hx
    have f : z ≤ y := g.first z hz
    omega
mutual
/-- what a way's steps are: sizes above heads, at least one piece put together -/
def Way.ok : Way → Prop
  | .mk h steps => 0 < h ∧ Step.okAll h steps
def Step.okAll (h : Nat) : List Step → Prop
  | [] => True
  | s :: r => Step.ok h s ∧ Step.okAll h r
def Step.ok (h : Nat) : Step → Prop
  | .road size _ _ => h < size
  | .join most => 0 < most
  | .tunnel w most _ => Way.ok w ∧ 0 < most
end
theorem road_comes {h size : Nat} {ts : Bool} {lw : LW} {sealed : Bool} {l m : List Nat} (e : road h size ts lw sealed l = .comes m) : (m = l ∧ ∀ x ∈ l, x ≤ size - h) ∨ (m = cutAll (size - h) l ∧ sealed = false ∧ lw = .cut ∧ ¬ ∀ x ∈ l, x ≤ size - h) := by
  unfold road at e
  split at e
  · rename_i q
    injection e with e
    exact .inl ⟨e.symm, q⟩
  · rename_i q
    split at e
    · split at e <;> cases e
    · rename_i qs
      split at e
      · injection e with e
        exact .inr ⟨e.symm, by simpa using qs, rfl, q⟩
      · cases e
      · cases e
theorem tunnel_comes {inner : Nat → Fate} {ih most : Nat} {t : TW} {l m : List Nat} : ∀ {r : List Nat}, tunnel inner ih most t l r = .comes m → m = l ∧ ∀ x ∈ r, ∃ k, inner x = .comes k ∧ k.length ≤ most
  | [], e => by
    unfold tunnel at e
    injection e with e
    exact ⟨e.symm, fun x hx => by cases hx⟩
  | x :: r, e => by
    unfold tunnel at e
    split at e
    · rename_i k hk
      split at e
      · cases e
      · rename_i hl
        obtain ⟨h1, h2⟩ := tunnel_comes e
        refine ⟨h1, fun y hy => ?_⟩
        rcases List.mem_cons.mp hy with z | z
        · exact ⟨k, z ▸ hk, by omega⟩
        · exact h2 y z
    · rename_i f hf
      cases hi : inner x with
      | comes k => exact absurd hi (hf k)
      | told s p =>
        rw [hi] at e
        simp only [turned] at e
        split at e <;> cases e
      | silent p =>
        rw [hi] at e
        cases e
theorem tunnel_pass {inner : Nat → Fate} {ih most : Nat} {t : TW} {l : List Nat} : ∀ {r : List Nat}, (∀ x ∈ r, ∃ k, inner x = .comes k ∧ k.length ≤ most) → tunnel inner ih most t l r = .comes l
  | [], _ => rfl
  | x :: r, h => by
    obtain ⟨k, e, hk⟩ := h x List.mem_cons_self
    unfold tunnel
    rw [e]
    show (if k.length > most then _ else _) = _
    rw [if_neg (by omega)]
    exact tunnel_pass fun y hy => h y (List.mem_cons_of_mem _ hy)
theorem rel_cut {b b' c : Nat} {l l' : List Nat} (hc : 0 < c) (hle : b ≤ b') (h : Rel b l l') (g : Good b' l') (g0 : Good b l) : Rel b (if b = 0 then l else cutAll c l) (cutAll c l') := by
  unfold Rel at h ⊢
  split
  · rename_i e
    rw [if_pos e] at h
    exact h
  · rename_i e
    rw [if_neg e] at h
    subst h
    exact cut_tr hc (g.pos (by omega)) (by rw [g.sum]; exact hle)
/-- one road, both letters -/
theorem road_mono {h size : Nat} {ts : Bool} {lw : LW} {sealed : Bool} {b b' : Nat} {l l' m' : List Nat} (hs : h < size) (hle : b ≤ b') (g : Good b l) (g' : Good b' l') (r : Rel b l l') (e : road h size ts lw sealed l' = .comes m') :
    ∃ m, road h size ts lw sealed l = .comes m ∧ Good b m ∧ Good b' m' ∧ Rel b m m' := by
  have hc : 0 < size - h := by omega
  rcases road_comes e with ⟨rfl, ha⟩ | ⟨rfl, rfl, rfl, hn⟩
  · have hl : ∀ x ∈ l, x ≤ size - h := fun x hx => by
      obtain ⟨y, hy, hxy⟩ := rel_mem r g' x hx
      exact Nat.le_trans hxy (ha y hy)
    exact ⟨l, by unfold road; rw [if_pos hl], g, g', r⟩
  · have hb' : 0 < b' := by
      rcases Nat.eq_zero_or_pos b' with z | z
      · rw [g'.zero z] at hn
        exact absurd (fun x hx => by have e : x = 0 := by simpa using hx
                                     omega) hn
      · exact z
    have gm' := good_cut hc hb' g'
    have rm := rel_cut hc hle r g' g
    by_cases hl : ∀ x ∈ l, x ≤ size - h
    · refine ⟨l, by unfold road; rw [if_pos hl], g, gm', ?_⟩
      by_cases hb : b = 0
      · rw [if_pos hb] at rm; exact rm
      · rw [if_neg hb, cut_same fun x hx => ⟨g.pos (by omega) x hx, hl x hx⟩] at rm
        exact rm
    · have hb : ¬ b = 0 := fun z => hl fun x hx => by
        rw [g.zero z] at hx
        have e : x = 0 := by simpa using hx
        omega
      rw [if_neg hb] at rm
      exact ⟨_, by unfold road; rw [if_neg hl, if_neg (by simp)], good_cut hc (by omega) g, gm', rm⟩
mutual
/-- a letter that comes does so for each lesser body -/
theorem Way.mono (sealed : Bool) : ∀ (w : Way), w.ok → ∀ (b b' : Nat) (m' : List Nat), b ≤ b' → w.walk sealed b' = .comes m' → ∃ m, w.walk sealed b = .comes m ∧ Good b m ∧ Good b' m' ∧ Rel b m m'
  | .mk h steps, hw, b, b', m', hle, e => Way.from_mono sealed h steps hw.1 hw.2 0 b b' [b] [b'] m' hle (good_one b) (good_one b') (rel_one hle) e
theorem Way.from_mono (sealed : Bool) (h : Nat) : ∀ (steps : List Step), 0 < h → Step.okAll h steps → ∀ (i b b' : Nat) (l l' m' : List Nat), b ≤ b' → Good b l → Good b' l' → Rel b l l' → Way.from sealed h steps i l' = .comes m' →
    ∃ m, Way.from sealed h steps i l = .comes m ∧ Good b m ∧ Good b' m' ∧ Rel b m m'
  | [], _, _, i, b, b', l, l', m', hle, g, g', r, e => by
    unfold Way.from at e
    injection e with e
    subst e
    exact ⟨l, by unfold Way.from; rfl, g, g', r⟩
  | s :: rest, h0, hok, i, b, b', l, l', m', hle, g, g', r, e => by
    unfold Way.from at e
    split at e
    · rename_i k' hk
      obtain ⟨k, e1, gk, gk', rk⟩ := Step.mono sealed h s h0 hok.1 b b' l l' k' hle g g' r hk
      obtain ⟨m, e2, q⟩ := Way.from_mono sealed h rest h0 hok.2 (i + 1) b b' k k' m' hle gk gk' rk e
      exact ⟨m, by unfold Way.from; rw [e1]; exact e2, q⟩
    · rename_i f hf
      cases hd : Step.does sealed h s l' with
      | comes k => exact absurd hd (hf k)
      | told a p => rw [hd] at e; cases e
      | silent p => rw [hd] at e; cases e
theorem Step.mono (sealed : Bool) (h : Nat) : ∀ (s : Step), 0 < h → Step.ok h s → ∀ (b b' : Nat) (l l' m' : List Nat), b ≤ b' → Good b l → Good b' l' → Rel b l l' → Step.does sealed h s l' = .comes m' →
    ∃ m, Step.does sealed h s l = .comes m ∧ Good b m ∧ Good b' m' ∧ Rel b m m'
  | .road size ts lw, _, hok, b, b', l, l', m', hle, g, g', r, e => by
    unfold Step.does at e ⊢
    exact road_mono hok hle g g' r e
  | .join most, _, hok, b, b', l, l', m', hle, g, g', r, e => by
    unfold Step.does join at e
    split at e
    · cases e
    · rename_i q
      injection e with e
      subst e
      refine ⟨[b], ?_, good_one b, by rw [g'.sum]; exact good_one b', by rw [g'.sum]; exact rel_one hle⟩
      unfold Step.does join
      rw [if_neg (by have := rel_len r g'; omega), g.sum]
  | .tunnel w most t, _, hok, b, b', l, l', m', hle, g, g', r, e => by
    unfold Step.does at e ⊢
    obtain ⟨rfl, ha⟩ := tunnel_comes e
    refine ⟨l, tunnel_pass fun x hx => ?_, g, g', r⟩
    obtain ⟨y, hy, hxy⟩ := rel_mem r g' x hx
    obtain ⟨k', hk', hl'⟩ := ha y hy
    obtain ⟨k, hk, gk, gk', rk⟩ := Way.mono sealed w hok.1 (h + x) (h + y) k' (by omega) hk'
    exact ⟨k, hk, by have := rel_len rk gk'; omega⟩
end
/-- a sealed letter is one piece -/
theorem Way.from_sealed (h : Nat) : ∀ (steps : List Step) (i b : Nat) (m : List Nat), Way.from true h steps i [b] = .comes m → m = [b]
  | [], i, b, m, e => by
    unfold Way.from at e
    injection e with e
    exact e.symm
  | s :: rest, i, b, m, e => by
    unfold Way.from at e
    split at e
    · rename_i k hk
      have hb : k = [b] := by
        cases s with
        | road size ts lw =>
          unfold Step.does at hk
          rcases road_comes hk with ⟨q, _⟩ | ⟨_, q, _⟩
          · exact q
          · cases q
        | join most =>
          unfold Step.does join at hk
          split at hk
          · cases hk
          · injection hk with hk
            simpa using hk.symm
        | tunnel w most t =>
          unfold Step.does at hk
          exact (tunnel_comes hk).1
      subst hb
      exact Way.from_sealed h rest (i + 1) b m e
    · rename_i f hf
      cases hd : Step.does true h s [b] with
      | comes k => exact absurd hd (hf k)
      | told a p => rw [hd] at e; cases e
      | silent p => rw [hd] at e; cases e
theorem Way.walk_sealed (w : Way) (b : Nat) (m : List Nat) (e : w.walk true b = .comes m) : m = [b] := by
  obtain ⟨h, steps⟩ := w
  exact Way.from_sealed h steps 0 b m e
theorem from_cons (sealed : Bool) (h : Nat) (x : Step) (s : List Step) (i : Nat) (l : List Nat) : Way.from sealed h (x :: s) i l = match Step.does sealed h x l with
    | .comes m => Way.from sealed h s (i + 1) m
    | f => seen i f := by
  conv => lhs; unfold Way.from
/-- one way behind another -/
theorem Way.from_append (sealed : Bool) (h : Nat) (r : List Step) : ∀ (s : List Step) (i : Nat) (l : List Nat), Way.from sealed h (s ++ r) i l = match Way.from sealed h s i l with
    | .comes m => Way.from sealed h r (i + s.length) m
    | f => f
  | [], i, l => by
    show Way.from sealed h r i l = _
    rw [show Way.from sealed h [] i l = .comes l by unfold Way.from; rfl]
    rfl
  | x :: s, i, l => by
    rw [List.cons_append, from_cons, from_cons]
    cases hd : Step.does sealed h x l with
    | comes k =>
      show Way.from sealed h (s ++ r) (i + 1) k = _
      rw [Way.from_append sealed h r s (i + 1) k]
      have e : i + 1 + s.length = i + (x :: s).length := by simp; omega
      rw [e]
    | told a p => rfl
    | silent p => rfl
/-- the places of the steps behind i: as if the way began there -/
def shift (i : Nat) : Fate → Fate
  | .told s (p :: q) => .told s ((p + i) :: q)
  | .silent (p :: q) => .silent ((p + i) :: q)
  | f => f
theorem shift_seen (i j : Nat) (f : Fate) : shift i (seen j f) = seen (j + i) f := by cases f <;> rfl
theorem Way.from_shift (sealed : Bool) (h i : Nat) : ∀ (s : List Step) (j : Nat) (l : List Nat), Way.from sealed h s (j + i) l = shift i (Way.from sealed h s j l)
  | [], j, l => by
    rw [show Way.from sealed h [] j l = .comes l by unfold Way.from; rfl, show Way.from sealed h [] (j + i) l = .comes l by unfold Way.from; rfl]
    rfl
  | x :: s, j, l => by
    rw [from_cons, from_cons]
    cases hd : Step.does sealed h x l with
    | comes k =>
      show Way.from sealed h s (j + i + 1) k = shift i (Way.from sealed h s (j + 1) k)
      rw [show j + i + 1 = j + 1 + i by omega]
      exact Way.from_shift sealed h i s (j + 1) k
    | told a p => exact (shift_seen i j _).symm
    | silent p => exact (shift_seen i j _).symm
end M

end
section
set_option Elab.async false
set_option linter.all false
set_option maxRecDepth 100000
set_option maxHeartbeats 4000000
/-! ## the program's ways: good ones -/
namespace WP
open PySem L2 G
def top (i : Nat) : Stmt := PySem.Challenge.pw_roadsizes_k82_whole_texts_and_fates.main.body.getD i (.Pass ⟨0, 0, 0, 0⟩)
abbrev sInteger : Stmt := top 4
abbrev sWithin : Stmt := top 5
abbrev sBody : Stmt := top 6
abbrev sMost : Stmt := top 36
abbrev sList : Stmt := top 34
abbrev sStep : Stmt := top 38
abbrev sRoad : Stmt := top 35
abbrev sTells : Stmt := top 37
abbrev sHead : Stmt := top 33
abbrev sInit : Stmt := inClass (top 32) 0
abbrev sLen : Stmt := inClass (top 32) 1
abbrev sAdd : Stmt := inClass (top 32) 5
structure Bn (mg : Str → Option Value) : Prop where
  isi : mg "isinstance" = none
  bool : mg "bool" = none
  int : mg "int" = none
  tuple : mg "tuple" = none
  list : mg "list" = none
  len : mg "len" = none
  enum : mg "enumerate" = none
  max : mg "max" = none
  sum : mg "sum" = none
section
variable {P : Program} {w : World} {K : PySem.W.Frag} {mg : Str → Option Value} {base : Heap}
def spInteger : Sp := fun vs H Q _ => ∃ v : Int, vs = [.int v] ∧ Q (.bl true) H
theorem scIn : FnScope ["value"] ["value"] (defScope sInteger) := ⟨rfl, rfl, rfl, by decide +kernel, rfl, by decide +kernel, by decide +kernel⟩
theorem ok_integer {f : Addr} {fd : FuncData} (F : Fun K "is_integer" "is_integer" sInteger f fd) (B : Bn mg) : FnOk P w K mg base CX0 1 f fd ["value"] spInteger := by
  refine F.ok scIn (fun vs H Q E h => ?_) (fun cdv A outer s H vs Q E hr h => ?_)
  · obtain ⟨v, rfl, _⟩ := h
    rfl
  · obtain ⟨v, rfl, k⟩ := h
    refine ⟨_, pss_one (ps_ret (pe_and (pe_callB call_isi (by rfl) B.isi (by decide +kernel) (pa_cons (pv 0) (pa_cons (pe_bltn (v := .ty "int") (by rfl) B.int (by decide +kernel) rfl) pa_nil)))
      (pe_one (pe_not (pe_callB call_isi (by rfl) B.isi (by decide +kernel) (pa_cons (pv 0) (pa_cons (pe_bltn (v := .ty "bool") (by rfl) B.bool (by decide +kernel) rfl) pa_nil))))))), ?_⟩
    exact ⟨_, rfl, _, _, _, _, _, rfl, .ty _, .base (.int _), kit_ty (r := true) (by decide +kernel), _, rfl, iteT ⟨_, rfl, _, _, _, _, _, rfl, .ty _, .base (.int _), kit_ty (r := false) (by decide +kernel), _, rfl, k⟩⟩
def spWithin : Sp := fun vs H Q _ => ∃ v a b : Int, vs = [.int v, .int a, .int b] ∧ Q (.bl (decide (a ≤ v ∧ v ≤ b))) H
theorem sc3 : FnScope ["value", "least", "greatest"] ["value", "least", "greatest"] (defScope sWithin) := ⟨rfl, rfl, rfl, by decide +kernel, rfl, by decide +kernel, by decide +kernel⟩
theorem ok_within {f fI : Addr} {fd fdI : FuncData} (F : Fun K "is_within" "is_within" sWithin f fd) (B : Bn mg) (FI : Fun K "is_integer" "is_integer" sInteger fI fdI) (gI : mg "is_integer" = some (.ref fI)) (bI : Binds K fdI ["value"] []) : FnOk P w K mg base CX0 2 f fd ["value", "least", "greatest"] spWithin := by
  have GI : FnOk P w K mg base CX0 1 fI fdI ["value"] spInteger := ok_integer FI B
  refine F.ok sc3 (fun vs H Q E h => ?_) (fun cdv A outer s H vs Q E hr h => ?_)
  · obtain ⟨v, a, b, rfl, _⟩ := h
    rfl
  · obtain ⟨v, a, b, rfl, k⟩ := h
    refine ⟨_, pss_one (ps_ret (pe_and (pe_call GI hr rfl gI FI.kp bI .nil pass0 (pa_cons (pv 0) pa_nil)) (pe_one (pe_chain op_le op_le (pv 1) (pv 0) (pv 2))))), ?_⟩
    refine ⟨_, rfl, v, rfl, _, rfl, iteT ?_⟩
    refine ⟨_, rfl, _, rfl, _, _, rfl, rfl, _, rfl, ?_⟩
    refine ite2 (fun h1 => ⟨_, rfl, _, _, rfl, rfl, ?_⟩) (fun h1 => ?_)
    · have e1 : a ≤ v := of_decide_eq_true h1
      have e : decide (a ≤ v ∧ v ≤ b) = decide (v ≤ b) := by
        by_cases z : v ≤ b
        · rw [decide_eq_true z, decide_eq_true ⟨e1, z⟩]
        · rw [decide_eq_false z, decide_eq_false fun q => z q.2]
      rw [e] at k
      exact k
    · have e : decide (a ≤ v ∧ v ≤ b) = false := decide_eq_false fun q => h1 (decide_eq_true q.1)
      rw [e] at k
      exact k
/-- is_body, _is_most of ints -/
def spIn1 (a b : Int) : Sp := fun vs H Q _ => ∃ v : Int, vs = [.int v] ∧ Q (.bl (decide (a ≤ v ∧ v ≤ b))) H
structure Wi (P : Program) (w : World) (K : PySem.W.Frag) (mg : Str → Option Value) (base : Heap) (f : Addr) (fd : FuncData) : Prop where
  ok : FnOk P w K mg base CX0 2 f fd ["value", "least", "greatest"] spWithin
  g : mg "is_within" = some (.ref f)
  k : PySem.W.keepIn K (.ref f) = true
  b : Binds K fd ["value", "least", "greatest"] []
theorem scB : FnScope ["value"] ["value"] (defScope sBody) := ⟨rfl, rfl, rfl, by decide +kernel, rfl, by decide +kernel, by decide +kernel⟩
theorem scM : FnScope ["value"] ["value"] (defScope sMost) := ⟨rfl, rfl, rfl, by decide +kernel, rfl, by decide +kernel, by decide +kernel⟩
theorem ok_body {f fW : Addr} {fd fdW : FuncData} {t : Tok} (F : Fun K "is_body" "is_body" sBody f fd) (W : Wi P w K mg base fW fdW) (g : mg "GREATEST_BODY" = some (.int 1000000000000000000 t)) : FnOk P w K mg base CX0 3 f fd ["value"] (spIn1 0 1000000000000000000) := by
  refine F.ok scB (fun vs H Q E h => ?_) (fun cdv A outer s H vs Q E hr h => ?_)
  · obtain ⟨v, rfl, _⟩ := h
    rfl
  · obtain ⟨v, rfl, k⟩ := h
    exact ⟨_, pss_one (ps_ret (pe_call W.ok hr rfl W.g W.k W.b .nil pass0 (pa_cons (pv 0) (pa_cons pe_int (pa_cons (pe_glob (v := .int 1000000000000000000) rfl g ⟨_, rfl⟩) pa_nil))))), _, rfl, v, 0, 1000000000000000000, rfl, k⟩
theorem ok_most {f fW : Addr} {fd fdW : FuncData} {t : Tok} (F : Fun K "is_most" "is_most" sMost f fd) (W : Wi P w K mg base fW fdW) (g : mg "GREATEST_MOST" = some (.int 1000000000000 t)) : FnOk P w K mg base CX0 3 f fd ["value"] (spIn1 1 1000000000000) := by
  refine F.ok scM (fun vs H Q E h => ?_) (fun cdv A outer s H vs Q E hr h => ?_)
  · obtain ⟨v, rfl, _⟩ := h
    rfl
  · obtain ⟨v, rfl, k⟩ := h
    exact ⟨_, pss_one (ps_ret (pe_call W.ok hr rfl W.g W.k W.b .nil pass0 (pa_cons (pv 0) (pa_cons pe_int (pa_cons (pe_glob (v := .int 1000000000000) rfl g ⟨_, rfl⟩) pa_nil))))), _, rfl, v, 1, 1000000000000, rfl, k⟩
theorem scHd : FnScope ["value"] ["value"] (defScope sHead) := ⟨rfl, rfl, rfl, by decide +kernel, rfl, by decide +kernel, by decide +kernel⟩
theorem ok_head {f fW : Addr} {fd fdW : FuncData} {t : Tok} (F : Fun K "is_head" "is_head" sHead f fd) (W : Wi P w K mg base fW fdW) (g : mg "GREATEST_HEAD" = some (.int 40 t)) : FnOk P w K mg base CX0 3 f fd ["value"] (spIn1 1 40) := by
  refine F.ok scHd (fun vs H Q E h => ?_) (fun cdv A outer s H vs Q E hr h => ?_)
  · obtain ⟨v, rfl, _⟩ := h
    rfl
  · obtain ⟨v, rfl, k⟩ := h
    exact ⟨_, pss_one (ps_ret (pe_call W.ok hr rfl W.g W.k W.b .nil pass0 (pa_cons (pv 0) (pa_cons pe_int (pa_cons (pe_glob (v := .int 40) rfl g ⟨_, rfl⟩) pa_nil))))), _, rfl, v, 1, 40, rfl, k⟩
end
end WP

end
section
set_option Elab.async false
set_option linter.all false
set_option maxRecDepth 100000
set_option maxHeartbeats 4000000
/-! ## ways on the heap -/
namespace M
mutual
def Way.depth : Way → Nat
  | .mk _ s => 1 + Step.deepest s
def Step.deepest : List Step → Nat
  | [] => 0
  | .tunnel w _ _ :: r => max w.depth (Step.deepest r)
  | .road _ _ _ :: r => Step.deepest r
  | .join _ :: r => Step.deepest r
end
mutual
def Way.size : Way → Nat
  | .mk _ s => s.length + Step.inner s
def Step.inner : List Step → Nat
  | [] => 0
  | .tunnel w _ _ :: r => w.size + Step.inner r
  | .road _ _ _ :: r => Step.inner r
  | .join _ :: r => Step.inner r
end
mutual
/-- a way that the program takes -/
def Way.fine : Way → Prop
  | .mk h s => (1 ≤ h ∧ h ≤ 40) ∧ (1 ≤ s.length ∧ s.length ≤ 12) ∧ Step.fineAll h s ∧ 1 + Step.deepest s ≤ 3 ∧ s.length + Step.inner s ≤ 40
def Step.fineAll (h : Nat) : List Step → Prop
  | [] => True
  | s :: r => Step.fine h s ∧ Step.fineAll h r
def Step.fine (h : Nat) : Step → Prop
  | .road size _ _ => h < size ∧ size ≤ 1000
  | .join most => 1 ≤ most ∧ most ≤ 1000000000000
  | .tunnel w most _ => Way.fine w ∧ 1 ≤ most ∧ most ≤ 1000000000000
end
end M
namespace WP
open PySem L2 G
def sdS (b : Bool) : Str := if b then "tell" else "drop"
def lwS : M.LW → Str
  | .cut => "cut"
  | .tell => "tell"
  | .drop => "drop"
def twS : M.TW → Str
  | .turn => "turn"
  | .keep => "keep"
  | .lose => "lose"
def flds (h : Int) (t : Addr) (D Z : Int) : List (Str × V) := putF "size" (.int Z) (putF "depth" (.int D) (putF "steps" (.ref t) (putF "head" (.int h) [])))
theorem nk : ¬ (("head" : Str) = "steps") ∧ ¬ (("head" : Str) = "depth") ∧ ¬ (("head" : Str) = "size") ∧ ¬ (("steps" : Str) = "depth") ∧ ¬ (("steps" : Str) = "size") ∧ ¬ (("depth" : Str) = "size") := by decide +kernel
theorem flds_head (h : Int) (t : Addr) (D Z : Int) : (flds h t D Z).lookup ("head" : Str) = some (.int h) := by
  unfold flds
  rw [lookup_putF, if_neg nk.2.2.1, lookup_putF, if_neg nk.2.1, lookup_putF, if_neg nk.1, lookup_putF, if_pos rfl]
theorem flds_steps (h : Int) (t : Addr) (D Z : Int) : (flds h t D Z).lookup ("steps" : Str) = some (.ref t) := by
  unfold flds
  rw [lookup_putF, if_neg nk.2.2.2.2.1, lookup_putF, if_neg nk.2.2.2.1, lookup_putF, if_pos rfl]
theorem flds_depth (h : Int) (t : Addr) (D Z : Int) : (flds h t D Z).lookup ("depth" : Str) = some (.int D) := by
  unfold flds
  rw [lookup_putF, if_neg nk.2.2.2.2.2, lookup_putF, if_pos rfl]
theorem flds_size (h : Int) (t : Addr) (D Z : Int) : (flds h t D Z).lookup ("size" : Str) = some (.int Z) := by
  unfold flds
  rw [lookup_putF, if_pos rfl]
mutual
/-- a way stands at a -/
def WayAt (C : Addr) (H : Hp) : M.Way → Addr → Prop
  | .mk h s, a => ∃ dx t xs, H a = some (.ins C dx (flds h t ((1 + M.Step.deepest s : Nat) : Int) ((s.length + M.Step.inner s : Nat) : Int))) ∧ H t = some (.tup xs) ∧ StepsAt C H s xs
def StepsAt (C : Addr) (H : Hp) : List M.Step → List V → Prop
  | [], xs => xs = []
  | s :: r, xs => ∃ x ys, xs = x :: ys ∧ StepAt C H s x ∧ StepsAt C H r ys
def StepAt (C : Addr) (H : Hp) : M.Step → V → Prop
  | .road size ts lw, x => ∃ t, x = .ref t ∧ H t = some (.tup [.str "road", .int (size : Int), .str (sdS ts), .str (lwS lw)])
  | .join most, x => ∃ t, x = .ref t ∧ H t = some (.tup [.str "join", .int (most : Int)])
  | .tunnel w most tw, x => ∃ t a, x = .ref t ∧ H t = some (.tup [.str "tunnel", .ref a, .int (most : Int), .str (twS tw)]) ∧ WayAt C H w a
end
mutual
theorem WayAt.mono {C : Addr} {H H' : Hp} (s : Same H H') : ∀ {w : M.Way} {a : Addr}, WayAt C H w a → WayAt C H' w a
  | .mk h st, a, x => by
    unfold WayAt at x ⊢
    obtain ⟨dx, t, xs, h1, h2, h3⟩ := x
    exact ⟨dx, t, xs, s _ _ h1, s _ _ h2, StepsAt.mono s h3⟩
theorem StepsAt.mono {C : Addr} {H H' : Hp} (s : Same H H') : ∀ {st : List M.Step} {xs : List V}, StepsAt C H st xs → StepsAt C H' st xs
  | [], xs, x => by
    unfold StepsAt at x ⊢
    exact x
  | y :: r, xs, x => by
    unfold StepsAt at x ⊢
    obtain ⟨u, ys, e, h1, h2⟩ := x
    exact ⟨u, ys, e, StepAt.mono s h1, StepsAt.mono s h2⟩
theorem StepAt.mono {C : Addr} {H H' : Hp} (s : Same H H') : ∀ {st : M.Step} {x : V}, StepAt C H st x → StepAt C H' st x
  | .road size ts lw, v, x => by
    unfold StepAt at x ⊢
    obtain ⟨t, e, h⟩ := x
    exact ⟨t, e, s _ _ h⟩
  | .join most, v, x => by
    unfold StepAt at x ⊢
    obtain ⟨t, e, h⟩ := x
    exact ⟨t, e, s _ _ h⟩
  | .tunnel w most tw, v, x => by
    unfold StepAt at x ⊢
    obtain ⟨t, a, e, h, h2⟩ := x
    exact ⟨t, a, e, s _ _ h, WayAt.mono s h2⟩
end
theorem StepsAt.get {C : Addr} {H : Hp} : ∀ {st : List M.Step} {xs : List V} {i : Nat} {x : V}, StepsAt C H st xs → xs[i]? = some x → ∃ s, st[i]? = some s ∧ StepAt C H s x
  | [], xs, i, x, h, e => by
    unfold StepsAt at h
    subst h
    cases e
  | y :: r, xs, 0, x, h, e => by
    unfold StepsAt at h
    obtain ⟨u, ys, rfl, h1, _⟩ := h
    cases e
    exact ⟨y, rfl, h1⟩
  | y :: r, xs, i + 1, x, h, e => by
    unfold StepsAt at h
    obtain ⟨u, ys, rfl, _, h2⟩ := h
    obtain ⟨s, a, b⟩ := StepsAt.get (i := i) h2 e
    exact ⟨s, a, b⟩
theorem StepsAt.len {C : Addr} {H : Hp} : ∀ {st : List M.Step} {xs : List V}, StepsAt C H st xs → xs.length = st.length
  | [], xs, h => by
    unfold StepsAt at h
    subst h
    rfl
  | y :: r, xs, h => by
    unfold StepsAt at h
    obtain ⟨u, ys, rfl, _, h2⟩ := h
    exact congrArg Nat.succ h2.len
theorem fine_get {h : Nat} : ∀ {st : List M.Step} {i : Nat} {s : M.Step}, M.Step.fineAll h st → st[i]? = some s → M.Step.fine h s
  | [], i, s, _, e => by cases e
  | y :: r, 0, s, f, e => by
    unfold M.Step.fineAll at f
    cases e
    exact f.1
  | y :: r, i + 1, s, f, e => by
    unfold M.Step.fineAll at f
    exact fine_get (i := i) f.2 e
end WP

end
section
set_option Elab.async false
set_option linter.all false
set_option maxRecDepth 100000
set_option maxHeartbeats 4000000
namespace WP
open PySem L2 G
theorem Same.of_upd {H : Hp} {p : Addr} {o : HO} (h : H p = none) : Same H (upd H p o) := fun a u e => by
  rw [upd_ne (ne_of_none e h)]
  exact e
/-- the class Way, the module's constants -/
structure Wt (K : PySem.W.Frag) (mg : Str → Option Value) (C : Addr) : Prop where
  g : mg "Way" = some (.ref C)
  cl : Cls K C
  nH : NoAttr K C "head"
  nS : NoAttr K C "steps"
  nD : NoAttr K C "depth"
  nZ : NoAttr K C "size"
  iA : PySem.W.findIn K (.ref C) "__class__" = some (some (.builtin "object.__class__"))
  iN : PySem.W.specialIn K (.builtin "object.__class__") "__get__" = some (some (.builtin "getset_descriptor.__get__"))
  iT : PySem.W.takesIn K (.builtin "object.__class__") = some true
  iM : PySem.W.mroIn K C (.type "object") = some true
  gHead : ∃ t, mg "GREATEST_HEAD" = some (.int 40 t)
  gRoad : ∃ t, mg "GREATEST_ROAD" = some (.int 1000 t)
  gMost : ∃ t, mg "GREATEST_MOST" = some (.int 1000000000000 t)
  gSteps : ∃ t, mg "MOST_STEPS" = some (.int 12 t)
  gDepth : ∃ t, mg "GREATEST_DEPTH" = some (.int 3 t)
  gSize : ∃ t, mg "GREATEST_SIZE" = some (.int 40 t)
  wS : ∃ a, mg "SEALED_WORDS" = some (.ref a) ∧ ∀ H, SqT K H a [.str "tell", .str "drop"]
  wL : ∃ a, mg "LOOSE_WORDS" = some (.ref a) ∧ ∀ H, SqT K H a [.str "cut", .str "tell", .str "drop"]
  wT : ∃ a, mg "TELLS_WORDS" = some (.ref a) ∧ ∀ H, SqT K H a [.str "turn", .str "keep", .str "lose"]
/-- a def of the text that is called by its name -/
structure Df (P : Program) (w : World) (K : PySem.W.Frag) (mg : Str → Option Value) (base : Heap) (k : Nat) (x : Str) (ps : List Str) (sp : Sp) : Prop where
  ex : ∃ (f : Addr) (fd : FuncData), FnOk P w K mg base CX0 k f fd ps sp ∧ mg x = some (.ref f) ∧ PySem.W.keepIn K (.ref f) = true ∧ Binds K fd ps []
section
variable {P : Program} {w : World} {K : PySem.W.Frag} {mg : Str → Option Value} {base : Heap} {C : Addr}
def spRoad : Sp := fun vs H Q _ => ∃ (size : Nat) (least : Int) (ts : Bool) (lw : M.LW), vs = [.int (size : Int), .str (sdS ts), .str (lwS lw), .int least] ∧ least ≤ (size : Int) ∧ size ≤ 1000 ∧ Q (.bl true) H
theorem in_sd (b : Bool) : inV (.str (sdS b)) [.str "tell", .str "drop"] = true := by cases b <;> decide +kernel
theorem in_lw (l : M.LW) : inV (.str (lwS l)) [.str "cut", .str "tell", .str "drop"] = true := by cases l <;> decide +kernel
theorem in_tw (l : M.TW) : inV (.str (twS l)) [.str "turn", .str "keep", .str "lose"] = true := by cases l <;> decide +kernel
theorem scR : FnScope ["size", "sealed", "loose", "least"] ["size", "sealed", "loose", "least"] (defScope sRoad) := ⟨rfl, rfl, rfl, by decide +kernel, rfl, by decide +kernel, by decide +kernel⟩
theorem ok_road {f : Addr} {fd : FuncData} (F : Fun K "is_road" "is_road" sRoad f fd) (T : Wt K mg C) (W : Df P w K mg base 2 "is_within" ["value", "least", "greatest"] spWithin) : FnOk P w K mg base CX0 3 f fd ["size", "sealed", "loose", "least"] spRoad := by
  obtain ⟨fW, fdW, GW, gW, kW, bW⟩ := W.ex
  obtain ⟨t1, g1⟩ := T.gRoad
  obtain ⟨aS, g2, q2⟩ := T.wS
  obtain ⟨aL, g3, q3⟩ := T.wL
  refine F.ok scR (fun vs H Q E h => ?_) (fun cdv A outer s H vs Q E hr h => ?_)
  · obtain ⟨size, least, ts, lw, rfl, _⟩ := h
    rfl
  · obtain ⟨size, least, ts, lw, rfl, hs, hs2, k⟩ := h
    refine ⟨_, pss_one (ps_ret (pe_and (pe_call GW hr rfl gW kW bW .nil pass0 (pa_cons (pv 0) (pa_cons (pv 3) (pa_cons (pe_glob (v := .int 1000) rfl g1 ⟨_, rfl⟩) pa_nil)))) (pe_and (pe_cmpR op_in_seq (pv 1) (pe_glob (v := .ref aS) rfl g2 rfl) (by rfl)) (pe_one (pe_cmpR op_in_seq (pv 2) (pe_glob (v := .ref aL) rfl g3 rfl) (by rfl)))))), ?_⟩
    have e : decide (least ≤ (size : Int) ∧ (size : Int) ≤ 1000) = true := decide_eq_true (by omega)
    refine ⟨_, rfl, _, rfl, (size : Int), least, 1000, rfl, ?_⟩
    rw [e]
    refine ⟨_, rfl, ?_⟩
    refine iteT ⟨_, rfl, aS, _, rfl, .inr (q2 _), rfl, rfl, ?_⟩
    rw [in_sd]
    refine ⟨_, rfl, iteT ⟨_, rfl, aL, _, rfl, .inr (q3 _), rfl, rfl, ?_⟩⟩
    rw [in_lw]
    exact k
def spTells : Sp := fun vs H Q _ => ∃ tw : M.TW, vs = [.str (twS tw)] ∧ Q (.bl true) H
theorem scT : FnScope ["value"] ["value"] (defScope sTells) := ⟨rfl, rfl, rfl, by decide +kernel, rfl, by decide +kernel, by decide +kernel⟩
theorem ok_tells {f : Addr} {fd : FuncData} (F : Fun K "is_tells" "is_tells" sTells f fd) (T : Wt K mg C) : FnOk P w K mg base CX0 1 f fd ["value"] spTells := by
  obtain ⟨aT, g2, q2⟩ := T.wT
  refine F.ok scT (fun vs H Q E h => ?_) (fun cdv A outer s H vs Q E hr h => ?_)
  · obtain ⟨tw, rfl, _⟩ := h
    rfl
  · obtain ⟨tw, rfl, k⟩ := h
    refine ⟨_, pss_one (ps_ret (pe_cmpR op_in_seq (pv 0) (pe_glob (v := .ref aT) rfl g2 rfl) (by rfl))), ?_⟩
    refine ⟨_, rfl, aT, _, rfl, .inr (q2 _), rfl, rfl, ?_⟩
    rw [in_tw]
    exact k
/-- is_step_list, of a list or a tuple -/
def spList (K : PySem.W.Frag) : Sp := fun vs H Q _ => ∃ (l : Addr) (xs : List V), vs = [.ref l] ∧ (H l = some (.lst xs) ∨ H l = some (.tup xs)) ∧ 1 ≤ xs.length ∧ xs.length ≤ 12 ∧ ∀ H', Same H H' → Q (.bl true) H'
theorem scLi : FnScope ["value"] ["value"] (defScope sList) := ⟨rfl, rfl, rfl, by decide +kernel, rfl, by decide +kernel, by decide +kernel⟩
theorem ok_list {f : Addr} {fd : FuncData} (F : Fun K "is_step_list" "is_step_list" sList f fd) (B : Bn mg) (T : Wt K mg C) : FnOk P w K mg base CX0 1 f fd ["value"] (spList K) := by
  obtain ⟨t1, g1⟩ := T.gSteps
  refine F.ok scLi (fun vs H Q E h => ?_) (fun cdv A outer s H vs Q E hr h => ?_)
  · obtain ⟨l, xs, rfl, _⟩ := h
    rfl
  · obtain ⟨l, xs, rfl, hl, l1, l2, k⟩ := h
    refine ⟨_, pss_one (ps_ret (pe_and (pe_callB call_isiT (by rfl) B.isi (by decide +kernel) (pa_cons (pv 0) (pa_cons (pe_tup (pa_cons (pe_bltn (v := .ty "list") (by rfl) B.list (by decide +kernel) rfl) (pa_cons (pe_bltn (v := .ty "tuple") (by rfl) B.tuple (by decide +kernel) rfl) pa_nil))) pa_nil)))
      (pe_one (pe_chain op_le op_le pe_int (pe_callB call_len_seq (by rfl) B.len PySem.boot_len (pa_cons (pv 0) pa_nil)) (pe_glob (v := .int 12) rfl g1 ⟨_, rfl⟩))))), ?_⟩
    refine ⟨_, rfl, by show 2 ≤ sizeLine; decide, fun p np => ?_⟩
    have sp : Same H (upd H p (.tup [.ty "list", .ty "tuple"])) := Same.of_upd np
    have fin : ∀ (n : Int), n = (xs.length : Int) → ∀ Q' : VK, (∀ H', Same H H' → Q' (.bl true) H') → (∃ i j, V.int 1 = .int i ∧ V.int n = .int j ∧ ∃ k, V.bl (decide (i ≤ j)) = .bl k ∧ if k = true then ∃ i2 j2, V.int n = .int i2 ∧ V.int 12 = .int j2 ∧ Q' (.bl (decide (i2 ≤ j2))) (upd H p (.tup [.ty "list", .ty "tuple"])) else Q' (.bl false) (upd H p (.tup [.ty "list", .ty "tuple"]))) := by
      intro n hn Q' k'
      refine ⟨_, _, rfl, rfl, _, rfl, ?_⟩
      rw [decide_eq_true (by omega)]
      refine iteT ⟨_, _, rfl, rfl, ?_⟩
      rw [decide_eq_true (by omega)]
      exact k' _ sp
    have kl : PySem.W.kitAny K (.type "list") [.type "list", .type "tuple"] = some true := by
      unfold PySem.W.kitAny
      rw [kit_ty (r := true) (by decide +kernel)]
    have kt : PySem.W.kitAny K (.type "tuple") [.type "list", .type "tuple"] = some true := by
      unfold PySem.W.kitAny
      rw [kit_ty (r := false) (by decide +kernel)]
      unfold PySem.W.kitAny
      rw [kit_ty (r := true) (by decide +kernel)]
    rcases hl with hl | hl
    · exact ⟨_, p, _, _, _, _, rfl, upd_same, .cons (.ty _) (.cons (.ty _) .nil), .base (.lst (sp _ _ hl)), kl, _, rfl, iteT ⟨_, rfl, l, xs, rfl, .inl (SqL.of (sp _ _ hl)), fin _ rfl _ k⟩⟩
    · exact ⟨_, p, _, _, _, _, rfl, upd_same, .cons (.ty _) (.cons (.ty _) .nil), .base (.tup (sp _ _ hl)), kt, _, rfl, iteT ⟨_, rfl, l, xs, rfl, .inr (SqT.of (sp _ _ hl)), fin _ rfl _ k⟩⟩
/-- _is_step of a good step -/
def spStep (C : Addr) : Sp := fun vs H Q _ => ∃ (x : V) (h : Nat) (st : M.Step), vs = [x, .int (h : Int)] ∧ StepAt C H st x ∧ M.Step.fine h st ∧ Q (.bl true) H
theorem scSt : FnScope ["value", "head", "kind"] ["value", "head"] (defScope sStep) := ⟨rfl, rfl, rfl, by decide +kernel, rfl, by decide +kernel, by decide +kernel⟩
theorem kinds : ("road" : Str) ≠ "join" ∧ ("road" : Str) ≠ "tunnel" ∧ ("join" : Str) ≠ "tunnel" ∧ ("join" : Str) ≠ "road" ∧ ("tunnel" : Str) ≠ "road" ∧ ("tunnel" : Str) ≠ "join" := by decide +kernel
theorem ok_step {f : Addr} {fd : FuncData} (F : Fun K "_is_step" "_is_step" sStep f fd) (B : Bn mg) (T : Wt K mg C) (WR : Df P w K mg base 3 "is_road" ["size", "sealed", "loose", "least"] spRoad) (WM : Df P w K mg base 3 "is_most" ["value"] (spIn1 1 1000000000000)) (WT : Df P w K mg base 1 "is_tells" ["value"] spTells) :
    FnOk P w K mg base CX0 5 f fd ["value", "head"] (spStep C) := by
  obtain ⟨fR, fdR, GR, gR, kR, bR⟩ := WR.ex
  obtain ⟨fM, fdM, GM, gM, kM, bM⟩ := WM.ex
  obtain ⟨fT, fdT, GT, gT, kT, bT⟩ := WT.ex
  refine F.ok scSt (fun vs H Q E h => ?_) (fun cdv A outer s H vs Q E hr h => ?_)
  · obtain ⟨x, h, st, rfl, _⟩ := h
    rfl
  · obtain ⟨x, h, st, rfl, hx, hf, k⟩ := h
    refine ⟨_, pss_cons (ps_if (PW.pt (pw_or (pt_not (pt_val (pe_callB call_isi (by rfl) B.isi (by decide +kernel) (pa_cons (pv 0) (pa_cons (pe_bltn (v := .ty "tuple") (by rfl) B.tuple (by decide +kernel) rfl) pa_nil))))) (pw_or1 (pt_cmpR (op_eq) (pe_callB call_len_seq (by rfl) B.len PySem.boot_len (pa_cons (pv 0) pa_nil)) (pe_int) (nomark _))))) (pss_one (ps_ret pe_bl)) (pss_nil))
      (pss_cons (ps_set (i := 2) scSt.nd rfl (Or.inl rfl) (pe_ix ix_tup (pv 0) pe_int (fun _ _ => rfl)))
      (pss_cons (ps_if (pt_cmpR (op_eq) (pv 2) (pe_str) (nomark _)) (pss_one (ps_ret (pe_and (pe_cmpR (op_eq) (pe_callB call_len_seq (by rfl) B.len PySem.boot_len (pa_cons (pv 0) pa_nil)) (pe_int) (nomark _)) (pe_one (pe_call GR (hr.mono (by decide)) rfl gR kR bR .nil pass0 (pa_cons (pe_ix ix_tup (pv 0) pe_int (fun _ _ => rfl)) (pa_cons (pe_ix ix_tup (pv 0) pe_int (fun _ _ => rfl)) (pa_cons (pe_ix ix_tup (pv 0) pe_int (fun _ _ => rfl)) (pa_cons (pe_op op_add (pv 1) (pe_int)) pa_nil))))))))) (pss_nil))
      (pss_cons (ps_if (pt_cmpR (op_eq) (pv 2) (pe_str) (nomark _)) (pss_one (ps_ret (pe_and (pe_cmpR (op_eq) (pe_callB call_len_seq (by rfl) B.len PySem.boot_len (pa_cons (pv 0) pa_nil)) (pe_int) (nomark _)) (pe_one (pe_call GM (hr.mono (by decide)) rfl gM kM bM .nil pass0 (pa_cons (pe_ix ix_tup (pv 0) pe_int (fun _ _ => rfl)) pa_nil)))))) (pss_nil))
      (pss_cons (ps_if (pt_cmpR (op_eq) (pv 2) (pe_str) (nomark _)) (pss_one (ps_ret (pe_and (pe_cmpR (op_eq) (pe_callB call_len_seq (by rfl) B.len PySem.boot_len (pa_cons (pv 0) pa_nil)) (pe_int) (nomark _)) (pe_and (pe_callB call_isi (by rfl) B.isi (by decide +kernel) (pa_cons (pe_ix ix_tup (pv 0) pe_int (fun _ _ => rfl)) (pa_cons (pe_glob (v := .ref C) rfl T.g rfl) pa_nil))) (pe_and (pe_call GM (hr.mono (by decide)) rfl gM kM bM .nil pass0 (pa_cons (pe_ix ix_tup (pv 0) pe_int (fun _ _ => rfl)) pa_nil)) (pe_one (pe_call GT (hr.mono (by decide)) rfl gT kT bT .nil pass0 (pa_cons (pe_ix ix_tup (pv 0) pe_int (fun _ _ => rfl)) pa_nil)))))))) (pss_nil))
      (pss_one (ps_ret pe_bl)))))), ?_⟩
    have pre : ∀ (t : Addr) (y : V) (ys : List V), x = .ref t → H t = some (.tup (y :: ys)) → ∀ (D : Ends) (rest : TS), rest D [some x, some (.int (h : Int)), some y] H →
        tSeq (tIfS (tOr (tNot (tB (tCB (rIsi K) (tCons (tVar 0) (tCons (tC (.ty "tuple")) tNil))))) (tTest (tOp rEq (tCB (fun xs H Q => ∃ p ys, xs = [.ref p] ∧ (SqL K H p ys ∨ SqT K H p ys) ∧ Q (.int ys.length) H) (tCons (tVar 0) tNil)) (tC (.int 0))))) (tRet (tC (.bl false))) tNext)
          (tSeq (tAsg (tOp (rIxT K) (tVar 0) (tC (.int 0))) (gName 2)) rest) D [some x, some (.int (h : Int)), none] H := by
      intro t y ys ex ht D rest q
      subst ex
      refine ⟨_, rfl, _, _, _, _, _, rfl, .ty _, .base (.tup ht), kit_ty (r := true) (by decide +kernel), _, rfl, iteF ⟨_, rfl, t, _, rfl, .inr (SqT.of ht), rfl, _, rfl, ?_⟩⟩
      have e : decide (V.int ((y :: ys).length : Int) = V.int 0) = false := decide_eq_false (by
        intro z
        injection z with z
        simp at z
        omega)
      rw [e]
      exact iteF ⟨_, rfl, t, _, _, y, rfl, rfl, SqT.of ht, (by exact atI_nat (xs := y :: ys) (j := 0) rfl), q⟩
    have yes : ∀ {a : Str}, decide (V.str a = V.str a) = true := decide_eq_true rfl
    have no : ∀ {a b : Str}, a ≠ b → decide (V.str a = V.str b) = false := fun h => decide_eq_false fun z => h (V.str.inj z)
    cases st with
    | road size ts lw =>
      unfold StepAt at hx
      unfold M.Step.fine at hf
      obtain ⟨t, rfl, ht⟩ := hx
      refine pre t _ _ rfl ht _ _ ⟨_, rfl, rfl, _, rfl, ?_⟩
      rw [yes]
      exact iteT ⟨_, rfl, t, _, rfl, .inr (SqT.of ht), rfl, _, rfl, iteT ⟨_, rfl, t, _, _, _, rfl, rfl, SqT.of ht, (by exact atI_nat (xs := [V.str "road", .int (size : Int), .str (sdS ts), .str (lwS lw)]) (j := 1) rfl), _, rfl, t, _, _, _, rfl, rfl, SqT.of ht, (by exact atI_nat (xs := [V.str "road", .int (size : Int), .str (sdS ts), .str (lwS lw)]) (j := 2) rfl), _, rfl, t, _, _, _, rfl, rfl, SqT.of ht, (by exact atI_nat (xs := [V.str "road", .int (size : Int), .str (sdS ts), .str (lwS lw)]) (j := 3) rfl), _, rfl, _, _, rfl, rfl, size, (h : Int) + 1, ts, lw, rfl, by omega, hf.2, k⟩⟩
    | join most =>
      unfold StepAt at hx
      unfold M.Step.fine at hf
      obtain ⟨t, rfl, ht⟩ := hx
      refine pre t _ _ rfl ht _ _ ⟨_, rfl, rfl, _, rfl, ?_⟩
      rw [no kinds.2.2.2.1]
      refine iteF ⟨_, rfl, rfl, _, rfl, ?_⟩
      rw [yes]
      refine iteT ⟨_, rfl, t, _, rfl, .inr (SqT.of ht), rfl, _, rfl, iteT ⟨_, rfl, t, _, _, _, rfl, rfl, SqT.of ht, (by exact atI_nat (xs := [V.str "join", V.int (most : Int)]) (j := 1) rfl), most, rfl, ?_⟩⟩
      rw [decide_eq_true (by omega)]
      exact k
    | tunnel w most tw =>
      unfold StepAt at hx
      unfold M.Step.fine at hf
      obtain ⟨t, a, rfl, ht, hw⟩ := hx
      refine pre t _ _ rfl ht _ _ ⟨_, rfl, rfl, _, rfl, ?_⟩
      rw [no kinds.2.2.2.2.1]
      refine iteF ⟨_, rfl, rfl, _, rfl, ?_⟩
      rw [no kinds.2.2.2.2.2]
      refine iteF ⟨_, rfl, rfl, _, rfl, ?_⟩
      rw [yes]
      obtain ⟨wh, ws⟩ := w
      unfold WayAt at hw
      obtain ⟨dx, u, xs, h1, _, _⟩ := hw
      have kit : PySem.W.kitOne K (.ref C) (.ref C) = some true := by
        unfold PySem.W.kitOne
        rw [if_pos (by simp)]
      refine iteT ⟨_, rfl, t, _, rfl, .inr (SqT.of ht), rfl, _, rfl, iteT ⟨_, rfl, t, _, _, _, rfl, rfl, SqT.of ht, (by exact atI_nat (xs := [V.str "tunnel", .ref a, .int (most : Int), .str (twS tw)]) (j := 1) rfl), _, _, _, _, true, rfl, .own C, .base (.ins h1 T.cl T.iA T.iN T.iT T.iM), kit, _, rfl, iteT ⟨_, rfl, t, _, _, _, rfl, rfl, SqT.of ht, (by exact atI_nat (xs := [V.str "tunnel", .ref a, .int (most : Int), .str (twS tw)]) (j := 2) rfl), most, rfl, ?_⟩⟩⟩
      rw [decide_eq_true (by omega)]
      exact ⟨_, rfl, iteT ⟨_, rfl, t, _, _, _, rfl, rfl, SqT.of ht, (by exact atI_nat (xs := [V.str "tunnel", .ref a, .int (most : Int), .str (twS tw)]) (j := 3) rfl), tw, rfl, k⟩⟩
end
end WP

end
section
set_option autoImplicit false
set_option Elab.async false
set_option linter.all false
set_option maxRecDepth 100000
set_option maxHeartbeats 4000000
namespace WP
open PySem L2 G PyProof.Rows
/-! ### a tuple that is counted through -/
theorem en_new {v : Value} {o : Obj} {Hd : Heap → Prop} (B : Begins v o Hd) : Meets (Builtin.«enumerate.__new__» ⟨[.type "enumerate", v], []⟩) (fun _ R u => Hd u.heap ∧ R (.ok (.ret (.ref (u.heap.push o).objs.size))) { u with heap := (u.heap.push o).push { cls := .type "enumerate", data := .fields #[.none, .bool false, .ref u.heap.objs.size, rawInt 0, .none, .none] } }) :=
  .of_wp fun prog w A R u h => by
    obtain ⟨x, g, d, k, os⟩ := u
    obtain ⟨h1, h⟩ := h
    have sb := sub_enumerate
    have q1 : ∀ {A2 : Around} {E : Value → Shared → Prop} {Q : Value → Shared → Prop}, Q (.ref x.objs.size) ⟨x.push o, g, d, k, os⟩ → wpAny (model prog w) A2 (pyIter v) Q E ⟨x, g, d, k, os⟩ := fun q => B.iter prog w _ _ ⟨x, g, d, k, os⟩ _ h1 q
    wp_walk using q1
    refine wpAny_stack_any fun _ => wpAny_pure ?_
    split
    · rename_i c _ _ _ _ _
      cases (c == Value.type "enumerate") <;> (wp_walk using q1; exact ⟨_, rfl, h⟩)
    · (wp_walk using q1; exact ⟨_, rfl, h⟩)
theorem en_call {prog : Program} {w : World} {A : Around} {E : Value → Shared → Prop} {s : Shared} {v : Value} {o : Obj} {Hd : Heap → Prop} {Q : Value → Shared → Prop} (B : Begins v o Hd) (h1 : Hd s.heap)
    (h : ∀ u, IsEnum u (s.heap.objs.size + 1) s.heap.objs.size 0 .none → u.get? s.heap.objs.size = some o → (∀ b p, s.heap.get? b = some p → u.get? b = some p) → Q (.ref (s.heap.objs.size + 1)) { s with heap := u }) : wpAny (model prog w) A (call (.type "enumerate") [v]) Q E s := by
  refine callType_new F.called_enumerate (by decide) (F.typeCall_enumerate_1 _) (F.newCall_enumerate_1 _) (fun x => F.args_object_init_2 x _) F.entry_enumerate_new (en_new B) ⟨h1, ?_⟩
  have z : (s.heap.push o).objs.size = s.heap.objs.size + 1 := Heap.size_push ..
  show _ ∧ _
  rw [z]
  have he := Heap.get?_push_size (s.heap.push o) (o := { cls := .type "enumerate", data := .fields #[.none, .bool false, .ref s.heap.objs.size, rawInt 0, .none, .none] }) rfl
  rw [z] at he
  exact ⟨⟨_, he, rfl⟩, h _ he (Heap.get?_push_of_some _ (Heap.get?_push_size _ B.free)) fun b p e => Heap.get?_push_of_some _ (Heap.get?_push_of_some _ e)⟩
/-- the tuple at a, each item in a new pair behind its place -/
def Iet (K : PySem.W.Frag) (a : Addr) : It where
  go := fun i H => ∃ (xs : List V) (x : V), SqT K H a xs ∧ xs[i]? = some x
  yld := fun i H v H' => ∃ T x, v = .ref T ∧ H T = none ∧ H' = upd H T (.tup [.int (i : Nat), x]) ∧ ∀ xs, SqT K H a xs → xs[i]? = some x
  stop := fun i H => ∃ xs : List V, SqT K H a xs ∧ xs.length ≤ i
theorem turn_et {P : Program} {w : World} {K : PySem.W.Frag} {elts : List Expr} {kk : Nat} {tpos : Pos} (a e it : Addr) (hae : a ≠ e) (hai : a ≠ it) :
    Turn P w K (.Tuple elts kk tpos) (Iet K a) [e, it] e (fun i h => (∃ x, IsEnum h e it ((i : Nat) : Int) x) ∧ h.IsTupleIter it a i ∧ e ≠ it) where
  mem := List.mem_cons_self
  obj := fun i h st b hb => by
    obtain ⟨⟨x, he⟩, ⟨o, ho, hc, hd⟩, _⟩ := st
    rcases List.mem_cons.mp hb with z | z
    · subst z
      exact ⟨_, he, fun v q => nomatch q⟩
    · have z2 : b = it := by simpa using z
      subst z2
      exact ⟨o, ho, fun v q => by rw [hd] at q; cases q⟩
  keep := fun i h h' st k => by
    obtain ⟨⟨x, he⟩, hi, hn⟩ := st
    exact ⟨⟨x, k e (by simp) _ he⟩, hi.at fun o q => k it (by simp) o q, hn⟩
  item := by
    intro X hP hw hK hc i
    intro pins s σ H E I hf st hg
    subst hP hw hK
    obtain ⟨⟨_, he⟩, hit, hne⟩ := st
    obtain ⟨xs, x, hq, hx⟩ := hg
    obtain ⟨its, rv, p, lz⟩ := I.tuple hq
    obtain ⟨u, hu, ru⟩ := rv.get hx
    have hi : i < its.toArray.size := by
      have := List.getElem?_eq_some_iff.mp hu
      obtain ⟨z, _⟩ := this
      simpa using z
    have le : e < s.heap.objs.size := Heap.lt_size he
    have li : it < s.heap.objs.size := by
      obtain ⟨_, q, _⟩ := hit
      exact Heap.lt_size q
    have hef : e ∉ [it, a] := by
      intro z
      rcases List.mem_cons.mp z with z | z
      · exact hne z
      · have z2 : e = a := by simpa using z
        exact hae z2.symm
    refine wpAny_pyNext_enum_itemD (Draws.tuple (A := X.A.in1) (by exact I.ok.hd hc) it a hai its.toArray) he ⟨hit, show s.heap.IsTuple a its.toArray from p⟩ hi hne hef fun y h' tk hy ho hs hT hsz hk => ?_
    have ey : y = u := by
      have q : its.toArray[i]? = some u := by simpa using hu
      rw [q] at hy
      exact (Option.some.inj hy).symm
    subst ey
    refine ⟨_, rfl, wpAny_letOwnedTupleGo_enum (s := { s with heap := h', toks := tk + 1 }) ho fun h2 he2 sb => ?_⟩
    have hT2 : h2.get? s.heap.objs.size = some { cls := .type "tuple", data := .seq #[.int i tk, y] } := (sb.2 _ (Nat.ne_of_gt le)).trans hT
    have new : ObjOk X.prog X.w (upd H s.heap.objs.size (.tup [.int (i : Nat), x])) h2 s.heap.objs.size (.tup [.int (i : Nat), x]) :=
      ⟨by show 2 ≤ sizeLine; decide, [.int i tk, y], .cons ⟨_, rfl⟩ (.cons ru .nil), ⟨_, hT2, rfl, _, rfl⟩⟩
    have keep : ∀ b ob, b ∉ [e, it] → s.heap.get? b = some ob → h2.get? b = some ob := fun b ob hb q => (sb.2 b (fun z => hb (by simp [z]))).trans (hk b ob (fun z => hb (by simp [z])) (fun z => hb (by simp [z])) q)
    have I1 : Inv X pins σ (upd H s.heap.objs.size (.tup [.int (i : Nat), x])) { s with heap := h2, toks := tk + 1 } := I.turnedNew (ch := [e, it]) keep hf (Nat.le_refl _) new
    refine ⟨.ref s.heap.objs.size, _, I1, rfl, ⟨_, x, rfl, I.hok.fresh (Nat.le_refl _), rfl, fun ys hy => by rw [I.tuple_inj hy hq]; exact hx⟩, ⟨⟨y, ?_⟩, hs.1.at fun o q => (sb.2 it (Ne.symm hne)).trans q, hne⟩, fun b hb => ?_⟩
    · rw [show ((i + 1 : Nat) : Int) = (i : Int) + 1 by omega]
      exact he2
    · have lb : b < s.heap.objs.size := by
        rcases List.mem_cons.mp hb with z | z
        · rw [z]; exact le
        · rw [show b = it by simpa using z]; exact li
      rw [upd_ne (Nat.ne_of_lt lb)]
      exact (hf b hb).1
  done := by
    intro X hP hw hK hc i
    intro pins s σ H E I hf st hg
    subst hP hw hK
    obtain ⟨⟨_, he⟩, hit, hne⟩ := st
    obtain ⟨xs, hq, hx⟩ := hg
    obtain ⟨its, rv, p, lz⟩ := I.tuple hq
    have ⟨f0, f1, f2, f3, f4, f5⟩ := hf it (List.mem_cons_of_mem _ List.mem_cons_self)
    have hl := rv.length
    have hTe : s.TypeIs (.ref e) "enumerate" := ⟨_, he, rfl⟩
    unfold pyNext
    refine wpAny_bind (wpAny_attempt (wpAny_callSpecial?_slot (name := Str.ofString "__next__") hTe F.slot_enumerate_next (wpAny_call_entry F.slot_enumerate_next hTe F.entry_enumerate_next ?_ (F.args_enumerate_next_1 _))))
    refine (show wpAny _ _ (field (.ref e) 2 >>= _) _ _ _ from ?_)
    refine wpAny_bind (wpAny_field he rfl (x := .ref it) rfl (wpAny_bind (wpAny_nextOf_tuple_end (I.ok.hd hc) hit (show s.heap.IsTuple a its.toArray from p) (by simp; omega) fun h' x hx1 hx2 => ?_)))
    obtain ⟨o, ho, hc2⟩ := hx2
    exact wpAny_bind (wpAny_isInstance (T := "StopIteration") (b := true) ⟨o, ho, hc2⟩ isSubtype_stop (wpAny_pure ⟨rfl, I.turned (t' := s.toks) (fun b o hb q => hx1 b o hb q) f0 f1 f3 f4 f5⟩))
  self := fun _ _ s Q E st h => by
    obtain ⟨⟨x, he⟩, _⟩ := st
    exact wpAny_pyIter_enum he h
def iEnT (K : PySem.W.Frag) (ta : TA) : TI := fun σ H R => ta σ H fun vs H1 => ∃ a xs, vs = [.ref a] ∧ SqT K H1 a xs ∧ R (Iet K a) H1
theorem pi_et {X : Cx} {e : Expr} {ta : TA} {p pos tpos : Pos} {elts : List Expr} {kk : Nat} (hg : Gl X "enumerate") (hm : X.mg "enumerate" = none) (ha : PA X [e] ta) (hs : starEach [e] X.env = [(false, eval e X.env)] := by rfl) : PI X (.Tuple elts kk tpos) (.Call (.Name "enumerate" p) [e] [] pos) (iEnT X.K ta) := by
  constructor
  intro pins s σ H R I h
  refine Call_ (ld_blt I hg hm boot_enumerate (PyProof.Rows.callWith_type1 (thn (ha.run pos pins s σ H _ I h) fun us s1 ⟨vs, H1, I1, r1, a, xs, ex, hq, q⟩ => ?_) hs rfl))
  subst ex
  cases r1 with
  | cons r rr =>
    cases rr
    cases r
    obtain ⟨its, rv, p', hz⟩ := I1.tuple hq
    have p2 : s1.heap.IsTuple a its.toArray := p'
    have la : a < s1.heap.objs.size := by
      obtain ⟨_, q, _⟩ := p2
      exact Heap.lt_size q
    refine en_call (begins_tuple a its.toArray) p2 fun u he hit hk => wpAny_pyIter_enum he ?_
    have I2 : Inv X pins σ H1 { s1 with heap := u } := I1.kept (t' := s1.toks) hk
    refine ⟨_, [s1.heap.objs.size + 1, s1.heap.objs.size], _, _, H1, rfl, I2, turn_et a (s1.heap.objs.size + 1) s1.heap.objs.size (Nat.ne_of_lt (Nat.lt_succ_of_lt la)) (Nat.ne_of_lt la), ⟨⟨.none, he⟩, ⟨_, hit, rfl, rfl⟩, Nat.succ_ne_self _⟩, fun b hb => ?_, q⟩
    have sb : s1.heap.objs.size ≤ b := by
      rcases List.mem_cons.mp hb with z | z
      · rw [z]; exact Nat.le_add_right _ _
      · rw [show b = s1.heap.objs.size by simpa using z]
        exact Nat.le_refl _
    exact I1.fpOk sb (I1.hok.fresh sb)
theorem walk_et {K : PySem.W.Frag} {a : Addr} {xs : List V} : Walk (Iet K a) xs.length (fun H => SqT K H a xs) (YPair (fun i => some (.int (i : Nat))) (fun i => xs[i]?)) where
  goes := fun i _ hi q => ⟨xs, xs[i], q, by simp [hi]⟩
  stops := fun _ q => ⟨xs, q, Nat.le_refl _⟩
  yields := fun i H v H' _ q y => by
    obtain ⟨T, x, h1, h2, h3, h4⟩ := y
    exact ⟨T, _, x, h1, h2, h3, rfl, h4 xs q⟩
end WP

end
section
set_option autoImplicit false
set_option Elab.async false
set_option linter.all false
set_option maxRecDepth 100000
set_option maxHeartbeats 4000000
/-! ## Way.__init__ for good rows: the pieces -/
namespace M
def tuns : List Step → List Way
  | [] => []
  | .tunnel w _ _ :: r => w :: tuns r
  | .road _ _ _ :: r => tuns r
  | .join _ :: r => tuns r
theorem tuns_app : ∀ (l m : List Step), tuns (l ++ m) = tuns l ++ tuns m
  | [], m => rfl
  | .tunnel w a b :: r, m => by
    show w :: tuns (r ++ m) = w :: tuns r ++ tuns m
    rw [tuns_app r m]; rfl
  | .road a b c :: r, m => tuns_app r m
  | .join a :: r, m => tuns_app r m
theorem tuns_len : ∀ l : List Step, (tuns l).length ≤ l.length
  | [] => Nat.le_refl _
  | .tunnel w a b :: r => by
    show (tuns r).length + 1 ≤ r.length + 1
    exact Nat.succ_le_succ (tuns_len r)
  | .road a b c :: r => Nat.le_succ_of_le (tuns_len r)
  | .join a :: r => Nat.le_succ_of_le (tuns_len r)
theorem inner_eq : ∀ st : List Step, Step.inner st = ((tuns st).map Way.size).sum
  | [] => by simp [Step.inner, tuns]
  | .tunnel w a b :: r => by
    unfold Step.inner tuns
    rw [inner_eq r, List.map_cons, List.sum_cons]
  | .road a b c :: r => by
    unfold Step.inner tuns
    exact inner_eq r
  | .join a :: r => by
    unfold Step.inner tuns
    exact inner_eq r
theorem deepest_eq : ∀ st : List Step, Step.deepest st = (tuns st).foldr (fun w d => max w.depth d) 0
  | [] => by simp [Step.deepest, tuns]
  | .tunnel w a b :: r => by
    unfold Step.deepest tuns
    rw [deepest_eq r, List.foldr_cons]
  | .road a b c :: r => by
    unfold Step.deepest tuns
    exact deepest_eq r
  | .join a :: r => by
    unfold Step.deepest tuns
    exact deepest_eq r
theorem fold_max : ∀ (l : List Int) (a b : Int), (l.foldl max (max a b)) = max a (l.foldl max b)
  | [], a, b => rfl
  | c :: r, a, b => by
    show r.foldl max (max (max a b) c) = max a (r.foldl max (max b c))
    rw [Int.max_assoc, fold_max r a (max b c)]
theorem deep_max (ws : List Way) : (match ws.map fun w => ((w.depth : Nat) : Int) with | [] => (0 : Int) | n :: r => r.foldl max n) = ((ws.foldr (fun w d => max w.depth d) 0 : Nat) : Int) := by
  induction ws with
  | nil => rfl
  | cons w r ih =>
    show ((r.map fun w => ((w.depth : Nat) : Int)).foldl max ((w.depth : Nat) : Int)) = _
    cases r with
    | nil => show ((w.depth : Nat) : Int) = ((max w.depth 0 : Nat) : Int); rw [Nat.max_zero]
    | cons v q =>
      show ((q.map fun w => ((w.depth : Nat) : Int)).foldl max (max ((w.depth : Nat) : Int) ((v.depth : Nat) : Int))) = _
      rw [fold_max]
      have e : ((q.map fun w => ((w.depth : Nat) : Int)).foldl max ((v.depth : Nat) : Int)) = (((v :: q).foldr (fun w d => max w.depth d) 0 : Nat) : Int) := ih
      rw [e]
      show _ = ((max w.depth ((v :: q).foldr (fun w d => max w.depth d) 0) : Nat) : Int)
      omega
theorem sum_cast (ws : List Way) : (ws.map fun w => ((w.size : Nat) : Int)).sum = (((ws.map Way.size).sum : Nat) : Int) := by
  induction ws with
  | nil => rfl
  | cons w r ih => rw [List.map_cons, List.sum_cons, ih, List.map_cons, List.sum_cons]; omega
end M
namespace WP
open PySem L2 G
section
variable {X : Cx} {tg it : Expr}
theorem pi_or {w1 w2 : TI} (h1 : PI X tg it w1) (h2 : PI X tg it w2) : PI X tg it (fun σ H R => w1 σ H R ∨ w2 σ H R) := ⟨fun pins s σ H R I h => h.elim (h1.run pins s σ H R I) (h2.run pins s σ H R I)⟩
def tDead : TS := fun _ _ _ => False
theorem ps_dead {b : List Stmt} : PSs X b tDead := ⟨fun _ _ _ _ _ _ h => h.elim⟩
end
def SAt (H : Hp) (l : Addr) (xs : List V) : Prop := H l = some (.lst xs) ∨ H l = some (.tup xs)
theorem SAt.mono {H H' : Hp} {l : Addr} {xs : List V} (s : Same H H') (h : SAt H l xs) : SAt H' l xs := h.elim (fun e => .inl (s _ _ e)) fun e => .inr (s _ _ e)
section
variable {K : PySem.W.Frag} {H : Hp} {σ : St} {l : Addr} {xs : List V}
theorem or_seq {te : TE} {R : It → Hp → Prop} (ht : ∀ Q : VK, Q (.ref l) H → te σ H Q) (hl : SAt H l xs) (k : ∀ (J : It) (Gd : Hp → Prop), (∀ H', Same H H' → Gd H') → Walk J xs.length Gd (YAt xs) → R J H) : iList K te σ H R ∨ iTup K te σ H R :=
  hl.elim (fun e => .inl (ht _ ⟨l, rfl, ⟨xs, SqL.of e⟩, k _ _ (fun H' s => SqL.of (s _ _ e)) walk_list⟩)) fun e => .inr (ht _ ⟨l, rfl, ⟨xs, SqT.of e⟩, k _ _ (fun H' s => SqT.of (s _ _ e)) walk_tup⟩)
theorem or_enum {ta : TA} {R : It → Hp → Prop} (ht : ∀ Q : List V → Hp → Prop, Q [.ref l] H → ta σ H Q) (hl : SAt H l xs) (k : ∀ (J : It) (Gd : Hp → Prop), (∀ H', Same H H' → Gd H') → Walk J xs.length Gd (YPair (fun i => some (.int (i : Nat))) (fun i => xs[i]?)) → R J H) : iEnum K ta σ H R ∨ iEnT K ta σ H R :=
  hl.elim (fun e => .inl (ht _ ⟨l, xs, rfl, SqL.of e, k _ _ (fun H' s => SqL.of (s _ _ e)) walk_enum⟩)) fun e => .inr (ht _ ⟨l, xs, rfl, SqT.of e, k _ _ (fun H' s => SqT.of (s _ _ e)) walk_et⟩)
end
/-- ways at addresses -/
inductive WaysAt (C : Addr) (H : Hp) : List M.Way → List V → Prop
  | nil : WaysAt C H [] []
  | cons {w : M.Way} {a : Addr} {ws : List M.Way} {vs : List V} (h : WayAt C H w a) (t : WaysAt C H ws vs) : WaysAt C H (w :: ws) (.ref a :: vs)
theorem WaysAt.mono {C : Addr} {H H' : Hp} (s : Same H H') {ws : List M.Way} {vs : List V} (h : WaysAt C H ws vs) : WaysAt C H' ws vs := by
  induction h with
  | nil => exact .nil
  | cons h _ ih => exact .cons (h.mono s) ih
theorem WaysAt.snoc {C : Addr} {H : Hp} {ws : List M.Way} {vs : List V} {w : M.Way} {a : Addr} (h : WaysAt C H ws vs) (hw : WayAt C H w a) : WaysAt C H (ws ++ [w]) (vs ++ [.ref a]) := by
  induction h with
  | nil => exact .cons hw .nil
  | cons h _ ih => exact .cons h ih
theorem WaysAt.len {C : Addr} {H : Hp} {ws : List M.Way} {vs : List V} (h : WaysAt C H ws vs) : vs.length = ws.length := by
  induction h with
  | nil => rfl
  | cons _ _ ih => simp [ih]
theorem WaysAt.get {C : Addr} {H : Hp} {ws : List M.Way} {vs : List V} (h : WaysAt C H ws vs) : ∀ {i : Nat} {v : V}, vs[i]? = some v → ∃ w a, ws[i]? = some w ∧ v = .ref a ∧ WayAt C H w a := by
  induction h with
  | nil => intro i v e; cases e
  | cons h t ih =>
    intro i v e
    cases i with
    | zero => cases e; exact ⟨_, _, rfl, rfl, h⟩
    | succ i => obtain ⟨w, a, e1, e2, e3⟩ := ih (i := i) e; exact ⟨w, a, e1, e2, e3⟩
end WP

end
section
set_option autoImplicit false
set_option Elab.async false
set_option linter.all false
set_option maxRecDepth 100000
set_option maxHeartbeats 4000000
/-! ## Way.__init__ for good rows -/
namespace WP
open PySem L2 G
section
variable {P : Program} {w : World} {K : PySem.W.Frag} {mg : Str → Option Value} {base : Heap} {C : Addr}
abbrev NI : List Str := ["self", "head", "steps", "position", "step", "inner_ways", "depth", "size", "inner"]
theorem scI : FnScope NI ["self", "head", "steps"] (defScope sInit) := ⟨rfl, rfl, rfl, by decide +kernel, rfl, by decide +kernel, by decide +kernel⟩
/-- the ways of the tunnels -/
def tTuns (K : PySem.W.Frag) : TE := tLc (fun σ H R => iList K (tVar 2) σ H R ∨ iTup K (tVar 2) σ H R) (gName 4) (tTest (tOp rEq (tOp (rIxT K) (tVar 4) (tC (.int 0))) (tC (.str "tunnel")))) (tOp (rIxT K) (tVar 4) (tC (.int 1))) [4]
theorem add_upd {H G : Hp} {D : Addr} {o : HO} (nD : H D = none) (s : Same H G) : Same H (upd G D o) := fun b u e => by
  rw [upd_ne (ne_of_none e nD)]
  exact s _ _ e
theorem take_snoc {α : Type} {l : List α} {i : Nat} {x : α} (h : l[i]? = some x) : l.take (i + 1) = l.take i ++ [x] := by
  rw [List.take_succ, h]
  rfl
theorem tuns_run {σ : St} {H : Hp} {a0 a1 p q a5 a6 a7 a8 : Option V} {l : Addr} {xs : List V} {st : List M.Step} {Q : VK} (hσ : σ = [a0, a1, some (.ref l), p, q, a5, a6, a7, a8]) (hl : SAt H l xs) (hs : StepsAt C H st xs) (hn : xs.length ≤ 1000)
    (k : ∀ D vs H', Same H H' → H' D = some (.lst vs) → WaysAt C H (M.tuns st) vs → Q (.ref D) H') : tTuns K σ H Q := by
  subst hσ
  have yes : ∀ {a : Str}, decide (V.str a = V.str a) = true := decide_eq_true rfl
  have no : ∀ {a b : Str}, a ≠ b → decide (V.str a = V.str b) = false := fun h => decide_eq_false fun z => h (V.str.inj z)
  refine or_seq (fun Q h => ⟨_, rfl, h⟩) hl fun J Gd hG wk D nD => ?_
  refine lc_it wk (fun i G => Same H G ∧ ∃ acc, acc.length ≤ i ∧ G D = some (.lst acc) ∧ WaysAt C H (M.tuns (st.take i)) acc) ⟨Same.of_upd nD, [], Nat.le_refl _, upd_same, .nil⟩ (fun i G _ p => hG G p.1) ?_ ?_
  · rintro i v G G' hi ⟨s, acc, hA, hD, hw⟩ ⟨rfl, hx⟩
    obtain ⟨sp, hsp, hst⟩ := hs.get hx
    have et := take_snoc hsp
    have la : acc.length < sizeLine := Nat.lt_of_lt_of_le (Nat.lt_of_le_of_lt hA hi) (Nat.le_trans hn (by decide))
    have z1 : ∀ {y0 : V} {ys : List V}, atI (y0 :: ys) (0 : Int) = some y0 := fun {y0 ys} => by exact atI_nat (xs := y0 :: ys) (j := 0) rfl
    refine ⟨rfl, ?_⟩
    have hst2 := hst
    cases sp with
    | road size ts lw =>
      unfold StepAt at hst
      obtain ⟨t, rfl, ht⟩ := hst
      refine ⟨_, rfl, t, _, _, _, rfl, rfl, SqT.of (s _ _ ht), z1, rfl, _, rfl, ?_⟩
      rw [no kinds.2.1]
      refine iteF ⟨s, acc, Nat.le_succ_of_le hA, hD, ?_⟩
      rw [et, M.tuns_app]
      exact (List.append_nil _).symm ▸ hw
    | join most =>
      unfold StepAt at hst
      obtain ⟨t, rfl, ht⟩ := hst
      refine ⟨_, rfl, t, _, _, _, rfl, rfl, SqT.of (s _ _ ht), z1, rfl, _, rfl, ?_⟩
      rw [no kinds.2.2.1]
      refine iteF ⟨s, acc, Nat.le_succ_of_le hA, hD, ?_⟩
      rw [et, M.tuns_app]
      exact (List.append_nil _).symm ▸ hw
    | tunnel wy most tw =>
      unfold StepAt at hst
      obtain ⟨t, a, rfl, ht, hway⟩ := hst
      refine ⟨_, rfl, t, _, _, _, rfl, rfl, SqT.of (s _ _ ht), z1, rfl, _, rfl, ?_⟩
      rw [yes]
      refine iteT ⟨_, rfl, t, _, _, _, rfl, rfl, SqT.of (s _ _ ht), (by exact atI_nat (xs := [V.str "tunnel", V.ref a, V.int (most : Int), V.str (twS tw)]) (j := 1) rfl), acc, hD, la, add_upd nD s, _, by simp; exact hA, upd_same, ?_⟩
      rw [et, M.tuns_app]
      exact hw.snoc hway
  · rintro G ⟨s, acc, hA, hD, hw⟩
    have e : st.take xs.length = st := by rw [hs.len]; exact List.take_length
    rw [e] at hw
    exact k D acc G s hD hw
/-- a field of each of the ways, ints -/
def tFlds (K : PySem.W.Frag) (f : Str) : TE := tLc (iList K (tVar 5)) (gName 8) tYes (tFld K (tVar 8) f) [8]
theorem flds_run {f : Str} {g : M.Way → Int} {σ : St} {H : Hp} {a0 a1 a2 p q a6 a7 a8 : Option V} {D0 : Addr} {vs : List V} {ws : List M.Way} {Q : VK} (T : Wt K mg C) (nf : NoAttr K C f) (hg : ∀ H wy a, WayAt C H wy a → ∃ dx fs, H a = some (.ins C dx fs) ∧ fs.lookup f = some (.int (g wy)))
    (hσ : σ = [a0, a1, a2, p, q, some (.ref D0), a6, a7, a8]) (hl : H D0 = some (.lst vs)) (hw : WaysAt C H ws vs) (hn : vs.length ≤ 1000) (k : ∀ D H', Same H H' → H' D = some (.lst ((ws.map g).map V.int)) → Q (.ref D) H') : tFlds K f σ H Q := by
  subst hσ
  refine ⟨_, rfl, D0, rfl, ⟨vs, SqL.of hl⟩, fun D nD => ?_⟩
  refine lc_it walk_list (fun i G => Same H G ∧ G D = some (.lst ((((ws.take i).map g)).map V.int))) ⟨Same.of_upd nD, upd_same⟩ (fun i G _ p => SqL.of (p.1 _ _ hl)) ?_ ?_
  · rintro i v G G' hi ⟨s, hD⟩ ⟨rfl, hx⟩
    obtain ⟨wy, a, hwi, rfl, hat⟩ := hw.get hx
    obtain ⟨dx, fs, h1, h2⟩ := hg H wy a hat
    refine ⟨rfl, _, rfl, a, C, dx, fs, _, rfl, s _ _ h1, T.cl, nf, h2, _, hD, ?_, add_upd nD s, ?_⟩
    · rw [List.length_map, List.length_map, List.length_take]
      exact Nat.lt_of_le_of_lt (Nat.le_trans (Nat.min_le_left _ _) (Nat.le_of_lt (Nat.lt_of_lt_of_le hi hn))) (by decide)
    · rw [take_snoc hwi, List.map_append, List.map_append, upd_same]
      rfl
  · rintro G ⟨s, hD⟩
    have e : ws.take vs.length = ws := by rw [hw.len]; exact List.take_length
    rw [e] at hD
    exact k D G s hD
theorem depth_fld (H : Hp) (wy : M.Way) (a : Addr) (h : WayAt C H wy a) : ∃ dx fs, H a = some (.ins C dx fs) ∧ fs.lookup ("depth" : Str) = some (.int ((wy.depth : Nat) : Int)) := by
  obtain ⟨wh, ws⟩ := wy
  unfold WayAt at h
  obtain ⟨dx, t, xs, h1, _, _⟩ := h
  refine ⟨dx, _, h1, ?_⟩
  rw [flds_depth]
  unfold M.Way.depth
  rfl
theorem size_fld (H : Hp) (wy : M.Way) (a : Addr) (h : WayAt C H wy a) : ∃ dx fs, H a = some (.ins C dx fs) ∧ fs.lookup ("size" : Str) = some (.int ((wy.size : Nat) : Int)) := by
  obtain ⟨wh, ws⟩ := wy
  unfold WayAt at h
  obtain ⟨dx, t, xs, h1, _, _⟩ := h
  refine ⟨dx, _, h1, ?_⟩
  rw [flds_size]
  unfold M.Way.size
  rfl
end
end WP

end
section
set_option autoImplicit false
set_option Elab.async false
set_option linter.all false
set_option maxRecDepth 100000
set_option maxHeartbeats 4000000
/-! ## Way.__init__ for good rows: the def -/
namespace WP
open PySem L2 G
theorem set_then {te : TE} {i : Nat} {t2 : TS} {D : Ends} {σ : St} {H : Hp} (h : te σ H fun v H1 => t2 D (σ.set i (some v)) H1) : tSeq (tAsg te (gName i)) t2 D σ H := h
theorem add_of {tb : TE} {i : Int} {σ : St} {H : Hp} {Q : VK} (h : tb σ H fun y H2 => ∃ a b, V.int i = .int a ∧ y = .int b ∧ Q (.int (a + b)) H2) : tOp (rI0 fun i j => .int (i + j)) (tC (.int i)) tb σ H Q := h
theorem maxID_at {K : PySem.W.Frag} {H : Hp} {Q : VK} {a : Addr} {ns : List Int} {n : Int} (e : (match ns with | [] => (0 : Int) | n :: r => r.foldl max n) = n) (hq : SqL K H a (ns.map V.int)) (q : Q (.int n) H) : G.rMaxID K [.ref a] [.int 0] H Q := by
  subst e
  refine ⟨a, ns, 0, rfl, rfl, hq, ?_⟩
  cases ns <;> exact q
theorem maxD_of {K : PySem.W.Frag} {tl : TE} {σ : St} {H : Hp} {Q : VK} (h : tl σ H fun x H1 => G.rMaxID K [x] [.int 0] H1 Q) : tCKw (G.rMaxID K) (tCons tl tNil) (tCons (tC (.int 0)) tNil) σ H Q := h
theorem sum_of {K : PySem.W.Frag} {tl : TE} {σ : St} {H : Hp} {Q : VK} (h : tl σ H fun x H1 => rSum K [x] H1 Q) : tCB (rSum K) (tCons tl tNil) σ H Q := h
theorem len_add {K : PySem.W.Frag} {tl : TE} {σ : St} {H : Hp} {Q : VK} {l : Addr} {xs : List V} (hσ : σ[2]? = some (some (.ref l))) (hl : SAt H l xs) (h : tl σ H fun x H1 => rSum K [x] H1 fun y H2 => ∃ a b, V.int (xs.length : Int) = .int a ∧ y = .int b ∧ Q (.int (a + b)) H2) :
    tOp (rI0 fun i j => .int (i + j)) (tCB (fun zs H Q => ∃ p ys, zs = [.ref p] ∧ (SqL K H p ys ∨ SqT K H p ys) ∧ Q (.int ys.length) H) (tCons (tVar 2) tNil)) (tCB (rSum K) (tCons tl tNil)) σ H Q :=
  ⟨_, hσ, l, xs, rfl, hl.elim (fun e => .inl (SqL.of e)) (fun e => .inr (SqT.of e)), h⟩
theorem tup_or {K : PySem.W.Frag} {H : Hp} {l : Addr} {xs : List V} {Q : VK} (hl : SAt H l xs) (k : ∀ t G, Same H G → G t = some (.tup xs) → Q (.ref t) G) : (SqL K H l xs ∧ ∀ q, H q = none → Q (.ref q) (upd H q (.tup xs))) ∨ (SqT K H l xs ∧ Q (.ref l) H) :=
  hl.elim (fun e => .inl ⟨SqL.of e, fun q hq => k _ _ (Same.of_upd hq) upd_same⟩) fun e => .inr ⟨SqT.of e, k _ _ (Same.refl _) e⟩
theorem len_put {f : Str} {v : V} {fs : List (Str × V)} {n : Nat} (h : fs.length < n) : (putF f v fs).length < n + 1 := by
  exact Nat.lt_of_le_of_lt (length_putF f v fs) (Nat.succ_lt_succ h)
section
variable {P : Program} {w : World} {K : PySem.W.Frag} {mg : Str → Option Value} {base : Heap} {C : Addr}
/-- at a new instance x: steps of a list or a tuple, as they stood before it was made -/
def spInit (C : Addr) : Sp := fun vs H Q _ => ∃ (x l dx : Addr) (h : Nat) (xs : List V) (st : List M.Step) (H0 : Hp), vs = [.ref x, .int (h : Int), .ref l] ∧ H x = some (.ins C dx []) ∧ H0 x = none ∧ Same H0 H ∧ SAt H0 l xs ∧ StepsAt C H0 st xs ∧ M.Way.fine (.mk h st) ∧
  ∀ H', Same H0 H' → WayAt C H' (.mk h st) x → Q .non H'
theorem ok_init {f : Addr} {fd : FuncData} (F : Fun K "__init__" "Way.__init__" sInit f fd) (B : Bn mg) (T : Wt K mg C) (W : Df P w K mg base 3 "is_head" ["value"] (spIn1 1 40)) (WL : Df P w K mg base 1 "is_step_list" ["value"] (spList K)) (WS : Df P w K mg base 5 "_is_step" ["value", "head"] (spStep C)) :
    FnOk P w K mg base CX0 6 f fd ["self", "head", "steps"] (spInit C) := by
  obtain ⟨fW, fdW, GW, gW, kW, bW⟩ := W.ex
  obtain ⟨fL, fdL, GL, gL, kL, bL⟩ := WL.ex
  obtain ⟨fS, fdS, GS, gS, kS, bS⟩ := WS.ex
  obtain ⟨t2, g2⟩ := T.gDepth
  obtain ⟨t3, g3⟩ := T.gSize
  refine F.ok scI (fun vs H Q E h => ?_) (fun cdv A outer s H vs Q E hr h => ?_)
  · obtain ⟨x, l, dx, h, xs, st, H0, rfl, _⟩ := h
    rfl
  · obtain ⟨x, l, dx, h, xs, st, H0, rfl, hx, hx0, s0, hl, hs, hf, k⟩ := h
    have r1 := hr.mono (by decide : 1 ≤ 5)
    have r0 := hr.mono (by decide : 3 ≤ 5)
    refine ⟨_, pss_cons (ps_if (pt_not (pt_val (pe_call GW r0 rfl gW kW bW .nil pass0 (pa_cons (pv 1) pa_nil)))) ps_dead pss_nil)
      (pss_cons (ps_if (pt_not (pt_val (pe_call GL r1 rfl gL kL bL .nil pass0 (pa_cons (pv 2) pa_nil)))) ps_dead pss_nil)
      (pss_cons (ps_for PassesOwn.never rfl (pi_or (pi_enum (by rfl) B.enum (pa_cons (pv 2) pa_nil)) (pi_et (by rfl) B.enum (pa_cons (pv 2) pa_nil))) (pg_tup (by rfl) (pgs_cons (pg_name (i := 3) scI.nd rfl (Or.inl rfl)) (pgs_cons (pg_name (i := 4) scI.nd rfl (Or.inl rfl)) pgs_nil)))
        (pss_one (ps_if (pt_not (pt_val (pe_call GS hr rfl gS kS bS .nil pass0 (pa_cons (pv 4) (pa_cons (pv 1) pa_nil))))) ps_dead pss_nil)))
      (pss_cons (ps_setLc (i := 5) (own := [("step", 4)]) (g := gName 4) (tt := tTest (tOp rEq (tOp (rIxT K) (tVar 4) (tC (.int 0))) (tC (.str "tunnel")))) (te := tOp (rIxT K) (tVar 4) (tC (.int 1))) rfl scI.nd rfl rfl (sw_true rfl rfl rfl (by decide +kernel)) (pi_or (pi_list (pv 2)) (pi_tup (pv 2))) (blkOk_by (N := NI) (sc := defScope sInit) (by decide +kernel))
          (fun _ _ _ _ _ => pg_name (i := 4) scI.nd rfl (Or.inl rfl)) (fun _ _ _ _ _ => pts_one (by exact pt_cmpR op_eq (pe_ix ix_tup (pv 4) pe_int (fun _ _ => rfl)) pe_str (nomark _))) (fun _ _ _ _ _ => by exact pe_ix ix_tup (pv 4) pe_int (fun _ _ => rfl)))
      (pss_cons (ps_set (i := 6) scI.nd rfl (Or.inl rfl) (pe_op op_add pe_int (pe_callBK (G.call_maxID rfl hr.units) (by rfl) B.max (by decide +kernel) (pa_cons (pe_lc (own := [("inner", 8)]) (g := gName 8) (tt := tYes) (te := tFld K (tVar 8) "depth") rfl scI.nd (pi_list (pv 5)) (blkOk_by (N := NI) (sc := defScope sInit) (by decide +kernel))
          (fun _ _ _ _ _ => pg_name (i := 8) scI.nd rfl (Or.inl rfl)) (fun _ _ _ _ _ => pts_nil) (fun _ _ _ _ _ => by exact pe_fld (pv 8) rfl)) pa_nil) (pk_cons pe_int pk_nil))))
      (pss_cons (ps_if (pt_cmpR op_gt (pv 6) (pe_glob (v := .int 3) rfl g2 ⟨_, rfl⟩) (nomark _)) ps_dead pss_nil)
      (pss_cons (ps_set (i := 7) scI.nd rfl (Or.inl rfl) (pe_op op_add (pe_callB call_len_seq (by rfl) B.len PySem.boot_len (pa_cons (pv 2) pa_nil)) (pe_callB (cr_sum rfl) (by rfl) B.sum (by decide +kernel) (pa_cons (pe_lc (own := [("inner", 8)]) (g := gName 8) (tt := tYes) (te := tFld K (tVar 8) "size") rfl scI.nd (pi_list (pv 5)) (blkOk_by (N := NI) (sc := defScope sInit) (by decide +kernel))
          (fun _ _ _ _ _ => pg_name (i := 8) scI.nd rfl (Or.inl rfl)) (fun _ _ _ _ _ => pts_nil) (fun _ _ _ _ _ => by exact pe_fld (pv 8) rfl)) pa_nil))))
      (pss_cons (ps_if (pt_cmpR op_gt (pv 7) (pe_glob (v := .int 40) rfl g3 ⟨_, rfl⟩) (nomark _)) ps_dead pss_nil)
      (pss_cons (ps_fld (pv 0) (pv 1) rfl)
      (pss_cons (ps_fld (pv 0) (pe_callTy call_tuple_of (by rfl) B.tuple (by decide +kernel) (pa_cons (pv 2) pa_nil)) rfl)
      (pss_cons (ps_fld (pv 0) (pv 6) rfl)
      (pss_one (ps_fld (pv 0) (pv 7) rfl)))))))))))), ?_⟩
    unfold M.Way.fine at hf
    obtain ⟨hh, hn, hall, hd, hz⟩ := hf
    have ln := hs.len
    refine ⟨_, rfl, (h : Int), rfl, ?_⟩
    rw [decide_eq_true (by omega)]
    refine ⟨_, rfl, iteF ⟨_, rfl, l, xs, rfl, hl.mono s0, by omega, by omega, fun H1 s1 => ⟨_, rfl, iteF ?_⟩⟩⟩
    have S1 := s0.trans s1
    have hx1 : H1 x = some (.ins C dx []) := s1 _ _ hx
    clear s1 hx s0
    refine or_enum (fun Q h => ⟨_, rfl, h⟩) (hl.mono S1) fun J Gd hG wk => ?_
    refine for_it wk (fun i σ G => Same H1 G ∧ ∃ p q, σ = [some (.ref x), some (.int (h : Int)), some (.ref l), p, q, none, none, none, none]) ⟨Same.refl _, _, _, rfl⟩ (fun i σ G _ z => hG G z.1) ?_ ?_
    · rintro i v σ G G' hi ⟨s, p, q, rfl⟩ ⟨t, a, b, rfl, nt, rfl, e1, hb⟩
      cases e1
      obtain ⟨sp, hsp, hst⟩ := hs.get hb
      have s2 : Same H1 (upd G t (.tup [V.int (i : Nat), b])) := s.trans (Same.of_upd nt)
      refine ⟨t, _, rfl, SqT.of upd_same, rfl, _, _, rfl, _, _, rfl, rfl, ?_⟩
      exact ⟨_, rfl, _, rfl, b, h, sp, rfl, hst.mono (S1.trans s2), fine_get hall hsp, _, rfl, iteF ⟨s2, _, _, rfl⟩⟩
    · rintro σ G ⟨s, p, q, rfl⟩
      have S2 := S1.trans s
      have hx2 := s _ _ hx1
      dsimp only
      refine set_then (te := tTuns K) (i := 5) ?_
      refine tuns_run (st := st) (xs := xs) rfl (hl.mono S2) (hs.mono S2) (by omega) fun D0 vs H2 s3 hD0 hW => ?_
      have lw : vs.length ≤ 1000 := by
        have e1 := hW.len
        have e2 := M.tuns_len st
        omega
      refine set_then (i := 6) ?_
      refine add_of (i := 1) (maxD_of (tl := tFlds K "depth") ?_)
      refine flds_run (f := "depth") (g := fun w => ((w.depth : Nat) : Int)) T T.nD (fun H wy a => depth_fld H wy a) rfl hD0 (hW.mono s3) lw fun D1 H3 s4 hD1 => ?_
      refine maxID_at (M.deep_max _) (SqL.of hD1) ⟨_, _, rfl, rfl, ?_⟩
      rw [← M.deepest_eq]
      refine ⟨_, rfl, _, _, rfl, rfl, _, rfl, ?_⟩
      rw [decide_eq_false (by omega)]
      refine iteF ?_
      unfold tNext
      dsimp only
      have s5 := s3.trans s4
      refine set_then (i := 7) (len_add (l := l) (xs := xs) (tl := tFlds K "size") rfl (hl.mono (S2.trans s5)) ?_)
      refine flds_run (f := "size") (g := fun w => ((w.size : Nat) : Int)) T T.nZ (fun H wy a => size_fld H wy a) rfl (s4 _ _ hD0) (hW.mono s5) lw fun D2 H4 s6 hD2 => ?_
      refine ⟨D2, _, rfl, SqL.of hD2, _, _, rfl, rfl, ?_⟩
      rw [M.sum_cast, ← M.inner_eq]
      refine ⟨_, rfl, _, _, rfl, rfl, _, rfl, ?_⟩
      rw [decide_eq_false (by omega)]
      refine iteF ?_
      dsimp only
      have S4 : Same H0 H4 := S2.trans (s5.trans s6)
      have hx4 : H4 x = some (.ins C dx []) := s6 _ _ (s5 _ _ hx2)
      refine ⟨_, rfl, _, rfl, x, C, dx, [], rfl, hx4, T.cl, T.nH, by decide, ?_⟩
      have S5 : Same H0 (upd H4 x (.ins C dx (putF "head" (.int (h : Int)) []))) := add_upd hx0 S4
      have e1 : (1 : Int) + ((M.Step.deepest st : Nat) : Int) = ((1 + M.Step.deepest st : Nat) : Int) := by omega
      have e2 : ((xs.length : Nat) : Int) + ((M.Step.inner st : Nat) : Int) = ((st.length + M.Step.inner st : Nat) : Int) := by omega
      have fin : ∀ (t : Addr) (G2 : Hp), Same (upd H4 x (.ins C dx (putF "head" (.int (h : Int)) []))) G2 → G2 t = some (.tup xs) → tSeq (sFld K (tVar 0) (tC (.ref t)) "steps") (tSeq (sFld K (tVar 0) (tVar 6) "depth") (sFld K (tVar 0) (tVar 7) "size")) { nx := fun _ H' => Q V.non H', rt := Q } [some (.ref x), some (.int (h : Int)), some (.ref l), p, q, some (.ref D0), some (.int (1 + ((M.Step.deepest st : Nat) : Int))), some (.int ((xs.length : Int) + ((M.Step.inner st : Nat) : Int))), none] G2 := fun t G2 sG ht => by
        have hx5 : G2 x = some (.ins C dx (putF "head" (.int (h : Int)) [])) := sG _ _ upd_same
        have tx : t ≠ x := fun z => by
          rw [z, hx5] at ht
          cases ht
        have S6 := S5.trans sG
        rw [e1, e2]
        refine ⟨_, rfl, x, C, dx, _, rfl, hx5, T.cl, T.nS, len_put (by decide), ?_⟩
        refine ⟨_, rfl, _, rfl, x, C, dx, _, rfl, upd_same, T.cl, T.nD, len_put (len_put (by decide)), ?_⟩
        refine ⟨_, rfl, _, rfl, x, C, dx, _, rfl, upd_same, T.cl, T.nZ, len_put (len_put (len_put (by decide))), ?_⟩
        have S7 := add_upd (o := .ins C dx (flds (h : Int) t ((1 + M.Step.deepest st : Nat) : Int) ((st.length + M.Step.inner st : Nat) : Int))) hx0 (add_upd (o := .ins C dx (putF "depth" (.int ((1 + M.Step.deepest st : Nat) : Int)) (putF "steps" (.ref t) (putF "head" (.int (h : Int)) [])))) hx0 (add_upd (o := .ins C dx (putF "steps" (.ref t) (putF "head" (.int (h : Int)) []))) hx0 S6))
        refine k _ S7 ?_
        unfold WayAt
        exact ⟨dx, t, xs, upd_same, by rw [upd_ne tx, upd_ne tx, upd_ne tx]; exact ht, hs.mono S7⟩
      rcases hl.mono S5 with e | e
      · exact ⟨_, rfl, l, xs, rfl, .inl ⟨SqL.of e, fun t nt => fin t _ (Same.of_upd nt) upd_same⟩⟩
      · exact ⟨_, rfl, l, xs, rfl, .inr ⟨SqT.of e, fin l _ (Same.refl _) e⟩⟩
end
end WP

end
section
set_option autoImplicit false
set_option Elab.async false
set_option linter.all false
set_option maxRecDepth 100000
set_option maxHeartbeats 4000000
/-! ## gates of ways: a mirror -/
namespace M
structure Gate where
  place : List Nat
  thr : Int
  ans : Option Int
/-- whether pieces with a greater stretch come from cuts -/
def leaves (cs : List Nat) (x : Int) : Bool := decide (cs = []) || decide (x < ((cs.getLastD 0 : Nat) : Int))
/-- the cuts behind a step -/
def nxC (se : Bool) (h : Nat) (cs : List Nat) : Step → List Nat
  | .join _ => []
  | .road size _ lw => if se = false ∧ lw = .cut then N.add cs [size - h] else cs
  | .tunnel _ _ _ => cs
/-- the cuts before each step, and at the end -/
def chB (se : Bool) (h : Nat) : List Step → List Nat → List (List Nat)
  | [], cs => [cs]
  | s :: r, cs => cs :: chB se h r (nxC se h cs s)
def chE (se : Bool) (h : Nat) : List Step → List Nat → List Nat
  | [], cs => cs
  | s :: r, cs => chE se h r (nxC se h cs s)
def roadG (se : Bool) (h size : Nat) (ts : Bool) (lw : LW) (cs : List Nat) : List Gate :=
  if (se = false ∧ lw = .cut) ∨ leaves cs ((size : Int) - (h : Int)) = false then []
  else [⟨[], (size : Int) - (h : Int), if (se = true ∧ ts = true) ∨ (se = false ∧ lw = .tell) then some (size : Int) else none⟩]
def mostG (most : Nat) (cs : List Nat) : List Gate := if cs = [] then [] else [⟨[], ((N.B cs most : Nat) : Int), none⟩]
def turnG (a : Option Int) (ih : Nat) (t : TW) : Option Int := match a with
  | some z => if t = .turn then some (z - (ih : Int)) else none
  | none => none
def tunG1 (h ih : Nat) (t : TW) (cs : List Nat) (g : Gate) : List Gate :=
  if leaves cs (g.thr - (h : Int)) = true then [⟨g.place, max (g.thr - (h : Int)) (-1), turnG g.ans ih t⟩] else []
def tunG (h ih : Nat) (t : TW) (cs : List Nat) (l : List Gate) : List Gate := l.flatMap (tunG1 h ih t cs)
def at_ (i : Nat) (g : Gate) : Gate := ⟨i :: g.place, g.thr, g.ans⟩
mutual
def Way.gates (se : Bool) : Way → List Gate
  | .mk h s => Step.gatesAll se h s 0 []
def Step.gatesAll (se : Bool) (h : Nat) : List Step → Nat → List Nat → List Gate
  | [], _, _ => []
  | s :: r, i, cs => (Step.gates se h s cs).map (at_ i) ++ Step.gatesAll se h r (i + 1) (nxC se h cs s)
def Step.gates (se : Bool) (h : Nat) : Step → List Nat → List Gate
  | .road size ts lw, cs => roadG se h size ts lw cs
  | .join most, cs => mostG most cs
  | .tunnel w most t, cs => tunG h w.head t cs (Way.gates se w ++ mostG most (chE se w.head w.steps []))
end
theorem gatesAll_cons (se : Bool) (h : Nat) (s : Step) (r : List Step) (i : Nat) (cs : List Nat) : Step.gatesAll se h (s :: r) i cs = (Step.gates se h s cs).map (at_ i) ++ Step.gatesAll se h r (i + 1) (nxC se h cs s) := by
  conv => lhs; unfold Step.gatesAll
theorem chB_len (se : Bool) (h : Nat) : ∀ (s : List Step) (cs : List Nat), (chB se h s cs).length = s.length + 1
  | [], _ => rfl
  | x :: s, cs => by
    show (chB se h s (nxC se h cs x)).length + 1 = _
    rw [chB_len se h s]
    rfl
/-- the cuts before the step with a number -/
def chA (se : Bool) (h : Nat) (s : List Step) (i : Nat) : List Nat := chE se h (s.take i) []
theorem chE_snoc (se : Bool) (h : Nat) : ∀ (s : List Step) (x : Step) (cs : List Nat), chE se h (s ++ [x]) cs = nxC se h (chE se h s cs) x
  | [], _, _ => rfl
  | y :: s, x, cs => chE_snoc se h s x (nxC se h cs y)
theorem chB_at (se : Bool) (h : Nat) : ∀ (s : List Step) (cs : List Nat) (i : Nat), i ≤ s.length → (chB se h s cs)[i]? = some (chE se h (s.take i) cs)
  | [], cs, i, hi => by
    have : i = 0 := by simpa using hi
    subst this
    rfl
  | x :: s, cs, 0, _ => rfl
  | x :: s, cs, i + 1, hi => by
    show (chB se h s (nxC se h cs x))[i]? = some (chE se h (s.take i) (nxC se h cs x))
    exact chB_at se h s _ i (by simpa using hi)
/-- cuts as chains take them -/
structure Ck (cs : List Nat) : Prop where
  fall : N.Fall cs
  le : ∀ c ∈ cs, c ≤ 1000
theorem ck_nil : Ck [] := ⟨trivial, fun c h => by cases h⟩
theorem ck_nx {se : Bool} {h : Nat} {cs : List Nat} {s : Step} (c : Ck cs) (f : Step.fine h s) : Ck (nxC se h cs s) := by
  cases s with
  | join most => exact ck_nil
  | tunnel w most t => exact c
  | road size ts lw =>
    unfold nxC
    dsimp only
    split
    · unfold Step.fine at f
      have f1 : N.Fall [size - h] := ⟨by omega, (fun d hd => by cases hd), trivial⟩
      have l1 : ∀ c ∈ [size - h], c ≤ 1000 := fun c hc => by
        rw [List.mem_singleton.mp hc]
        omega
      exact ⟨N.add_fall c.fall f1, N.add_le c.le l1⟩
    · exact c
theorem ck_all {se : Bool} {h : Nat} : ∀ {s : List Step} {cs : List Nat}, Ck cs → Step.fineAll h s → Ck (chE se h s cs)
  | [], cs, c, _ => c
  | x :: s, cs, c, f => by
    unfold Step.fineAll at f
    show Ck (chE se h s (nxC se h cs x))
    exact ck_all (ck_nx c f.1) f.2
theorem fine_take {h : Nat} : ∀ {s : List Step} (i : Nat), Step.fineAll h s → Step.fineAll h (s.take i)
  | [], i, f => by rw [List.take_nil]; exact f
  | x :: s, 0, f => by
    rw [List.take_zero]
    unfold Step.fineAll
    trivial
  | x :: s, i + 1, f => by
    rw [List.take_succ_cons]
    unfold Step.fineAll at f ⊢
    exact ⟨f.1, fine_take i f.2⟩
theorem nxC_len {se : Bool} {h : Nat} {cs : List Nat} {s : Step} : (nxC se h cs s).length ≤ cs.length + 1 := by
  cases s with
  | join most => exact Nat.zero_le _
  | tunnel w most t => exact Nat.le_succ _
  | road size ts lw =>
    unfold nxC
    dsimp only
    split
    · exact N.add_len cs [size - h]
    · exact Nat.le_succ _
theorem chE_len {se : Bool} {h : Nat} : ∀ (s : List Step) (cs : List Nat), (chE se h s cs).length ≤ cs.length + s.length
  | [], cs => Nat.le_refl _
  | x :: s, cs => by
    have a := chE_len (se := se) (h := h) s (nxC se h cs x)
    have b := nxC_len (se := se) (h := h) (cs := cs) (s := x)
    show (chE se h s (nxC se h cs x)).length ≤ cs.length + (s.length + 1)
    omega
/-! ### how many, how great -/
theorem most_len (most : Nat) (cs : List Nat) : (mostG most cs).length ≤ 1 := by
  unfold mostG
  split <;> simp
theorem road_len (se : Bool) (h size : Nat) (ts : Bool) (lw : LW) (cs : List Nat) : (roadG se h size ts lw cs).length ≤ 1 := by
  unfold roadG
  split <;> simp
theorem tun_len (h ih : Nat) (t : TW) (cs : List Nat) : ∀ l : List Gate, (tunG h ih t cs l).length ≤ l.length
  | [] => Nat.le_refl _
  | g :: l => by
    have := tun_len h ih t cs l
    have e : tunG h ih t cs (g :: l) = tunG1 h ih t cs g ++ tunG h ih t cs l := rfl
    have q : (tunG1 h ih t cs g).length ≤ 1 := by
      unfold tunG1
      split <;> simp
    rw [e, List.length_append, List.length_cons]
    omega
mutual
theorem Way.gates_len (se : Bool) : ∀ w : Way, (Way.gates se w).length ≤ 2 * w.size
  | .mk h s => by
    unfold Way.gates Way.size
    have := Step.gates_len se h s 0 []
    omega
theorem Step.gates_len (se : Bool) (h : Nat) : ∀ (s : List Step) (i : Nat) (cs : List Nat), (Step.gatesAll se h s i cs).length ≤ 2 * (s.length + Step.inner s)
  | [], i, cs => by
    unfold Step.gatesAll
    exact Nat.zero_le _
  | .road size ts lw :: r, i, cs => by
    rw [gatesAll_cons]
    have a := Step.gates_len se h r (i + 1) (nxC se h cs (.road size ts lw))
    have b : (Step.gates se h (.road size ts lw) cs).length ≤ 1 := by
      unfold Step.gates
      exact road_len _ _ _ _ _ _
    rw [List.length_append, List.length_map, List.length_cons]
    unfold Step.inner
    omega
  | .join most :: r, i, cs => by
    rw [gatesAll_cons]
    have a := Step.gates_len se h r (i + 1) (nxC se h cs (.join most))
    have b : (Step.gates se h (.join most) cs).length ≤ 1 := by
      unfold Step.gates
      exact most_len _ _
    rw [List.length_append, List.length_map, List.length_cons]
    unfold Step.inner
    omega
  | .tunnel w most t :: r, i, cs => by
    rw [gatesAll_cons]
    have a := Step.gates_len se h r (i + 1) (nxC se h cs (.tunnel w most t))
    have c := Way.gates_len se w
    have b : (Step.gates se h (.tunnel w most t) cs).length ≤ 2 * w.size + 1 := by
      unfold Step.gates
      refine Nat.le_trans (tun_len _ _ _ _ _) ?_
      have := most_len most (chE se w.head w.steps [])
      rw [List.length_append]
      omega
    rw [List.length_append, List.length_map, List.length_cons]
    unfold Step.inner
    omega
end
end M

end
section
set_option autoImplicit false
set_option Elab.async false
set_option linter.all false
set_option maxRecDepth 100000
set_option maxHeartbeats 4000000
/-! ## len, +, in, [] and != by a class's own methods -/
namespace WO
open PySem PySem.Spec PyProof.Rows L2
section
variable {X : Cx} {CX : CXT} {n : Nat} {f C : Addr} {fd : FuncData} {ps : List Str} {sp : Sp} {E : XK}
/-- an own method, run somewhere below the running body -/
theorem run_own {A : Around} {pins : List (Addr × Obj)} {s : Shared} {σ : L2.St} {H : Hp} {xs : List V} {us : List Value} {Z : VK} {G : Value → Shared → Prop} (F : FnOk X.prog X.w X.K X.mg X.base CX n f fd ps sp) (sb : Sub X n A) (hb : Binds X.K fd ps []) (hx : Passes CX X E)
    (I : Inv X pins σ H s) (r : Vals xs us) (hsp : sp xs H Z E) (k : ∀ z u H1 s1, Inv X pins σ H1 s1 → RelV z u → Z z H1 → G u s1) : wpAny (model X.prog X.w) A (call (.ref f) us) G X.xe s := by
  have hl := F.len _ _ _ _ hsp
  have lu : us.length = ps.length := by rw [← r.length]; exact hl
  have env : Env0 X.prog X.w X.K X.mg X.base A X.stack s H := by
    have e := I.env0
    exact ⟨by rw [sb.fr]; exact e.frames, e.mod, e.bs, e.bsz, e.funs, e.frf, e.hok, e.bare⟩
  refine wpAny_call (codeAny_mono (F.run A X.stack s H ⟨us, []⟩ us xs _ E sb.room env (by simpa using hb s us I.kIn (by simpa using lu)) r hsp) fun res s1 hq => ?_)
  match res, hq with
  | .error e, hq => exact hx pins σ H s e s1 I hq
  | .ok (.ret u), hq =>
    obtain ⟨z, H1, I1, rz, q⟩ := I.after hq
    exact k z u H1 s1 I1 rz q
  | .ok .next, hq => exact hq.elim
  | .ok .brk, hq => exact hq.elim
  | .ok .cont, hq => exact hq.elim
/-- an instance of the class at C -/
def InsC (C : Addr) (H : Hp) (a : Addr) : Prop := ∃ dx fs, H a = some (.ins C dx fs)
structure Own (K : PySem.W.Frag) (C f : Addr) (m : Str) : Prop where
  at' : PySem.W.findIn K (.ref C) m = some (some (.ref f))
  fn : PySem.W.isFn K (.ref f) = true
def rLenO (C : Addr) (sp : Sp) (E : XK) : List V → Hp → VK → Prop := fun xs H Q => ∃ a, xs = [.ref a] ∧ InsC C H a ∧ sp [.ref a] H (fun v H1 => ∃ k : Nat, v = .int k ∧ k < 1000000 ∧ Q (.int k) H1) E
theorem call_lenO (F : FnOk X.prog X.w X.K X.mg X.base CX n f fd ps sp) (hr : Room (n + 1) X.A) (O : Own X.K C f "__len__") (hb : Binds X.K fd ps []) (hx : Passes CX X E) : CallR X (.builtin "len") (rLenO C sp E) := by
  intro pins s σ H xs us Q I r h
  obtain ⟨a, rfl, ⟨dx, fs, ha⟩, hsp⟩ := h
  cases r with
  | cons ra rr =>
    cases rr
    cases ra
    obtain ⟨_, J, _⟩ := ins_get I.hok ha
    obtain ⟨od, J, _⟩ := J.look
    obtain ⟨m, hF⟩ := I.fr
    refine PySem.W.len_K hF I.ok.mod.kin J O.at' O.fn (run_own F (A := X.A.in1) (xs := [.ref a]) ⟨hr.in1, rfl⟩ hb hx I (.cons rfl .nil) hsp fun z u H1 s1 I1 rz q => ?_)
    obtain ⟨k, rfl, hk, q⟩ := q
    obtain ⟨t, rfl⟩ := rz
    exact ⟨⟨by omega, by omega⟩, .int k, H1, I1.tok _, ⟨_, rfl⟩, q⟩
def rAddO (C : Addr) (sp : Sp) (E : XK) : R2 := fun x y H Q => ∃ a b, x = .ref a ∧ y = .ref b ∧ InsC C H a ∧ InsC C H b ∧ sp [.ref a, .ref b] H (fun v H1 => ∃ c, v = .ref c ∧ Q (.ref c) H1) E
theorem op_addO (F : FnOk X.prog X.w X.K X.mg X.base CX n f fd ps sp) (hr : Room n X.A) (O : Own X.K C f "__add__") (hc : PySem.W.selfFirst X.K C = true) (hb : Binds X.K fd ps []) (hx : Passes CX X E) : OpR X (binaryOp .Add) (rAddO C sp E) := by
  intro pins s σ H x y v u Q I rx ry h
  obtain ⟨a, b, rfl, rfl, ⟨dx, fs, ha⟩, ⟨dy, gs, hb'⟩, hsp⟩ := h
  cases rx
  cases ry
  obtain ⟨_, J, _⟩ := ins_get I.hok ha
  obtain ⟨_, J', _⟩ := ins_get I.hok hb'
  obtain ⟨od, J, _⟩ := J.look
  obtain ⟨od', J', _⟩ := J'.look
  obtain ⟨m, hF⟩ := I.fr
  refine PySem.W.binop_K (op := .Add) hF I.ok.mod.kin J J'.type hc O.at' O.fn (run_own F (A := X.A) (xs := [.ref a, .ref b]) ⟨hr, rfl⟩ hb hx I (.cons rfl (.cons rfl .nil)) hsp fun z u H1 s1 I1 rz q => ?_)
  obtain ⟨c, rfl, q⟩ := q
  cases rz
  exact ⟨.ref c, H1, I1, rfl, q⟩
def rInO (C : Addr) (sp : Sp) (E : XK) : R2 := fun x y H Q => ∃ a, y = .ref a ∧ InsC C H a ∧ sp [.ref a, x] H (fun v H1 => ∃ b, v = .bl b ∧ Q (.bl b) H1) E
def rNotInO (C : Addr) (sp : Sp) (E : XK) : R2 := fun x y H Q => ∃ a, y = .ref a ∧ InsC C H a ∧ sp [.ref a, x] H (fun v H1 => ∃ b, v = .bl b ∧ Q (.bl (!b)) H1) E
theorem op_inO (F : FnOk X.prog X.w X.K X.mg X.base CX n f fd ps sp) (hr : Room n X.A) (O : Own X.K C f "__contains__") (hb : Binds X.K fd ps []) (hx : Passes CX X E) : OpR X (compareOp .In) (rInO C sp E) := by
  intro pins s σ H x y v u Q I rx ry h
  obtain ⟨a, rfl, ⟨dx, fs, ha⟩, hsp⟩ := h
  cases ry
  obtain ⟨_, J, _⟩ := ins_get I.hok ha
  obtain ⟨od, J, _⟩ := J.look
  obtain ⟨m, hF⟩ := I.fr
  refine PySem.W.in_K hF I.ok.mod.kin J O.at' O.fn (run_own F (A := X.A) (xs := [.ref a, x]) ⟨hr, rfl⟩ hb hx I (.cons rfl (.cons rx .nil)) hsp fun z u H1 s1 I1 rz q => ?_)
  obtain ⟨b, rfl, q⟩ := q
  cases rz
  exact wpAny_truthy_bool ⟨.bl b, H1, I1, rfl, q⟩
theorem op_notInO (F : FnOk X.prog X.w X.K X.mg X.base CX n f fd ps sp) (hr : Room n X.A) (O : Own X.K C f "__contains__") (hb : Binds X.K fd ps []) (hx : Passes CX X E) : OpR X (compareOp .NotIn) (rNotInO C sp E) := by
  intro pins s σ H x y v u Q I rx ry h
  obtain ⟨a, rfl, ⟨dx, fs, ha⟩, hsp⟩ := h
  cases ry
  obtain ⟨_, J, _⟩ := ins_get I.hok ha
  obtain ⟨od, J, _⟩ := J.look
  obtain ⟨m, hF⟩ := I.fr
  refine PySem.W.notIn_K hF I.ok.mod.kin J O.at' O.fn (run_own F (A := X.A) (xs := [.ref a, x]) ⟨hr, rfl⟩ hb hx I (.cons rfl (.cons rx .nil)) hsp fun z u H1 s1 I1 rz q => ?_)
  obtain ⟨b, rfl, q⟩ := q
  cases rz
  exact wpAny_truthy_bool ⟨.bl (!b), H1, I1, rfl, q⟩
/-- o[e] by the own __getitem__ -/
def rIxO (C : Addr) (sp : Sp) (E : XK) : R2 := fun x y H Q => ∃ a, x = .ref a ∧ InsC C H a ∧ sp [.ref a, y] H Q E
theorem pe_ixO {a b : Expr} {ta tb : TE} {pos : Pos} (F : FnOk X.prog X.w X.K X.mg X.base CX n f fd ps sp) (hr : Room (n + 1) X.A) (O : Own X.K C f "__getitem__") (hf : PySem.W.fnIn X.K f = true) (hb : Binds X.K fd ps []) (hx : Passes CX X E) (ha : PE X a ta) (hi : PE X b tb)
    (hs : ∀ v i, subscripted b true v i = runValue (.builtin "lifetime.subscript" ⟨[v, i], []⟩)) : PE X (.Subscript a b pos) (tOp (rIxO C sp E) ta tb) := by
  refine ⟨fun pins s σ H Q I h => ?_⟩
  refine Subscript_ (binT ha hi I h fun v u s2 x y H2 I2 rx ry q => ?_)
  obtain ⟨p, rfl, ⟨dx, fs, hp⟩, hsp⟩ := q
  cases rx
  obtain ⟨_, J, _⟩ := ins_get I2.hok hp
  obtain ⟨od, J, _⟩ := J.look
  obtain ⟨m, hF⟩ := I2.fr
  exact PySem.W.sub_K hF I2.ok.mod.kin J O.at' hf O.fn (run_own F (A := X.A.in1) (xs := [.ref p, y]) ⟨hr.in1, rfl⟩ hb hx I2 (.cons rfl (.cons ry .nil)) hsp fun z u H1 s1 I1 rz q => ⟨z, H1, I1, rz, q⟩) (hs _ _)
/-- == by the own __eq__, either answer -/
def rEqO (C : Addr) (sp : Sp) (E : XK) : R2 := fun x y H Q => ∃ a b, x = .ref a ∧ y = .ref b ∧ InsC C H a ∧ InsC C H b ∧ sp [.ref a, .ref b] H (fun v H1 => ∃ c, v = .bl c ∧ Q (.bl c) H1) E
theorem op_eqO (F : FnOk X.prog X.w X.K X.mg X.base CX n f fd ps sp) (hr : Room n X.A) (O : Own X.K C f "__eq__") (hb : Binds X.K fd ps []) (hx : Passes CX X E) : OpR X (compareOp .Eq) (rEqO C sp E) := by
  intro pins s σ H x y v u Q I rx ry h
  obtain ⟨a, b, rfl, rfl, ⟨dx, fs, ha⟩, ⟨dy, gs, hb'⟩, hsp⟩ := h
  cases rx
  cases ry
  obtain ⟨_, J, _⟩ := ins_get I.hok ha
  obtain ⟨_, J', _⟩ := ins_get I.hok hb'
  obtain ⟨od, J, _⟩ := J.look
  obtain ⟨od', J', _⟩ := J'.look
  obtain ⟨m, hF⟩ := I.fr
  show wpAny (model X.prog X.w) X.A (richCompare .Eq (.ref a) (.ref b)) (EP X pins σ Q) X.xe s
  refine PySem.W.cmp_K (op := .Eq) (tb := .ref C) hr.units0 hF I.ok.mod.kin J J'.type (by simp [PySem.W.notFirst]) O.at' O.fn (run_own F (A := X.A) (xs := [.ref a, .ref b]) ⟨hr, rfl⟩ hb hx I (.cons rfl (.cons rfl .nil)) hsp fun z u H1 s1 I1 rz q => ?_)
  obtain ⟨c, rfl, q⟩ := q
  cases rz
  exact ⟨.bl c, H1, I1, rfl, q⟩
end
end WO

end
section
set_option autoImplicit false
set_option Elab.async false
set_option linter.all false
set_option maxRecDepth 100000
set_option maxHeartbeats 4000000
/-! ## set(a list of hin), and sorted of it -/
namespace WS
open PySem PySem.Spec PyProof.Rows L2
abbrev empt (Wd : World) : Obj := { cls := .type "set", dict := none, data := .set #[] 0 (.fresh 0 0 (!Wd.params.followText "set-order")) }
abbrev walker (ls : Addr) : Obj := { cls := .type "list_iterator", data := .fields #[.ref ls, .int 0 0] }
section
variable {Pg : Program} {Wd : World} {Ar : Around} {Ex : Value → Shared → Prop} {sh : Shared}
/-- what is left of a new set, filled -/
def Filled (Wd : World) (sh : Shared) (zs : List Int) (s2 : Shared) : Prop := ∃ hp tk c, s2 = { sh with heap := hp, toks := tk } ∧ SetR Wd hp sh.heap.objs.size (fun j => decide (j ∈ zs)) c ∧ c ≤ zs.length ∧ ∀ b o, sh.heap.get? b = some o → hp.get? b = some o
set_option maxHeartbeats 3200000 in
/-- __init__ of the new set at the end of the heap -/
theorem init_list {ls : Addr} {arr : Array Value} {zs : List Int} (ok : Ar.handled = none) (at0 : sh.heap.IsList ls arr) (hin : IntsAre arr.toList zs) (few : zs.length + 1 < scanBound) (tS : Shared.TypeIs { sh with heap := sh.heap.push (empt Wd) } (.ref sh.heap.objs.size) "set") :
    codeAny (model Pg Wd) Ar (.call (.builtin "set.__init__") ⟨[.ref sh.heap.objs.size, .ref ls], []⟩) (wants (fun r s2 => r = .none ∧ Filled Wd sh zs s2) Ex) { sh with heap := sh.heap.push (empt Wd) } := by
  have size_eq : arr.size = zs.length := by
    have q := IntsAre.length hin
    rwa [Array.length_toList] at q
  refine codeAny_call_builtin (R := wants _ Ex) F.called_set.init.plain F.entry_set_init (check_set_init_1 tS ?_)
  obtain ⟨⟨oc, od, oda, osl⟩, gl, cl, nl, dl⟩ := at0
  simp only at cl dl
  subst cl; subst dl
  have gl2 : (sh.heap.push (empt Wd)).get? ls = some { cls := .type "list", dict := od, data := .seq arr nl, slots := osl } := Heap.get?_push_of_some _ gl
  have k1 := F.sub_list_set
  have k2 := F.sub_list_frozenset
  have k3 : (Value.type "list" == Value.type "dict") = false := by decide
  have il : (sh.heap.push (empt Wd)).IsList ls arr := ⟨_, gl2, rfl, nl, rfl⟩
  unfold Builtin.«set.__init__» noKeywords Builtin.Frozenset.updateFrom
  generalize eI : pyIter = IT
  wp_walk
  subst eI
  refine wpAny_pyIter_list il ?_
  refine wpAny_bind (wpAny_runValue ?_)
  have low : ls < sh.heap.objs.size := Heap.lt_size gl
  have sz : (sh.heap.push (empt Wd)).objs.size = sh.heap.objs.size + 1 := Heap.size_push ..
  have ne1 : ls ≠ (sh.heap.push (empt Wd)).objs.size := by rw [sz]; exact Nat.ne_of_lt (Nat.lt_succ_of_lt low)
  have ne2 : sh.heap.objs.size ∉ [(sh.heap.push (empt Wd)).objs.size, ls] := by
    rw [sz]
    intro z
    rcases List.mem_cons.mp z with e | e
    · exact absurd e (Nat.ne_of_lt (Nat.lt_succ_self _))
    · exact absurd (List.mem_singleton.mp e) (Nat.ne_of_gt low)
  have item : ∀ (i : Nat) (v : Value), arr[i]? = some v → ∃ k t, zs[i]? = some k ∧ v = .int k t := by
    intro i v hv
    have hi : i < zs.length := by rw [← size_eq]; exact (Array.getElem?_eq_some_iff.mp hv).1
    obtain ⟨t, e⟩ := PyProof.Rows.IntsAre.int_at hin i v (by rw [Array.getElem?_toList]; exact hv)
    refine ⟨zs[i], t, List.getElem?_eq_getElem hi, ?_⟩
    rw [e, List.getD_eq_getElem?_getD, List.getElem?_eq_getElem hi] <;> rfl
  refine set_update_ints ((Walks.list (by simp [ok]) _ ls ne1 arr).toS) sh.heap.objs.size ne2 zs size_eq few item (arr.size - 0) 0 _ (by omega) (Nat.zero_le _) ⟨⟨_, Heap.get?_push_size _ rfl, rfl, rfl⟩, (il.push _)⟩ ?first0 ?rest0
  case first0 =>
    have g : ((sh.heap.push (empt Wd)).push (walker ls)).get? sh.heap.objs.size = some (empt Wd) := Heap.get?_push_of_some _ (Heap.get?_push_size _ rfl)
    exact ⟨0, Nat.le_refl 0, setR_new_at g⟩
  case rest0 =>
    rintro ⟨hp, g2, d2, tk, os2⟩ c mv hc R
    have eg : g2 = sh.gens := mv.gens
    have ed : d2 = sh.drawn := mv.drawn
    have eo : os2 = sh.os := mv.os
    subst eg; subst ed; subst eo
    show wpAny _ _ _ _ _ _
    refine wpAny_pure ?_
    show wpAny _ _ (ret Value.none) _ _ _
    rw [size_eq] at hc
    refine wpAny_pure ⟨rfl, hp, tk, c, rfl, R, hc, fun b o e => ?_⟩
    have lb : b < sh.heap.objs.size := Heap.lt_size e
    refine mv.heap b o ?_ (Heap.get?_push_of_some _ (Heap.get?_push_of_some _ e))
    rw [sz]
    intro z
    rcases List.mem_cons.mp z with e | e
    · exact absurd e (Nat.ne_of_lt lb)
    · exact absurd (List.mem_singleton.mp e) (Nat.ne_of_lt (Nat.lt_succ_of_lt lb))
set_option maxHeartbeats 3200000 in
theorem set_of_list {ls : Addr} {arr : Array Value} (zs : List Int) {Qv : Value → Shared → Prop} (ok : Ar.handled = none) (at0 : sh.heap.IsList ls arr) (hin : IntsAre arr.toList zs) (few : zs.length + 1 < scanBound)
    (k : ∀ s2, Filled Wd sh zs s2 → Qv (.ref sh.heap.objs.size) s2) : wpAny (model Pg Wd) Ar (call (.type "set") [.ref ls]) Qv Ex sh := by
  obtain ⟨c0, tl0, mro0⟩ := F.called_set.mro
  have f1 := F.called_set.made
  have f2 := F.called_set.sub
  refine wpAny_call (codeAny_of_tree ?_)
  show wpAny _ _ (callAny (.type "set") _) _ _ _
  refine wpAny_pure ⟨Code.quiet_builtin _ (by decide +kernel), codeAny_builtin F.entry_type_call ?_⟩
  rw [Around.under_plain (weight_type_call_type "set" [.ref ls] []) rfl]
  have f3 := F.called_set.notType
  have f4 := F.called_set.canCreate
  have f5 := F.typeCall_set_1 (.ref ls)
  repeat (any_goals (first | assumption | wp_step))
  refine codeAny_mono (code_set_led1 (.ref ls) (E := Ex) (Q₁ := fun ob s1 => ob = .ref sh.heap.objs.size ∧ s1 = { sh with heap := sh.heap.push (empt Wd) }) ⟨rfl, rfl⟩) fun r s1 hr => ?_
  match r, hr with
  | .error e, hr => exact hr
  | .ok .next, hr => exact hr.elim
  | .ok .brk, hr => exact hr.elim
  | .ok .cont, hr => exact hr.elim
  | .ok (.ret ob), hr =>
    obtain ⟨rfl, rfl⟩ := hr
    have tS : Shared.TypeIs { sh with heap := sh.heap.push (empt Wd) } (.ref sh.heap.objs.size) "set" := ⟨_, Heap.get?_push_size _ rfl, rfl⟩
    have f6 := F.called_set.init.lookup
    have f7 := F.called_set.init.bind (.ref sh.heap.objs.size)
    repeat (any_goals (first | assumption | wp_step))
    refine codeAny_mono (init_list (zs := zs) (Ex := Ex) (by simp [ok]) at0 hin few tS) fun r2 s2 hr2 => ?_
    match r2, hr2 with
    | .error e, hr2 => exact hr2
    | .ok .next, hr2 => exact hr2.elim
    | .ok .brk, hr2 => exact hr2.elim
    | .ok .cont, hr2 => exact hr2.elim
    | .ok (.ret v), hr2 =>
      obtain ⟨rfl, hF⟩ := hr2
      obtain ⟨hp, tk, c, rfl, R, hc, hk⟩ := hF
      repeat (any_goals (first | assumption | wp_step))
      exact k _ ⟨hp, tk, c, rfl, R, hc, hk⟩
end
section
variable {X : Cx}
def rSetL (K : PySem.W.Frag) (Wd : World) : List V → Hp → VK → Prop := fun xs H Q => ∃ (l : Addr) (zs : List Int), xs = [.ref l] ∧ SqL K H l (zs.map V.int) ∧ zs.length ≤ 4000 ∧ ∀ (p : Addr) (c : Nat), H p = none → c ≤ zs.length → Q (.ref p) (upd H p (SetO Wd p (fun j => decide (j ∈ zs)) c))
theorem cr_setL (hc : X.calm = true) : CallR X (.type "set") (rSetL X.K X.w) := by
  intro pins s σ H xs us Q I r h
  obtain ⟨l, zs, rfl, hL, few, q⟩ := h
  rw [Vals.ref1 r]
  obtain ⟨its, rv, pl, _⟩ := I.list hL
  refine set_of_list zs (I.ok.hd hc) pl.isList (by simpa using ints_of_vals rv) (by unfold scanBound; omega) fun s2 hF => ?_
  obtain ⟨hp, tk, c, rfl, R, hc2, hk⟩ := hF
  exact ⟨.ref _, upd H s.heap.objs.size (SetO X.w s.heap.objs.size (fun j => decide (j ∈ zs)) c), I.laid (t' := tk) hk (Nat.le_refl _) (setO_new R), rfl, q _ c (I.hok.fresh (Nat.le_refl _)) hc2⟩
end
end WS

end
section
set_option autoImplicit false
set_option Elab.async false
set_option linter.all false
set_option maxRecDepth 100000
set_option maxHeartbeats 4000000
/-! ## pieces for any law -/
namespace Y
open PySem L2 G
theorem of_upd {H : Hp} {p : Addr} {o : HO} (h : H p = none) : Same H (upd H p o) := fun a u e => by
  rw [upd_ne (ne_of_none e h)]
  exact e
theorem add_upd {H G : Hp} {D : Addr} {o : HO} (nD : H D = none) (s : Same H G) : Same H (upd G D o) := fun b u e => by
  rw [upd_ne (ne_of_none e nD)]
  exact s _ _ e
/-- a def of the text that is called by its name, and keeps a promise -/
structure Df (P : Program) (w : World) (K : PySem.W.Frag) (mg : Str → Option Value) (base : Heap) (k : Nat) (x : Str) (ps : List Str) (sp : Sp) : Prop where
  ex : ∃ (f : Addr) (fd : FuncData), FnOk P w K mg base CX0 k f fd ps sp ∧ mg x = some (.ref f) ∧ PySem.W.keepIn K (.ref f) = true ∧ Binds K fd ps []
structure Fd (K : PySem.W.Frag) (mg : Str → Option Value) (x : Str) (st : Stmt) (ps : List Str) : Prop where
  ex : ∃ (f : Addr) (fd : FuncData), Fun K x x st f fd ∧ mg x = some (.ref f) ∧ PySem.W.keepIn K (.ref f) = true ∧ Binds K fd ps []
theorem Fd.df {P : Program} {w : World} {K : PySem.W.Frag} {mg : Str → Option Value} {base : Heap} {x : Str} {st : Stmt} {ps : List Str} {k : Nat} {sp : Sp} (h : Fd K mg x st ps) (ok : ∀ f fd, Fun K x x st f fd → FnOk P w K mg base CX0 k f fd ps sp) : Df P w K mg base k x ps sp := by
  obtain ⟨f, fd, h1, h2, h3, h4⟩ := h.ex
  exact ⟨f, fd, ok f fd h1, h2, h3, h4⟩
theorem set_then {te : TE} {i : Nat} {t2 : TS} {D : Ends} {σ : L2.St} {H : Hp} (h : te σ H fun v H1 => t2 D (σ.set i (some v)) H1) : tSeq (tAsg te (gName i)) t2 D σ H := h
theorem len_put {f : Str} {v : V} {fs : List (Str × V)} {n : Nat} (h : fs.length < n) : (putF f v fs).length < n + 1 := Nat.lt_of_le_of_lt (length_putF f v fs) (Nat.succ_lt_succ h)
theorem take_snoc {α : Type} {l : List α} {i : Nat} {x : α} (h : l[i]? = some x) : l.take (i + 1) = l.take i ++ [x] := by
  rw [List.take_succ, h]
  rfl
theorem drop_at {α : Type} {l : List α} {i : Nat} {x : α} (h : l[i]? = some x) : l.drop i = x :: l.drop (i + 1) := by
  obtain ⟨hi, ex⟩ := List.getElem?_eq_some_iff.mp h
  rw [← ex, ← List.drop_eq_getElem_cons hi]
section
variable {X : Cx} {tg it : Expr}
theorem pi_or {w1 w2 : TI} (h1 : PI X tg it w1) (h2 : PI X tg it w2) : PI X tg it (fun σ H R => w1 σ H R ∨ w2 σ H R) := ⟨fun pins s σ H R I h => h.elim (h1.run pins s σ H R I) (h2.run pins s σ H R I)⟩
def tDead : TS := fun _ _ _ => False
theorem ps_dead {b : List Stmt} : PSs X b tDead := ⟨fun _ _ _ _ _ _ h => h.elim⟩
end
def SAt (H : Hp) (l : Addr) (xs : List V) : Prop := H l = some (.lst xs) ∨ H l = some (.tup xs)
theorem SAt.mono {H H' : Hp} {l : Addr} {xs : List V} (s : Same H H') (h : SAt H l xs) : SAt H' l xs := h.elim (fun e => .inl (s _ _ e)) fun e => .inr (s _ _ e)
section
variable {K : PySem.W.Frag} {H : Hp} {σ : L2.St} {l : Addr} {xs : List V}
theorem or_seq {te : TE} {R : It → Hp → Prop} (ht : ∀ Q : VK, Q (.ref l) H → te σ H Q) (hl : SAt H l xs) (k : ∀ (J : It) (Gd : Hp → Prop), (∀ H', Same H H' → Gd H') → Walk J xs.length Gd (YAt xs) → R J H) : iList K te σ H R ∨ iTup K te σ H R :=
  hl.elim (fun e => .inl (ht _ ⟨l, rfl, ⟨xs, SqL.of e⟩, k _ _ (fun H' s => SqL.of (s _ _ e)) walk_list⟩)) fun e => .inr (ht _ ⟨l, rfl, ⟨xs, SqT.of e⟩, k _ _ (fun H' s => SqT.of (s _ _ e)) walk_tup⟩)
end
theorem at0 {y0 : V} {ys : List V} : atI (y0 :: ys) (0 : Int) = some y0 := by exact atI_nat (xs := y0 :: ys) (j := 0) rfl
def ni (l : List Nat) : List V := (l.map fun n => ((n : Nat) : Int)).map V.int
theorem ni_len (l : List Nat) : (ni l).length = l.length := by
  unfold ni
  rw [List.length_map, List.length_map]
theorem ni_get {l : List Nat} {i : Nat} {x : V} (h : (ni l)[i]? = some x) : ∃ b, l[i]? = some b ∧ x = .int ((b : Nat) : Int) := by
  unfold ni at h
  rw [List.getElem?_map, List.getElem?_map] at h
  cases e : l[i]? with
  | none => rw [e] at h; cases h
  | some b =>
    rw [e] at h
    cases h
    exact ⟨b, rfl, rfl⟩
theorem ni_at {l : List Nat} {i b : Nat} (h : l[i]? = some b) : (ni l)[i]? = some (.int ((b : Nat) : Int)) := by
  unfold ni
  rw [List.getElem?_map, List.getElem?_map, h]
  rfl
theorem ni_app (l m : List Nat) : ni (l ++ m) = ni l ++ ni m := by
  unfold ni
  rw [List.map_append, List.map_append]
theorem ni_drop (l : List Nat) (i : Nat) : (ni l).drop i = ni (l.drop i) := by
  unfold ni
  rw [← List.map_drop, ← List.map_drop]
theorem ni_take (l : List Nat) (i : Nat) : (ni l).take i = ni (l.take i) := by
  unfold ni
  rw [← List.map_take, ← List.map_take]
theorem line2 : 2 ≤ sizeLine ∧ 3 ≤ sizeLine ∧ 1 ≤ sizeLine ∧ 0 ≤ sizeLine := by decide
/-- xs[k:] -/
theorem cut_from (xs : List V) (k : Nat) : cutV xs (some (k : Int)) none = xs.drop k := by
  unfold cutV
  rw [HT.sIx_none, HT.sIx_nat]
  by_cases h : k ≤ xs.length
  · rw [Nat.min_eq_left h]
    exact List.take_of_length_le (by rw [List.length_drop]; omega)
  · rw [Nat.min_eq_right (by omega), List.drop_of_length_le (by omega), List.drop_of_length_le (by omega), List.take_nil]
theorem six_pos {n k : Nat} (h : 0 < k) (hn : 0 < n) (d : Nat) : HT.sIx n d (some (k : Int)) ≠ 0 := by
  rw [HT.sIx_nat]
  omega
structure Bn (mg : Str → Option Value) : Prop where
  isi : mg "isinstance" = none
  bool : mg "bool" = none
  int : mg "int" = none
  tuple : mg "tuple" = none
  list : mg "list" = none
  len : mg "len" = none
  range : mg "range" = none
  zip : mg "zip" = none
  min : mg "min" = none
  max : mg "max" = none
  sorted : mg "sorted" = none
  set : mg "set" = none
  enum : mg "enumerate" = none
end Y

end
section
set_option Elab.async false
set_option linter.all false
set_option maxRecDepth 100000
set_option maxHeartbeats 4000000
/-! ## where the law draws from -/
namespace S
open PySem L2
def top (i : Nat) : Stmt := PySem.Challenge.pw_roadsizes_k82_whole_texts_and_fates.main.body.getD i (.Pass ⟨0, 0, 0, 0⟩)
abbrev sSource : Stmt := top 78
abbrev sDraw : Stmt := top 79
abbrev sPick : Stmt := top 80
/-- the built-ins that these defs call -/
structure Bi (mg : Str → Option Value) : Prop where
  int : mg "int" = none
  len : mg "len" = none
/-- a source: two numbers that are not negative, the second one small -/
def Two (r m : Int) : List V := [.int r, .int m]
structure Fine (r m : Int) : Prop where
  r0 : 0 ≤ r
  m0 : 0 ≤ m
  m1 : m < 2147483648
def At (H : Hp) (p : Addr) : Prop := ∃ r m, H p = some (.lst (Two r m)) ∧ Fine r m
theorem bits_lt (x : Int) : x.natAbs < 2 ^ (Builtin.Int.intBits x) := by
  unfold Builtin.Int.intBits
  split
  · rename_i h
    have e : x = 0 := by simpa using h
    subst e
    decide
  · exact Nat.lt_log2_self
theorem bits_le {x : Int} {n : Nat} (h : x.natAbs < 2 ^ n) : Builtin.Int.intBits x ≤ n := by
  unfold Builtin.Int.intBits
  split
  · exact Nat.zero_le _
  · rename_i q
    have ne : x.natAbs ≠ 0 := fun e => q (by simp [Int.natAbs_eq_zero.mp e])
    exact (Nat.log2_lt ne).mpr h
theorem cube_gen {m z : Int} {N : Nat} (hN : 100 ≤ N) (h0 : 0 ≤ m) (h1 : m < 2147483648) (hz : Builtin.Int.intBits z ≤ N) : Builtin.Int.intBits (m * 40127 + z) ≤ N + 1 := by
  have b2 : z.natAbs < 2 ^ N := Nat.lt_of_lt_of_le (bits_lt z) (Nat.pow_le_pow_right (by decide) hz)
  refine bits_le ?_
  have e2 : (2 : Nat) ^ 100 ≤ 2 ^ N := Nat.pow_le_pow_right (by decide) hN
  have e3 : (2 : Nat) ^ 100 = 1267650600228229401496703205376 := by decide
  rw [Nat.pow_succ]
  generalize (2 : Nat) ^ N = t at *
  omega
theorem cube_ok {m z : Int} (h0 : 0 ≤ m) (h1 : m < 2147483648) (hz : Builtin.Int.intBits z ≤ 1048576) : (Builtin.Int.intBits (m * 40127 + z) : Int) * 3 ≤ 2 ^ 27 := by
  have b4 := cube_gen (N := 1048576) (by decide) h0 h1 hz
  have e27 : (2 : Int) ^ 27 = 134217728 := by decide
  rw [e27]
  omega
/-! ### promises -/
def spSource (K : PySem.W.Frag) : Sp := fun vs H Q _ => ∃ (a : Addr) (ns : List Int) (i : Nat), vs = [.ref a, .int i] ∧ i ≤ 1000 ∧ SqL K H a (ns.map V.int) ∧ ns.length ≤ 63 ∧ (∀ z ∈ ns, Builtin.Int.intBits z ≤ 1048576) ∧
  ∀ p r m, H p = none → Fine r m → Q (.ref p) (upd H p (.lst (Two r m)))
def spDraw : Sp := fun vs H Q _ => ∃ (p : Addr) (r m span : Int), vs = [.ref p, .int span] ∧ H p = some (.lst (Two r m)) ∧ Fine r m ∧ 1 ≤ span ∧ span.natAbs.log2 < 9000 ∧
  ∀ k r' m', Fine r' m' → 0 ≤ k → k < span → Q (.int k) (upd H p (.lst (Two r' m')))
def spPick (K : PySem.W.Frag) : Sp := fun vs H Q _ => ∃ (p l : Addr) (r m : Int) (xs : List V), vs = [.ref p, .ref l] ∧ H p = some (.lst (Two r m)) ∧ Fine r m ∧ l ≠ p ∧ SqL K H l xs ∧ 1 ≤ xs.length ∧ xs.length ≤ 1000 ∧
  ∀ (j : Nat) (x : V) (r' m' : Int), Fine r' m' → xs[j]? = some x → Q x (upd H p (.lst (Two r' m')))
section
variable {P : Program} {w : World} {K : PySem.W.Frag} {mg : Str → Option Value} {base : Heap}
theorem sc1 : FnScope ["script", "start", "seed", "cell", "digits"] ["script", "start"] (defScope sSource) := ⟨rfl, rfl, rfl, by decide +kernel, rfl, by decide +kernel, by decide +kernel⟩
theorem ints_at {ns : List Int} {i : Nat} {x : V} (h : (ns.map V.int)[i]? = some x) : ∃ z, x = .int z ∧ z ∈ ns ∧ ns[i]? = some z := by
  rw [List.getElem?_map] at h
  cases e : ns[i]? with
  | none => rw [e] at h; cases h
  | some z => rw [e] at h; exact ⟨z, (Option.some.inj h).symm, List.mem_of_getElem? e, rfl⟩
theorem ok_source {f : Addr} {fd : FuncData} (F : Fun K "_law_stream" "_law_stream" sSource f fd) (B : Bi mg) : FnOk P w K mg base CX0 1 f fd ["script", "start"] (spSource K) := by
  refine F.ok sc1 (fun vs H Q E h => ?_) (fun cdv A outer s H vs Q E hr h => ?_)
  · obtain ⟨a, ns, i, rfl, _⟩ := h
    rfl
  · obtain ⟨a, ns, st, rfl, hst, hS, hl, hb, k⟩ := h
    refine ⟨_, pss_cons (ps_set (i := 2) sc1.nd rfl (Or.inl rfl) (pe_op op_add pe_int (pv 1)))
      (pss_cons (ps_for PassesOwn.never rfl (pi_list (pv 0)) (pg_name (i := 3) sc1.nd rfl (Or.inl rfl))
        (pss_one (ps_set (i := 2) sc1.nd rfl (Or.inl rfl) (pe_op op_add (pe_op op_mod
          (pe_op G.op_powN (pe_callTy call_int1 (by rfl) B.int (by decide +kernel) (pa_cons (pe_op op_add (pe_op op_mul (pv 2) pe_int) (pv 3)) pa_nil)) pe_int) pe_int) pe_int))))
      (pss_cons (ps_set (i := 4) sc1.nd rfl (Or.inl rfl) pe_int)
      (pss_cons (ps_if (PW.pt (pw_and (pt_cmpR op_lt (pv 1) (pe_callB call_len_seq (by rfl) B.len PySem.boot_len (pa_cons (pv 0) pa_nil)) (nomark _))
          (pw_and1 (pt_cmpR op_ge (pe_ix ix_list (pv 0) (pv 1) (fun _ _ => rfl)) (pe_op op_pow pe_int pe_int) (nomark _)))))
        (pss_one (ps_set (i := 4) sc1.nd rfl (Or.inl rfl) (pe_op op_sub (pe_ix ix_list (pv 0) (pv 1) (fun _ _ => rfl)) (pe_op op_pow pe_int pe_int)))) pss_nil)
      (pss_one (ps_ret (pe_lst (pa_cons (pv 4) (pa_cons (pv 2) pa_nil)))))))), ?_⟩
    -- mixed = 97 + start
    refine ⟨_, rfl, _, _, rfl, rfl, ?_⟩
    -- for cell in script
    refine ⟨_, rfl, a, rfl, ⟨_, hS⟩, for_list (K := K) (a := a) (xs := ns.map V.int) (fun i σ H2 => ∃ (m : Int) (c : Option V), σ = [some (.ref a), some (.int st), some (.int m), c, none] ∧ H2 = H ∧ (0 ≤ m ∧ m < 2147483648))
      ⟨_, none, rfl, rfl, by omega, by omega⟩ (fun i σ H2 _ ⟨_, _, _, e, _⟩ => by rw [e]; exact hS) ?_ ?_⟩
    · rintro i y σ H2 hi ⟨m, c, rfl, rfl, h0, h1⟩
      obtain ⟨z, rfl, hz, _⟩ := ints_at hi
      refine ⟨_, rfl, _, _, rfl, rfl, .inl ⟨by omega, by omega⟩, _, rfl, _, _, rfl, rfl, .inl ⟨_, rfl, _, _, rfl, rfl, ⟨by decide, cube_ok h0 h1 (hb z hz)⟩, _, _, rfl, rfl, (by show (0 : Int) < 2147483629; decide), _, _, rfl, rfl, ?_⟩⟩
      refine ⟨_, _, rfl, rfl, ?_⟩
      have e1 := Int.emod_nonneg ((m * 40127 + z) ^ (3 : Int).toNat) (b := 2147483629) (by decide)
      have e2 := Int.emod_lt_of_pos ((m * 40127 + z) ^ (3 : Int).toNat) (b := 2147483629) (by decide)
      exact ⟨Int.add_nonneg e1 (by decide), Int.lt_of_lt_of_le (Int.add_lt_add_right e2 1) (by decide)⟩
    · rintro σ H2 ⟨m, c, rfl, rfl, h0, h1⟩
      -- rest = 0; if start < len(script) and script[start] >= 10 ** 18
      refine ⟨_, rfl, _, rfl, a, _, rfl, .inl hS, _, _, rfl, rfl, _, rfl, ?_⟩
      have fin : ∀ r : Int, 0 ≤ r → tRet (tLst (tCons (tVar 4) (tCons (tVar 2) tNil))) { nx := fun _ H' => Q .non H', rt := Q } [some (.ref a), some (.int st), some (.int m), c, some (.int r)] H2 := fun r hr =>
        ⟨_, rfl, _, rfl, (by show 2 ≤ sizeLine; decide), fun p hp => k p r m hp ⟨hr, h0, h1⟩⟩
      by_cases hlt : st < ns.length
      · have e : decide ((st : Int) < ((ns.map V.int).length : Int)) = true := by
          rw [List.length_map]
          exact decide_eq_true (by omega)
        rw [e]
        refine iteT ?_
        have hit : (ns.map V.int)[st]? = some (V.int ns[st]) := by rw [List.getElem?_map, List.getElem?_eq_getElem hlt]; rfl
        refine ⟨_, rfl, _, rfl, a, _, _, _, rfl, rfl, hS, atI_nat hit, _, _, rfl, rfl, ⟨by decide, by decide, by decide⟩, _, _, rfl, rfl, _, rfl, ?_⟩
        refine ite2 (fun hge => ?_) (fun _ => fin 0 (by decide))
        refine ⟨_, rfl, _, rfl, a, _, _, _, rfl, rfl, hS, atI_nat hit, _, _, rfl, rfl, ⟨by decide, by decide, by decide⟩, _, _, rfl, rfl, ?_⟩
        exact fin _ (Int.sub_nonneg_of_le (of_decide_eq_true hge))
      · have e : decide ((st : Int) < ((ns.map V.int).length : Int)) = false := by
          rw [List.length_map]
          exact decide_eq_false (by omega)
        rw [e]
        exact iteF (iteF (fin 0 (by decide)))
theorem fits {a : Int} {n : Nat} (h : 0 ≤ a) (h1 : a < 2 ^ n) : a.natAbs < 2 ^ n := by
  have e : ((2 : Int) ^ n) = ((2 ^ n : Nat) : Int) := by rw [Int.natCast_pow]; rfl
  rw [e] at h1
  omega
theorem sc2 : FnScope ["stream", "size", "found"] ["stream", "size"] (defScope sDraw) := ⟨rfl, rfl, rfl, by decide +kernel, rfl, by decide +kernel, by decide +kernel⟩
theorem ok_draw {f : Addr} {fd : FuncData} (F : Fun K "_law_draw" "_law_draw" sDraw f fd) (B : Bi mg) : FnOk P w K mg base CX0 1 f fd ["stream", "size"] spDraw := by
  refine F.ok sc2 (fun vs H Q E h => ?_) (fun cdv A outer s H vs Q E hr h => ?_)
  · obtain ⟨p, r, m, span, rfl, _⟩ := h
    rfl
  · obtain ⟨p, r, m, span, rfl, hp, ⟨r0, m0, m1⟩, s1, s2, k⟩ := h
    refine ⟨_, pss_cons (ps_if (pt_cmpR op_ge (pe_ix ix_list (pv 0) pe_int (fun _ _ => rfl)) (pv 1) (nomark _))
        (pss_cons (ps_set (i := 2) sc2.nd rfl (Or.inl rfl) (pe_op op_mod (pe_callTy call_int1 (by rfl) B.int (by decide +kernel) (pa_cons (pe_ix ix_list (pv 0) pe_int (fun _ _ => rfl)) pa_nil)) (pv 1)))
        (pss_cons (ps_asg (pe_op op_fdivW (pe_ix ix_list (pv 0) pe_int (fun _ _ => rfl)) (pv 1)) (pg_sub (pv 0) pe_int set_list))
        (pss_one (ps_ret (pv 2))))) pss_nil)
      (pss_cons (ps_asg (pe_op op_mod (pe_callTy call_int1 (by rfl) B.int (by decide +kernel) (pa_cons (pe_op op_add (pe_op op_mul (pe_ix ix_list (pv 0) pe_int (fun _ _ => rfl)) pe_int) pe_int) pa_nil)) pe_int) (pg_sub (pv 0) pe_int set_list))
      (pss_one (ps_ret (pe_op op_mod (pe_op op_fdiv (pe_op op_mod (pe_op op_pow (pe_op op_mod (pe_op op_pow (pe_callTy call_int1 (by rfl) B.int (by decide +kernel) (pa_cons (pe_ix ix_list (pv 0) pe_int (fun _ _ => rfl)) pa_nil)) pe_int) pe_int) pe_int) pe_int) pe_int) (pv 1))))), ?_⟩
    have g0 : atI (Two r m) 0 = some (.int r) := rfl
    refine ⟨_, rfl, p, _, _, _, rfl, rfl, SqL.of hp, g0, _, rfl, _, _, rfl, rfl, _, rfl, ?_⟩
    refine ite2 (fun hge => ?_) (fun hlt => ?_)
    · have hge' : span ≤ r := of_decide_eq_true hge
      have q0 : 0 ≤ r / span := Int.ediv_nonneg r0 (by omega)
      refine ⟨_, rfl, p, _, _, _, rfl, rfl, SqL.of hp, g0, .inl ⟨_, rfl, _, rfl, _, _, rfl, rfl, (by show 0 < span; omega), ?_⟩⟩
      refine ⟨_, rfl, p, _, _, _, rfl, rfl, SqL.of hp, g0, _, rfl, _, _, rfl, rfl, ⟨(by omega), s2⟩, ?_⟩
      refine ⟨_, rfl, p, _, _, _, rfl, rfl, hp, rfl, ?_⟩
      exact ⟨_, rfl, k (r % span) (r / span) m ⟨q0, m0, m1⟩ (Int.emod_nonneg _ (by omega)) (Int.emod_lt_of_pos _ (by omega))⟩
    · have g1 : atI (Two r m) 1 = some (.int m) := rfl
      have e1 := Int.emod_nonneg (m * 48271 + 12345) (b := 2147483647) (by decide)
      have e2 := Int.emod_lt_of_pos (m * 48271 + 12345) (b := 2147483647) (by decide)
      refine ⟨_, rfl, p, _, _, _, rfl, rfl, SqL.of hp, g1, _, _, rfl, rfl, .inl ⟨by omega, by omega⟩, _, _, rfl, rfl, .inl ⟨_, rfl, _, _, rfl, rfl, (by show (0 : Int) < 2147483647; decide), ?_⟩⟩
      refine ⟨_, rfl, p, _, _, _, rfl, rfl, hp, rfl, ?_⟩
      have hp2 : (upd H p (.lst (Two r ((m * 48271 + 12345) % 2147483647)))) p = some (.lst (Two r ((m * 48271 + 12345) % 2147483647))) := upd_same
      have g2 : atI (Two r ((m * 48271 + 12345) % 2147483647)) 1 = some (.int ((m * 48271 + 12345) % 2147483647)) := rfl
      have f1 := Int.emod_nonneg (((m * 48271 + 12345) % 2147483647) ^ (3 : Int).toNat) (b := 2147483629) (by decide)
      have f2 := Int.emod_lt_of_pos (((m * 48271 + 12345) % 2147483647) ^ (3 : Int).toNat) (b := 2147483629) (by decide)
      refine ⟨_, rfl, p, _, _, _, rfl, rfl, SqL.of hp2, g2, .inl ⟨_, rfl, _, _, rfl, rfl, ⟨by decide, by decide, by omega⟩, _, _, rfl, rfl, (by show (0 : Int) < 2147483629; decide), ?_⟩⟩
      generalize (((m * 48271 + 12345) % 2147483647) ^ (3 : Int).toNat) % 2147483629 = u at f1 f2 ⊢
      refine ⟨_, _, rfl, rfl, ⟨by decide, by decide, by omega⟩, _, _, rfl, rfl, (by show (0 : Int) < 1000000007; decide), _, _, rfl, rfl, ⟨by decide, by decide⟩, _, rfl, _, _, rfl, rfl, (by show 0 < span; omega), ?_⟩
      exact k _ r _ ⟨r0, e1, by omega⟩ (Int.emod_nonneg _ (by omega)) (Int.emod_lt_of_pos _ (by omega))
end
end S

end
section
set_option autoImplicit false
set_option Elab.async false
set_option linter.all false
set_option maxRecDepth 100000
set_option maxHeartbeats 4000000
/-! ## the program's chains -/
namespace CP
open PySem L2 G Y
abbrev sInteger : Stmt := S.top 4
abbrev sWithin : Stmt := S.top 5
abbrev sCInit : Stmt := inClass (S.top 49) 0
abbrev sCHas : Stmt := inClass (S.top 49) 1
abbrev sCGet : Stmt := inClass (S.top 49) 2
abbrev sCPieces : Stmt := inClass (S.top 49) 6
abbrev sCDigits : Stmt := inClass (S.top 49) 7
abbrev sCStretch : Stmt := inClass (S.top 49) 8
abbrev sCBoundary : Stmt := inClass (S.top 49) 10
abbrev sAreCuts : Stmt := S.top 50
abbrev sCounts : Stmt := S.top 51
abbrev sPieces : Stmt := S.top 52
/-- cuts: falling, at most 1000 -/
structure Cuts (l : List Nat) : Prop where
  fall : N.Fall l
  le : ∀ c ∈ l, c ≤ 1000
  len : l.length ≤ 1000
theorem Cuts.at {l : List Nat} (h : Cuts l) {i c : Nat} (e : l[i]? = some c) : 0 < c ∧ c ≤ 1000 := ⟨h.fall.pos c (List.mem_of_getElem? e), h.le c (List.mem_of_getElem? e)⟩
theorem Cuts.drop {l : List Nat} (h : Cuts l) (i : Nat) : Cuts (l.drop i) := ⟨h.fall.drop i, fun c hc => h.le c (List.mem_of_mem_drop hc), by rw [List.length_drop]; have := h.len; omega⟩
section
variable {P : Program} {w : World} {K : PySem.W.Frag} {mg : Str → Option Value} {base : Heap} {C : Addr}
def spInteger : Sp := fun vs H Q _ => ∃ v : Int, vs = [.int v] ∧ Q (.bl true) H
theorem scIn : FnScope ["value"] ["value"] (defScope sInteger) := ⟨rfl, rfl, rfl, by decide +kernel, rfl, by decide +kernel, by decide +kernel⟩
theorem ok_integer {f : Addr} {fd : FuncData} (F : Fun K "is_integer" "is_integer" sInteger f fd) (B : Bn mg) : FnOk P w K mg base CX0 1 f fd ["value"] spInteger := by
  refine F.ok scIn (fun vs H Q E h => ?_) (fun cdv A outer s H vs Q E hr h => ?_)
  · obtain ⟨v, rfl, _⟩ := h
    rfl
  · obtain ⟨v, rfl, k⟩ := h
    refine ⟨_, pss_one (ps_ret (pe_and (pe_callB call_isi (by rfl) B.isi (by decide +kernel) (pa_cons (pv 0) (pa_cons (pe_bltn (v := .ty "int") (by rfl) B.int (by decide +kernel) rfl) pa_nil)))
      (pe_one (pe_not (pe_callB call_isi (by rfl) B.isi (by decide +kernel) (pa_cons (pv 0) (pa_cons (pe_bltn (v := .ty "bool") (by rfl) B.bool (by decide +kernel) rfl) pa_nil))))))), ?_⟩
    exact ⟨_, rfl, _, _, _, _, _, rfl, .ty _, .base (.int _), kit_ty (r := true) (by decide +kernel), _, rfl, iteT ⟨_, rfl, _, _, _, _, _, rfl, .ty _, .base (.int _), kit_ty (r := false) (by decide +kernel), _, rfl, k⟩⟩
def spWithin : Sp := fun vs H Q _ => ∃ v a b : Int, vs = [.int v, .int a, .int b] ∧ Q (.bl (decide (a ≤ v ∧ v ≤ b))) H
theorem sc3 : FnScope ["value", "least", "greatest"] ["value", "least", "greatest"] (defScope sWithin) := ⟨rfl, rfl, rfl, by decide +kernel, rfl, by decide +kernel, by decide +kernel⟩
theorem ok_within {f : Addr} {fd : FuncData} (F : Fun K "is_within" "is_within" sWithin f fd) (DI : Df P w K mg base 1 "is_integer" ["value"] spInteger) : FnOk P w K mg base CX0 2 f fd ["value", "least", "greatest"] spWithin := by
  obtain ⟨fI, fdI, GI, gI, kI, bI⟩ := DI.ex
  refine F.ok sc3 (fun vs H Q E h => ?_) (fun cdv A outer s H vs Q E hr h => ?_)
  · obtain ⟨v, a, b, rfl, _⟩ := h
    rfl
  · obtain ⟨v, a, b, rfl, k⟩ := h
    refine ⟨_, pss_one (ps_ret (pe_and (pe_call GI hr rfl gI kI bI .nil pass0 (pa_cons (pv 0) pa_nil)) (pe_one (pe_chain op_le op_le (pv 1) (pv 0) (pv 2))))), ?_⟩
    refine ⟨_, rfl, v, rfl, _, rfl, iteT ⟨_, rfl, _, rfl, _, _, rfl, rfl, _, rfl, ?_⟩⟩
    refine ite2 (fun h1 => ⟨_, rfl, _, _, rfl, rfl, ?_⟩) (fun h1 => ?_)
    · have e1 : a ≤ v := of_decide_eq_true h1
      rw [show decide (a ≤ v ∧ v ≤ b) = decide (v ≤ b) by
        by_cases z : v ≤ b
        · rw [decide_eq_true z, decide_eq_true ⟨e1, z⟩]
        · rw [decide_eq_false z, decide_eq_false fun q => z q.2]] at k
      exact k
    · rw [show decide (a ≤ v ∧ v ≤ b) = false from decide_eq_false fun q => h1 (decide_eq_true q.1)] at k
      exact k
/-- _pieces -/
def spPieces (K : PySem.W.Frag) : Sp := fun vs H Q _ => ∃ (b : Nat) (l : List Nat) (t u : Addr), vs = [.int (b : Int), .ref t, .ref u] ∧ SqT K H t (ni l) ∧ SqT K H u (ni (N.cn l)) ∧ Cuts l ∧ ∀ H', Same H H' → Q (.int ((N.PC l b : Nat) : Int)) H'
abbrev NPc : List Str := ["body", "cuts", "counts", "pieces", "rest", "cut", "count"]
theorem scPc : FnScope NPc ["body", "cuts", "counts"] (defScope sPieces) := ⟨rfl, rfl, rfl, by decide +kernel, rfl, by decide +kernel, by decide +kernel⟩
theorem sqT_same {H H' : Hp} {a : Addr} {xs : List V} (s : Same H H') (h : SqT K H a xs) : SqT K H' a xs := h.elim (fun h => .inl (h.elim (fun h => .inl (s _ _ h)) fun ⟨o, h⟩ => .inr ⟨o, s _ _ h⟩)) .inr
theorem ok_pieces {f : Addr} {fd : FuncData} (F : Fun K "_pieces" "_pieces" sPieces f fd) (B : Bn mg) : FnOk P w K mg base CX0 1 f fd ["body", "cuts", "counts"] (spPieces K) := by
  refine F.ok scPc (fun vs H Q E h => ?_) (fun cdv A outer s H vs Q E hr h => ?_)
  · obtain ⟨b, l, t, u, rfl, _⟩ := h
    rfl
  · obtain ⟨b, l, t, u, rfl, hT, hU, hl, k⟩ := h
    refine ⟨_, pss_cons (ps_set (i := 3) scPc.nd rfl (Or.inl rfl) pe_int)
      (pss_cons (ps_set (i := 4) scPc.nd rfl (Or.inl rfl) (pv 0))
      (pss_cons (ps_for PassesOwn.never rfl (RZ.pi_zipA (by rfl) B.zip (pa_cons (pv 1) (pa_cons (pv 2) pa_nil))) (pg_tup (by rfl) (pgs_cons (pg_name (i := 5) scPc.nd rfl (.inl rfl)) (pgs_cons (pg_name (i := 6) scPc.nd rfl (.inl rfl)) pgs_nil)))
        (pss_cons (ps_set (i := 3) scPc.nd rfl (Or.inl rfl) (pe_op op_add (pv 3) (pe_op op_mul (pe_op op_fdiv (pv 4) (pv 5)) (pv 6))))
        (pss_one (ps_set (i := 4) scPc.nd rfl (Or.inl rfl) (pe_op op_mod (pv 4) (pv 5))))))
      (pss_cons (ps_if (PW.pt (pw_or (pt_cmpR op_gt (pv 4) pe_int (nomark _)) (pw_or1 (pt_cmpR op_eq (pv 0) pe_int (nomark _))))) (pss_one (ps_set (i := 3) scPc.nd rfl (Or.inl rfl) (pe_op op_add (pv 3) pe_int))) pss_nil)
      (pss_one (ps_ret (pv 3)))))), ?_⟩
    refine ⟨_, rfl, _, rfl, _, rfl, t, u, _, _, rfl, .inr ⟨hT, hU, ?_⟩⟩
    refine RZ.for_zipT (by rw [ni_len, ni_len, N.cn_len]) (fun i σ G => Same H G ∧ ∃ (p r : Nat) (q1 q2 : Option V), σ = [some (.int (b : Int)), some (.ref t), some (.ref u), some (.int (p : Int)), some (.int (r : Int)), q1, q2] ∧ p + N.sm (l.drop i) r = N.sm l b ∧ N.rem (l.drop i) r = N.rem l b)
      ⟨Same.refl H, 0, b, _, _, rfl, by rw [List.drop_zero, Nat.zero_add], by rw [List.drop_zero]⟩ (fun i σ G z => ⟨sqT_same z.1 hT, sqT_same z.1 hU⟩) ?_ ?_
    · rintro i x y T σ G hx hy ⟨s1, p, r, q1, q2, rfl, e1, e2⟩ hT0
      obtain ⟨c, hc, rfl⟩ := ni_get hx
      obtain ⟨n, hn, rfl⟩ := ni_get hy
      obtain ⟨c2, hc2, en⟩ := N.cn_at hn
      rw [hc] at hc2
      cases hc2
      have pc := hl.at hc
      have nle := N.L_le (hl.drop (i + 1)).fall pc.1
      rw [← en] at nle
      refine ⟨T, _, rfl, SqT.of upd_same, rfl, _, _, rfl, _, _, rfl, rfl, ?_⟩
      refine ⟨_, rfl, _, rfl, _, rfl, _, _, rfl, rfl, ⟨by omega, by omega⟩, _, rfl, _, _, rfl, rfl, .inr ⟨by omega, by omega⟩, _, _, rfl, rfl, ?_⟩
      refine ⟨_, rfl, _, rfl, _, _, rfl, rfl, by show (0 : Int) < (c : Int); omega, ?_⟩
      refine ⟨s1.trans (of_upd hT0), p + r / c * n, r % c, _, _, rfl, ?_, ?_⟩
      · rw [drop_at hc] at e1
        rw [N.sm_cons, ← en] at e1
        omega
      · rw [drop_at hc, N.rem_cons] at e2
        exact e2
    · rintro σ G ⟨s1, p, r, q1, q2, rfl, e1, e2⟩
      rw [ni_len, List.drop_length] at e1 e2
      rw [N.sm_nil] at e1
      rw [N.rem_nil] at e2
      have fin : ∀ z : Nat, z = N.PC l b → Q (.int (z : Int)) G := fun z e => by rw [e]; exact k G s1
      refine ⟨_, rfl, _, _, rfl, rfl, _, rfl, ite2 (fun c => ?_) (fun c => ⟨_, rfl, rfl, _, rfl, ite2 (fun d => ?_) (fun d => ?_)⟩)⟩
      · refine ⟨_, rfl, _, _, rfl, rfl, _, rfl, fin (p + 1) ?_⟩
        have c2 : (0 : Int) < (r : Int) := of_decide_eq_true c
        rw [N.PC_sm, if_pos (.inl (by omega))]
        omega
      · refine ⟨_, rfl, _, _, rfl, rfl, _, rfl, fin (p + 1) ?_⟩
        have d2 : V.int (b : Int) = V.int 0 := of_decide_eq_true d
        injection d2 with d2
        rw [N.PC_sm, if_pos (.inr (by omega))]
        omega
      · refine ⟨_, rfl, fin p ?_⟩
        have c2 : ¬ (0 : Int) < (r : Int) := fun z => c (decide_eq_true z)
        have d2 : b ≠ 0 := fun z => d (decide_eq_true (by rw [z]; rfl))
        rw [N.PC_sm, if_neg (by omega)]
        omega
end
end CP

end
section
set_option autoImplicit false
set_option Elab.async false
set_option linter.all false
set_option maxRecDepth 100000
set_option maxHeartbeats 4000000
namespace CP
open PySem L2 G Y
section
variable {P : Program} {w : World} {K : PySem.W.Frag} {mg : Str → Option Value} {base : Heap} {C : Addr}
/-- _piece_counts -/
def spCounts (K : PySem.W.Frag) : Sp := fun vs H Q _ => ∃ (l : List Nat) (t : Addr), vs = [.ref t] ∧ SqT K H t (ni l) ∧ Cuts l ∧ ∀ u H', Same H H' → H' u = some (.tup (ni (N.cn l))) → Q (.ref u) H'
theorem scCn : FnScope ["cuts", "counts", "at"] ["cuts"] (defScope sCounts) := ⟨rfl, rfl, rfl, by decide +kernel, rfl, by decide +kernel, by decide +kernel⟩
theorem ok_counts {f : Addr} {fd : FuncData} (F : Fun K "_piece_counts" "_piece_counts" sCounts f fd) (B : Bn mg) (DP : Df P w K mg base 1 "_pieces" ["body", "cuts", "counts"] (spPieces K)) : FnOk P w K mg base CX0 2 f fd ["cuts"] (spCounts K) := by
  obtain ⟨fP, fdP, GP, gP, kP, bP⟩ := DP.ex
  refine F.ok scCn (fun vs H Q E h => ?_) (fun cdv A outer s H vs Q E hr h => ?_)
  · obtain ⟨l, t, rfl, _⟩ := h
    rfl
  · obtain ⟨l, t, rfl, hT, hl, k⟩ := h
    refine ⟨_, pss_cons (ps_set (i := 1) scCn.nd rfl (Or.inl rfl) (pe_tup pa_nil))
      (pss_cons (ps_for PassesOwn.never rfl (pi_range3 (by rfl) B.range (pa_cons (pe_op op_sub (pe_callB call_len_seq (by rfl) B.len PySem.boot_len (pa_cons (pv 0) pa_nil)) pe_int) (pa_cons (pe_un un_neg pe_int) (pa_cons (pe_un un_neg pe_int) pa_nil)))) (pg_name (i := 2) scCn.nd rfl (Or.inl rfl))
        (pss_one (ps_set (i := 1) scCn.nd rfl (Or.inl rfl) (pe_tup (pa_cons (pe_call GP hr rfl gP kP bP .nil pass0 (pa_cons (pe_ix ix_tup (pv 0) (pv 2) (fun _ _ => rfl)) (pa_cons (pe_slice sl_tup (pv 0) (po_some (pe_op op_add (pv 2) pe_int)) po_none) (pa_cons (pv 1) pa_nil)))) (StX.pa_star (pv 1) pa_nil))))))
      (pss_one (ps_ret (pv 1)))), ?_⟩
    have ln := hl.len
    refine ⟨line2.2.2.2, fun u0 h0 => ?_⟩
    have s0 : Same H (upd H u0 (.tup [])) := of_upd h0
    refine ⟨_, rfl, t, _, rfl, .inr (sqT_same s0 hT), _, _, rfl, rfl, 1, rfl, 1, rfl, _, _, _, _, rfl, RgC.neg (by rw [ni_len]; omega) (by rw [ni_len]; omega) (by decide) (by decide), ?_⟩
    rw [ni_len]
    refine for_rangeC (n := ((l.length : Int) - 1 - -1).toNat) (fun i σ G => Same H G ∧ ∃ u q, σ = [some (.ref t), some (.ref u), q] ∧ G u = some (.tup (ni (N.cn (l.drop (l.length - i))))))
      ⟨s0, u0, _, rfl, by rw [Nat.sub_zero, List.drop_length]; exact upd_same⟩ ?_ ?_
    · rintro i σ G hi ⟨s1, u, q, rfl, hu⟩
      have hi2 : i < l.length := by omega
      obtain ⟨c, hc⟩ : ∃ c, l[l.length - 1 - i]? = some c := ⟨_, List.getElem?_eq_getElem (by omega)⟩
      have pc := hl.at hc
      have ei : (l.length : Int) - 1 + (i : Int) * -1 = ((l.length - 1 - i : Nat) : Int) := by omega
      have e2 : l.length - 1 - i + 1 = l.length - i := by omega
      have e3 : l.length - (i + 1) = l.length - 1 - i := by omega
      dsimp only
      rw [ei]
      refine ⟨_, rfl, _, rfl, t, _, _, _, rfl, rfl, sqT_same s1 hT, atI_nat (ni_at hc), _, rfl, _, rfl, _, _, rfl, rfl, _, rfl, t, _, rfl, sqT_same s1 hT, ?_, fun a ha => ?_⟩
      · intro z
        have e4 : ((l.length - 1 - i : Nat) : Int) + 1 = ((l.length - i : Nat) : Int) := by omega
        rw [e4] at z
        exact six_pos (by omega) (by rw [ni_len]; omega) 0 z.1
      have e4 : cutV (ni l) (some (((l.length - 1 - i : Nat) : Int) + 1)) none = ni (l.drop (l.length - i)) := by
        rw [show ((l.length - 1 - i : Nat) : Int) + 1 = ((l.length - i : Nat) : Int) by omega, cut_from, ni_drop]
      rw [e4]
      have s2 : Same G (upd G a (.tup (ni (l.drop (l.length - i))))) := of_upd ha
      refine ⟨_, rfl, c, l.drop (l.length - i), a, u, rfl, SqT.of upd_same, SqT.of (s2 _ _ hu), hl.drop _, fun G2 s3 => ?_⟩
      have hu2 := s3 _ _ (s2 _ _ hu)
      refine ⟨_, rfl, u, _, rfl, .inl (SqT.of hu2), ?_, fun v hv => ?_⟩
      · rw [List.append_nil]
        show (ni (N.cn (l.drop (l.length - i)))).length + 1 ≤ sizeLine
        rw [ni_len, N.cn_len, List.length_drop]
        exact Nat.le_trans (show l.length - (l.length - i) + 1 ≤ 1001 by omega) (by decide)
      · refine ⟨(s1.trans s2).trans (s3.trans (of_upd hv)), v, _, rfl, ?_⟩
        rw [upd_same, e3, drop_at hc, e2, List.append_nil]
        have e5 : N.PC (l.drop (l.length - i)) c = N.L (l.drop (l.length - i)) c := if_neg (by omega)
        rw [e5]
        rfl
    · rintro σ G ⟨s1, u, q, rfl, hu⟩
      rw [show l.length - ((l.length : Int) - 1 - -1).toNat = 0 by omega, List.drop_zero] at hu
      exact ⟨_, rfl, k u G s1 hu⟩
/-- _are_cuts of cuts -/
def spAre : Sp := fun vs H Q _ => ∃ (l : List Nat) (t : Addr), vs = [.ref t] ∧ SAt H t (ni l) ∧ Cuts l ∧ ∀ H', Same H H' → Q (.bl true) H'
theorem scAre : FnScope ["value", "before", "cut"] ["value"] (defScope sAreCuts) := ⟨rfl, rfl, rfl, by decide +kernel, rfl, by decide +kernel, by decide +kernel⟩
theorem ok_are {f : Addr} {fd : FuncData} (F : Fun K "_are_cuts" "_are_cuts" sAreCuts f fd) (B : Bn mg) (gC : ∃ t, mg "GREATEST_CUT" = some (.int 1000 t)) (DW : Df P w K mg base 2 "is_within" ["value", "least", "greatest"] spWithin) : FnOk P w K mg base CX0 3 f fd ["value"] spAre := by
  obtain ⟨fW, fdW, GW, gW, kW, bW⟩ := DW.ex
  obtain ⟨tkC, gC⟩ := gC
  refine F.ok scAre (fun vs H Q E h => ?_) (fun cdv A outer s H vs Q E hr h => ?_)
  · obtain ⟨l, t, rfl, _⟩ := h
    rfl
  · obtain ⟨l, t, rfl, hT, hl, k⟩ := h
    refine ⟨_, pss_cons (ps_if (pt_not (pt_val (pe_callB call_isiT (by rfl) B.isi (by decide +kernel) (pa_cons (pv 0) (pa_cons (pe_tup (pa_cons (pe_bltn (v := .ty "list") (by rfl) B.list (by decide +kernel) rfl) (pa_cons (pe_bltn (v := .ty "tuple") (by rfl) B.tuple (by decide +kernel) rfl) pa_nil))) pa_nil))))) ps_dead pss_nil)
      (pss_cons (ps_set (i := 1) scAre.nd rfl (Or.inl rfl) (pe_op op_add (pe_glob (v := .int 1000) rfl gC ⟨_, rfl⟩) pe_int))
      (pss_cons (ps_for PassesOwn.never rfl (pi_or (pi_list (pv 0)) (pi_tup (pv 0))) (pg_name (i := 2) scAre.nd rfl (Or.inl rfl))
        (pss_cons (ps_if (pt_not (pt_val (pe_call GW hr rfl gW kW bW .nil pass0 (pa_cons (pv 2) (pa_cons pe_int (pa_cons (pe_op op_sub (pv 1) pe_int) pa_nil)))))) ps_dead pss_nil)
        (pss_one (ps_set (i := 1) scAre.nd rfl (Or.inl rfl) (pv 2)))))
      (pss_one (ps_ret pe_bl)))), ?_⟩
    refine ⟨_, rfl, line2.1, fun p hp => ?_⟩
    have sp : Same H (upd H p (.tup [.ty "list", .ty "tuple"])) := of_upd hp
    have hT2 := hT.mono sp
    have rest : (tSeq (tAsg (tOp (rI0 fun i j => .int (i + j)) (tC (.int 1000)) (tC (.int 1))) (gName 1)) (tSeq (tFor (fun σ H R => iList K (tVar 0) σ H R ∨ iTup K (tVar 0) σ H R) (gName 2) (tSeq (tIfS (tNot (tB (tCall spWithin [] E0 (tCons (tVar 2) (tCons (tC (.int 1)) (tCons (tOp (rI0 fun i j => .int (i - j)) (tVar 1) (tC (.int 1))) tNil)))))) tDead tNext) (tAsg (tVar 2) (gName 1)))) (tRet (tC (.bl true)))))
        { nx := fun _ H' => Q .non H', rt := Q } [some (.ref t), none, none] (upd H p (.tup [.ty "list", .ty "tuple"])) := by
      refine ⟨_, _, rfl, rfl, ?_⟩
      refine or_seq (fun Q2 h => ⟨_, rfl, h⟩) hT2 fun J Gd hG wk => ?_
      refine for_it wk (fun i σ G => Same H G ∧ Same (upd H p (.tup [.ty "list", .ty "tuple"])) G ∧ ∃ (b : Int) (q : Option V), σ = [some (.ref t), some (.int b), q] ∧ ∀ c ∈ l.drop i, (c : Int) < b)
        ⟨sp, Same.refl _, 1001, _, rfl, fun c hc => by have := hl.le c (List.mem_of_mem_drop hc); omega⟩ (fun i σ G _ z => hG G z.2.1) ?_ ?_
      · rintro i x σ G G' hi ⟨s1, s2, b, q, rfl, hb⟩ ⟨rfl, hx⟩
        obtain ⟨c, hc, rfl⟩ := ni_get hx
        have pc := hl.at hc
        have lt := hb c (by rw [drop_at hc]; exact List.mem_cons_self)
        have fl := (hl.drop i).fall
        rw [drop_at hc] at fl
        dsimp only
        refine ⟨_, rfl, _, rfl, _, _, rfl, rfl, (c : Int), 1, b - 1, rfl, ?_⟩
        rw [decide_eq_true (by omega)]
        exact ⟨_, rfl, iteF ⟨_, rfl, s1, s2, (c : Int), _, rfl, fun d hd => by have := fl.2.1 d hd; omega⟩⟩
      · rintro σ G ⟨s1, s2, b, q, rfl, hb⟩
        exact k G s1
    have kl : PySem.W.kitAny K (.type "list") [.type "list", .type "tuple"] = some true := by
      unfold PySem.W.kitAny
      rw [kit_ty (r := true) (by decide +kernel)]
    have kt : PySem.W.kitAny K (.type "tuple") [.type "list", .type "tuple"] = some true := by
      unfold PySem.W.kitAny
      rw [kit_ty (r := false) (by decide +kernel)]
      unfold PySem.W.kitAny
      rw [kit_ty (r := true) (by decide +kernel)]
    rcases hT2 with e | e
    · exact ⟨_, p, _, _, _, _, rfl, upd_same, .cons (.ty _) (.cons (.ty _) .nil), .base (.lst e), kl, _, rfl, iteF rest⟩
    · exact ⟨_, p, _, _, _, _, rfl, upd_same, .cons (.ty _) (.cons (.ty _) .nil), .base (.tup e), kt, _, rfl, iteF rest⟩
end
end CP

end
section
set_option autoImplicit false
set_option Elab.async false
set_option linter.all false
set_option maxRecDepth 100000
set_option maxHeartbeats 4000000
namespace CP
open PySem L2 G Y
theorem nk : ¬ (("cuts" : Str) = "_counts") := by decide +kernel
def cfl (t u : Addr) : List (Str × V) := putF "_counts" (.ref u) (putF "cuts" (.ref t) [])
theorem cfl_cuts (t u : Addr) : (cfl t u).lookup ("cuts" : Str) = some (.ref t) := by
  unfold cfl
  rw [lookup_putF, if_neg nk, lookup_putF, if_pos rfl]
theorem cfl_counts (t u : Addr) : (cfl t u).lookup ("_counts" : Str) = some (.ref u) := by
  unfold cfl
  rw [lookup_putF, if_pos rfl]
/-- a chain stands at a -/
def ChAt (C : Addr) (H : Hp) (l : List Nat) (a : Addr) : Prop := ∃ dx t u, H a = some (.ins C dx (cfl t u)) ∧ H t = some (.tup (ni l)) ∧ H u = some (.tup (ni (N.cn l)))
theorem ChAt.mono {C : Addr} {H H' : Hp} (s : Same H H') {l : List Nat} {a : Addr} (h : ChAt C H l a) : ChAt C H' l a := by
  obtain ⟨dx, t, u, h1, h2, h3⟩ := h
  exact ⟨dx, t, u, s _ _ h1, s _ _ h2, s _ _ h3⟩
structure Ct (K : PySem.W.Frag) (mg : Str → Option Value) (C : Addr) : Prop where
  g : mg "Chain" = some (.ref C)
  cl : Cls K C
  nC : NoAttr K C "cuts"
  nK : NoAttr K C "_counts"
section
variable {P : Program} {w : World} {K : PySem.W.Frag} {mg : Str → Option Value} {base : Heap} {C : Addr}
def spCInit (C : Addr) : Sp := fun vs H Q _ => ∃ (x l dx : Addr) (cs : List Nat) (H0 : Hp), vs = [.ref x, .ref l] ∧ H x = some (.ins C dx []) ∧ H0 x = none ∧ Same H0 H ∧ SAt H0 l (ni cs) ∧ Cuts cs ∧ ∀ H', Same H0 H' → ChAt C H' cs x → Q .non H'
theorem scCI : FnScope ["self", "cuts"] ["self", "cuts"] (defScope sCInit) := ⟨rfl, rfl, rfl, by decide +kernel, rfl, by decide +kernel, by decide +kernel⟩
theorem ok_cinit {f : Addr} {fd : FuncData} (F : Fun K "__init__" "Chain.__init__" sCInit f fd) (B : Bn mg) (T : Ct K mg C) (DA : Df P w K mg base 3 "_are_cuts" ["value"] spAre) (DC : Df P w K mg base 2 "_piece_counts" ["cuts"] (spCounts K)) : FnOk P w K mg base CX0 4 f fd ["self", "cuts"] (spCInit C) := by
  obtain ⟨fA, fdA, GA, gA, kA, bA⟩ := DA.ex
  obtain ⟨fC, fdC, GC, gC, kC, bC⟩ := DC.ex
  refine F.ok scCI (fun vs H Q E h => ?_) (fun cdv A outer s H vs Q E hr h => ?_)
  · obtain ⟨x, l, dx, cs, H0, rfl, _⟩ := h
    rfl
  · obtain ⟨x, l, dx, cs, H0, rfl, hx, hx0, s0, hl, hc, k⟩ := h
    refine ⟨_, pss_cons (ps_if (pt_not (pt_val (pe_call GA hr rfl gA kA bA .nil pass0 (pa_cons (pv 1) pa_nil)))) ps_dead pss_nil)
      (pss_cons (ps_fld (pv 0) (pe_callTy call_tuple_of (by rfl) B.tuple (by decide +kernel) (pa_cons (pv 1) pa_nil)) rfl)
      (pss_one (ps_fld (pv 0) (pe_call GC (hr.mono (by decide)) rfl gC kC bC .nil pass0 (pa_cons (pe_fld (pv 0) rfl) pa_nil)) rfl))), ?_⟩
    refine ⟨_, rfl, cs, l, rfl, hl.mono s0, hc, fun G1 s1 => ⟨_, rfl, iteF ?_⟩⟩
    have s01 := s0.trans s1
    have hx1 := s1 _ _ hx
    have fin : ∀ (t : Addr) (G2 : Hp), Same G1 G2 → G2 t = some (.tup (ni cs)) → sFld K (tVar 0) (tC (.ref t)) "cuts" { nx := fun σ H => sFld K (tVar 0) (tCall (spCounts K) [] E0 (tCons (tFld K (tVar 0) "cuts") tNil)) "_counts" { nx := fun _ H' => Q .non H', rt := Q } σ H, rt := Q } [some (.ref x), some (.ref l)] G2 := fun t G2 s2 ht => by
      have hx2 := s2 _ _ hx1
      have s02 := s01.trans s2
      have tx : t ≠ x := fun z => by
        rw [z, hx2] at ht
        cases ht
      refine ⟨_, rfl, x, C, dx, _, rfl, hx2, T.cl, T.nC, by decide, ?_⟩
      have s3 : Same H0 (upd G2 x (.ins C dx (putF "cuts" (.ref t) []))) := add_upd hx0 s02
      have ht3 : (upd G2 x (.ins C dx (putF "cuts" (.ref t) []))) t = some (.tup (ni cs)) := by rw [upd_ne tx]; exact ht
      refine ⟨_, rfl, x, C, dx, _, _, rfl, upd_same, T.cl, T.nC, by rw [lookup_putF, if_pos rfl], cs, t, rfl, SqT.of ht3, hc, fun u G3 s4 hu => ?_⟩
      refine ⟨_, rfl, x, C, dx, _, rfl, s4 _ _ upd_same, T.cl, T.nK, len_put (by decide), ?_⟩
      have ux : u ≠ x := fun z => by
        rw [z, s4 _ _ upd_same] at hu
        cases hu
      refine k _ (add_upd hx0 (s3.trans s4)) ⟨dx, t, u, upd_same, ?_, ?_⟩
      · rw [upd_ne tx]
        exact s4 _ _ ht3
      · rw [upd_ne ux]
        exact hu
    rcases (hl.mono s0).mono s1 with e | e
    · exact ⟨_, rfl, l, _, rfl, .inl ⟨SqL.of e, fun t nt => fin t _ (of_upd nt) upd_same⟩⟩
    · exact ⟨_, rfl, l, _, rfl, .inr ⟨SqT.of e, fin l _ (Same.refl _) e⟩⟩
/-- Chain(cuts) -/
theorem made_ch {H : Hp} {Z : VK} {E : XK} {l x dx : Addr} {cs : List Nat} (hx : H x = none) (hdx : H dx = none) (ne : dx ≠ x) (hl : SAt H l (ni cs)) (hc : Cuts cs) (k : ∀ H', Same H H' → ChAt C H' cs x → Z .non H') :
    spCInit C (.ref x :: ([.ref l] ++ [])) (upd (upd H dx (.own x)) x (.ins C dx [])) Z E :=
  ⟨x, l, dx, cs, H, rfl, upd_same, hx, (of_upd hdx).trans (of_upd (by rw [upd_ne ne.symm]; exact hx)), hl, hc, k⟩
/-- pieces -/
def spCPieces (C : Addr) : Sp := fun vs H Q _ => ∃ (a : Addr) (b : Nat) (cs : List Nat), vs = [.ref a, .int (b : Int)] ∧ ChAt C H cs a ∧ Cuts cs ∧ ∀ H', Same H H' → Q (.int ((N.PC cs b : Nat) : Int)) H'
theorem scCP : FnScope ["self", "body"] ["self", "body"] (defScope sCPieces) := ⟨rfl, rfl, rfl, by decide +kernel, rfl, by decide +kernel, by decide +kernel⟩
theorem ok_cpieces {f : Addr} {fd : FuncData} (F : Fun K "pieces" "Chain.pieces" sCPieces f fd) (T : Ct K mg C) (DP : Df P w K mg base 1 "_pieces" ["body", "cuts", "counts"] (spPieces K)) : FnOk P w K mg base CX0 2 f fd ["self", "body"] (spCPieces C) := by
  obtain ⟨fP, fdP, GP, gP, kP, bP⟩ := DP.ex
  refine F.ok scCP (fun vs H Q E h => ?_) (fun cdv A outer s H vs Q E hr h => ?_)
  · obtain ⟨a, b, cs, rfl, _⟩ := h
    rfl
  · obtain ⟨a, b, cs, rfl, ⟨dx, t, u, h1, h2, h3⟩, hc, k⟩ := h
    exact ⟨_, pss_one (ps_ret (pe_call GP hr rfl gP kP bP .nil pass0 (pa_cons (pv 1) (pa_cons (pe_fld (pv 0) rfl) (pa_cons (pe_fld (pv 0) rfl) pa_nil))))), _, rfl, _, rfl, a, C, dx, _, _, rfl, h1, T.cl, T.nC, cfl_cuts t u, _, rfl, a, C, dx, _, _, rfl, h1, T.cl, T.nK, cfl_counts t u, b, cs, t, u, rfl, SqT.of h2, SqT.of h3, hc, k⟩
/-- digits -/
def spCDigits (C : Addr) : Sp := fun vs H Q _ => ∃ (a : Addr) (p : Nat) (cs : List Nat), vs = [.ref a, .int (p : Int)] ∧ ChAt C H cs a ∧ Cuts cs ∧ ∀ t H', Same H H' → H' t = some (.tup (ni (N.dig cs p))) → Q (.ref t) H'
theorem scCD : FnScope ["self", "place", "told", "rest", "cut"] ["self", "place"] (defScope sCDigits) := ⟨rfl, rfl, rfl, by decide +kernel, rfl, by decide +kernel, by decide +kernel⟩
theorem ok_cdigits {f : Addr} {fd : FuncData} (F : Fun K "digits" "Chain.digits" sCDigits f fd) (T : Ct K mg C) : FnOk P w K mg base CX0 1 f fd ["self", "place"] (spCDigits C) := by
  refine F.ok scCD (fun vs H Q E h => ?_) (fun cdv A outer s H vs Q E hr h => ?_)
  · obtain ⟨a, p, cs, rfl, _⟩ := h
    rfl
  · obtain ⟨a, p, cs, rfl, ⟨dx, t, u, h1, h2, h3⟩, hc, k⟩ := h
    refine ⟨_, pss_cons (ps_set (i := 2) scCD.nd rfl (Or.inl rfl) (pe_lst pa_nil))
      (pss_cons (ps_set (i := 3) scCD.nd rfl (Or.inl rfl) (pv 1))
      (pss_cons (ps_for PassesOwn.never rfl (pi_tup (pe_fld (pv 0) rfl)) (pg_name (i := 4) scCD.nd rfl (Or.inl rfl))
        (pss_cons (ps_expr (pe_bm PySem.F.plainAttrs_list PySem.F.slot_list_append PySem.F.type_list_append mt_append (pv 2) (pa_cons (pe_op op_fdiv (pv 3) (pv 4)) pa_nil)))
        (pss_one (ps_set (i := 3) scCD.nd rfl (Or.inl rfl) (pe_op op_mod (pv 3) (pv 4))))))
      (pss_one (ps_ret (pe_tup (StX.pa_star (pv 2) (pa_cons (pv 3) pa_nil))))))), ?_⟩
    have ln := hc.len
    refine ⟨line2.2.2.2, fun D hD => ?_⟩
    have s0 : Same H (upd H D (.lst [])) := of_upd hD
    refine ⟨_, rfl, _, rfl, a, C, dx, _, _, rfl, s0 _ _ h1, T.cl, T.nC, cfl_cuts t u, ?_⟩
    refine ⟨t, rfl, ⟨_, SqT.of (s0 _ _ h2)⟩, for_it walk_tup (fun i σ G => Same H G ∧ ∃ (ds : List Nat) (r : Nat) (q : Option V), σ = [some (.ref a), some (.int (p : Int)), some (.ref D), some (.int (r : Int)), q] ∧ G D = some (.lst (ni ds)) ∧ ds.length = i ∧ ds ++ N.dig (cs.drop i) r = N.dig cs p)
      ⟨s0, [], p, _, rfl, upd_same, rfl, rfl⟩ (fun i σ G _ z => SqT.of (z.1 _ _ h2)) ?_ ?_⟩
    · rintro i x σ G G' hi ⟨s1, ds, r, q, rfl, hG, hd, ed⟩ ⟨rfl, hx⟩
      obtain ⟨c, hcc, rfl⟩ := ni_get hx
      have pc := hc.at hcc
      rw [ni_len] at hi
      dsimp only
      refine ⟨_, rfl, .inl ⟨rfl, _, SqL.of hG⟩, _, rfl, _, rfl, _, _, rfl, rfl, ⟨by omega, by omega⟩, D, _, _, rfl, rfl, hG, by rw [ni_len]; exact small1000 (by omega), ?_⟩
      refine ⟨_, rfl, _, rfl, _, _, rfl, rfl, by show (0 : Int) < (c : Int); omega, ?_⟩
      refine ⟨add_upd hD s1, ds ++ [r / c], r % c, _, rfl, ?_, by simp; exact hd, ?_⟩
      · rw [upd_same, ni_app]
        rfl
      · rw [drop_at hcc] at ed
        rw [List.append_assoc]
        exact ed
    · rintro σ G ⟨s1, ds, r, q, rfl, hG, hd, ed⟩
      rw [ni_len, List.drop_length] at ed
      refine ⟨_, rfl, D, _, rfl, .inr (SqL.of hG), _, rfl, ?_, fun v hv => ?_⟩
      · rw [ni_len] at hd
        rw [List.length_append, ni_len]
        exact Nat.le_trans (show ds.length + 1 ≤ 1001 by omega) (by decide)
      · refine k v _ (s1.trans (of_upd hv)) ?_
        rw [upd_same, ← ed, ni_app]
        rfl
/-- _boundary -/
def spCBound (C : Addr) : Sp := fun vs H Q _ => ∃ (a : Addr) (n : Nat) (cs : List Nat), vs = [.ref a, .int (n : Int)] ∧ ChAt C H cs a ∧ Cuts cs ∧ ∀ H', Same H H' → Q (.int ((N.B cs n : Nat) : Int)) H'
abbrev NBo : List Str := ["self", "number", "place", "rest", "cut", "count"]
theorem scCB : FnScope NBo ["self", "number"] (defScope sCBoundary) := ⟨rfl, rfl, rfl, by decide +kernel, rfl, by decide +kernel, by decide +kernel⟩
theorem ok_cbound {f : Addr} {fd : FuncData} (F : Fun K "_boundary" "Chain._boundary" sCBoundary f fd) (B : Bn mg) (T : Ct K mg C) : FnOk P w K mg base CX0 1 f fd ["self", "number"] (spCBound C) := by
  refine F.ok scCB (fun vs H Q E h => ?_) (fun cdv A outer s H vs Q E hr h => ?_)
  · obtain ⟨a, n, cs, rfl, _⟩ := h
    rfl
  · obtain ⟨a, n, cs, rfl, ⟨dx, t, u, h1, h2, h3⟩, hl, k⟩ := h
    refine ⟨_, pss_cons (ps_set (i := 2) scCB.nd rfl (Or.inl rfl) pe_int)
      (pss_cons (ps_set (i := 3) scCB.nd rfl (Or.inl rfl) (pv 1))
      (pss_cons (ps_for PassesOwn.never rfl (RZ.pi_zipA (by rfl) B.zip (pa_cons (pe_fld (pv 0) rfl) (pa_cons (pe_fld (pv 0) rfl) pa_nil))) (pg_tup (by rfl) (pgs_cons (pg_name (i := 4) scCB.nd rfl (.inl rfl)) (pgs_cons (pg_name (i := 5) scCB.nd rfl (.inl rfl)) pgs_nil)))
        (pss_cons (ps_set (i := 2) scCB.nd rfl (Or.inl rfl) (pe_op op_add (pv 2) (pe_op op_mul (pe_op op_fdiv (pv 3) (pv 5)) (pv 4))))
        (pss_one (ps_set (i := 3) scCB.nd rfl (Or.inl rfl) (pe_op op_mod (pv 3) (pv 5))))))
      (pss_one (ps_ret (pv 2))))), ?_⟩
    refine ⟨_, rfl, _, rfl, a, C, dx, _, _, rfl, h1, T.cl, T.nC, cfl_cuts t u, _, rfl, a, C, dx, _, _, rfl, h1, T.cl, T.nK, cfl_counts t u, t, u, _, _, rfl, .inr ⟨SqT.of h2, SqT.of h3, ?_⟩⟩
    refine RZ.for_zipT (by rw [ni_len, ni_len, N.cn_len]) (fun i σ G => Same H G ∧ ∃ (p r : Nat) (q1 q2 : Option V), σ = [some (.ref a), some (.int (n : Int)), some (.int (p : Int)), some (.int (r : Int)), q1, q2] ∧ p + N.B (cs.drop i) r = N.B cs n)
      ⟨Same.refl H, 0, n, _, _, rfl, by rw [List.drop_zero, Nat.zero_add]⟩ (fun i σ G z => ⟨SqT.of (z.1 _ _ h2), SqT.of (z.1 _ _ h3)⟩) ?_ ?_
    · rintro i x y Tt σ G hx hy ⟨s1, p, r, q1, q2, rfl, e1⟩ hT0
      obtain ⟨c, hc, rfl⟩ := ni_get hx
      obtain ⟨m, hn, rfl⟩ := ni_get hy
      obtain ⟨c2, hc2, en⟩ := N.cn_at hn
      rw [hc] at hc2
      cases hc2
      have pc := hl.at hc
      have nle := N.L_le (hl.drop (i + 1)).fall pc.1
      have npos := N.L_pos (cs.drop (i + 1)) (hl.drop (i + 1)).fall c pc.1
      rw [← en] at nle npos
      refine ⟨Tt, _, rfl, SqT.of upd_same, rfl, _, _, rfl, _, _, rfl, rfl, ?_⟩
      refine ⟨_, rfl, _, rfl, _, rfl, _, _, rfl, rfl, ⟨by omega, by omega⟩, _, rfl, _, _, rfl, rfl, .inr ⟨by omega, by omega⟩, _, _, rfl, rfl, ?_⟩
      refine ⟨_, rfl, _, rfl, _, _, rfl, rfl, by show (0 : Int) < (m : Int); omega, ?_⟩
      refine ⟨s1.trans (of_upd hT0), p + r / m * c, r % m, _, _, rfl, ?_⟩
      rw [drop_at hc, N.B_cons, ← en] at e1
      omega
    · rintro σ G ⟨s1, p, r, q1, q2, rfl, e1⟩
      rw [ni_len, List.drop_length] at e1
      have e2 : p = N.B cs n := e1
      rw [← e2] at k
      exact ⟨_, rfl, k G s1⟩
end
end CP

end
section
set_option autoImplicit false
set_option Elab.async false
set_option linter.all false
set_option maxRecDepth 100000
set_option maxHeartbeats 4000000
namespace CP
open PySem L2 G Y
theorem nk2 : (¬ (("pieces" : Str) = "cuts") ∧ ¬ (("pieces" : Str) = "_counts")) ∧ (¬ (("_boundary" : Str) = "cuts") ∧ ¬ (("_boundary" : Str) = "_counts")) ∧ (¬ (("digits" : Str) = "cuts") ∧ ¬ (("digits" : Str) = "_counts")) ∧ (¬ (("stretch" : Str) = "cuts") ∧ ¬ (("stretch" : Str) = "_counts")) := by decide +kernel
theorem no_fld {m : Str} (t u : Addr) (h : ¬ (m = "cuts") ∧ ¬ (m = "_counts")) : (cfl t u).lookup m = none := by
  unfold cfl
  rw [lookup_putF, if_neg h.2, lookup_putF, if_neg h.1]
  rfl
/-- a method, and what it promises -/
structure Me (P : Program) (w : World) (K : PySem.W.Frag) (mg : Str → Option Value) (base : Heap) (C : Addr) (k : Nat) (m : Str) (ps : List Str) (sp : Sp) : Prop where
  ex : ∃ (f : Addr) (fd : FuncData), FnOk P w K mg base CX0 k f fd ps sp ∧ Meth K C m f ∧ Binds K fd ps []
section
variable {P : Program} {w : World} {K : PySem.W.Frag} {mg : Str → Option Value} {base : Heap} {C : Addr}
theorem ChAt.ins {H : Hp} {l : List Nat} {a : Addr} (h : ChAt C H l a) {m : Str} (hm : ¬ (m = "cuts") ∧ ¬ (m = "_counts")) : ∃ dx fs, H a = some (.ins C dx fs) ∧ fs.lookup m = none := by
  obtain ⟨dx, t, u, h1, _, _⟩ := h
  exact ⟨dx, _, h1, no_fld t u hm⟩
def stretchZ (cs : List Nat) (b n : Nat) : Int := (if n = N.PC cs b then (b : Int) else ((N.B cs n : Nat) : Int)) - ((N.B cs (n - 1) : Nat) : Int)
def spCStretch (C : Addr) : Sp := fun vs H Q _ => ∃ (a : Addr) (b n : Nat) (cs : List Nat), vs = [.ref a, .int (b : Int), .int (n : Int)] ∧ ChAt C H cs a ∧ Cuts cs ∧ 1 ≤ n ∧ n ≤ N.PC cs b ∧ ∀ H', Same H H' → Q (.int (stretchZ cs b n)) H'
theorem scCS : FnScope ["self", "body", "number", "pieces", "end"] ["self", "body", "number"] (defScope sCStretch) := ⟨rfl, rfl, rfl, by decide +kernel, rfl, by decide +kernel, by decide +kernel⟩
theorem ok_cstretch {f : Addr} {fd : FuncData} (F : Fun K "stretch" "Chain.stretch" sCStretch f fd) (T : Ct K mg C) (DW : Df P w K mg base 2 "is_within" ["value", "least", "greatest"] spWithin) (MP : Me P w K mg base C 2 "pieces" ["self", "body"] (spCPieces C)) (MB : Me P w K mg base C 1 "_boundary" ["self", "number"] (spCBound C)) : FnOk P w K mg base CX0 3 f fd ["self", "body", "number"] (spCStretch C) := by
  obtain ⟨fW, fdW, GW, gW, kW, bW⟩ := DW.ex
  obtain ⟨fP, fdP, GP, mP, bP⟩ := MP.ex
  obtain ⟨fB, fdB, GB, mB, bB⟩ := MB.ex
  refine F.ok scCS (fun vs H Q E h => ?_) (fun cdv A outer s H vs Q E hr h => ?_)
  · obtain ⟨a, b, n, cs, rfl, _⟩ := h
    rfl
  · obtain ⟨a, b, n, cs, rfl, hc, hl, n1, n2, k⟩ := h
    have r1 := hr.mono (by decide : 1 ≤ 2)
    refine ⟨_, pss_cons (ps_set (i := 3) scCS.nd rfl (Or.inl rfl) (pe_meth (pv 0) T.cl mP GP hr bP .nil pass0 (pa_cons (pv 1) pa_nil)))
      (pss_cons (ps_if (pt_not (pt_val (pe_call GW hr rfl gW kW bW .nil pass0 (pa_cons (pv 2) (pa_cons pe_int (pa_cons (pv 3) pa_nil)))))) ps_dead pss_nil)
      (pss_cons (ps_set (i := 4) scCS.nd rfl (Or.inl rfl) (pe_ifExp (pt_cmpR op_eq (pv 2) (pv 3) (nomark _)) (pv 1) (pe_meth (pv 0) T.cl mB GB r1 bB .nil pass0 (pa_cons (pv 2) pa_nil))))
      (pss_one (ps_ret (pe_op op_sub (pv 4) (pe_meth (pv 0) T.cl mB GB r1 bB .nil pass0 (pa_cons (pe_op op_sub (pv 2) pe_int) pa_nil))))))), ?_⟩
    obtain ⟨dx, fs, i1, i2⟩ := hc.ins nk2.1
    refine ⟨_, rfl, a, dx, fs, rfl, i1, i2, _, rfl, a, b, cs, rfl, hc, hl, fun G1 s1 => ?_⟩
    refine ⟨_, rfl, _, rfl, (n : Int), 1, ((N.PC cs b : Nat) : Int), rfl, ?_⟩
    rw [decide_eq_true (by omega)]
    refine ⟨_, rfl, iteF ?_⟩
    have hc1 := hc.mono s1
    have last : ∀ (G2 : Hp) (e : Int), Same G1 G2 → e = (if n = N.PC cs b then (b : Int) else ((N.B cs n : Nat) : Int)) → tRet (tOp (rI0 fun i j => .int (i - j)) (tVar 4) (tMeth C "_boundary" (spCBound C) [] E0 (tVar 0) (tCons (tOp (rI0 fun i j => .int (i - j)) (tVar 2) (tC (.int 1))) tNil))) { nx := fun _ H' => Q .non H', rt := Q } [some (.ref a), some (.int (b : Int)), some (.int (n : Int)), some (.int ((N.PC cs b : Nat) : Int)), some (.int e)] G2 := fun G2 e s2 he => by
      have hc2 := hc1.mono s2
      obtain ⟨dx, fs, i1, i2⟩ := hc2.ins nk2.2.1
      refine ⟨_, rfl, _, rfl, a, dx, fs, rfl, i1, i2, _, rfl, _, _, rfl, rfl, a, n - 1, cs, ?_, hc2, hl, fun G3 s3 => ⟨_, _, rfl, rfl, ?_⟩⟩
      · show [V.ref a, V.int ((n : Int) - 1)] = _
        rw [show (n : Int) - 1 = ((n - 1 : Nat) : Int) by omega]
      · have := k G3 ((s1.trans s2).trans s3)
        unfold stretchZ at this
        rw [← he] at this
        exact this
    refine ⟨_, rfl, _, rfl, rfl, _, rfl, ite2 (fun e => ?_) (fun e => ?_)⟩
    · have e2 : V.int (n : Int) = V.int ((N.PC cs b : Nat) : Int) := of_decide_eq_true e
      injection e2 with e2
      exact ⟨_, rfl, last G1 _ (Same.refl _) (by rw [if_pos (by omega)])⟩
    · have e2 : n ≠ N.PC cs b := fun z => e (decide_eq_true (by rw [← z]))
      obtain ⟨dx, fs, i1, i2⟩ := hc1.ins nk2.2.1
      exact ⟨_, rfl, a, dx, fs, rfl, i1, i2, _, rfl, a, n, cs, rfl, hc1, hl, fun G2 s2 => last G2 _ s2 (by rw [if_neg e2])⟩
/-- place in chain -/
def spCHas (C : Addr) : Sp := fun vs H Q _ => ∃ (a : Addr) (p : Nat) (cs : List Nat), vs = [.ref a, .int (p : Int)] ∧ ChAt C H cs a ∧ Cuts cs ∧ ∀ H', Same H H' → Q (.bl (decide (0 < p ∧ N.rem cs p = 0))) H'
theorem scCHs : FnScope ["self", "place"] ["self", "place"] (defScope sCHas) := ⟨rfl, rfl, rfl, by decide +kernel, rfl, by decide +kernel, by decide +kernel⟩
theorem ok_chas {f : Addr} {fd : FuncData} (F : Fun K "__contains__" "Chain.__contains__" sCHas f fd) (T : Ct K mg C) (DI : Df P w K mg base 1 "is_integer" ["value"] spInteger) (MD : Me P w K mg base C 1 "digits" ["self", "place"] (spCDigits C)) : FnOk P w K mg base CX0 2 f fd ["self", "place"] (spCHas C) := by
  obtain ⟨fI, fdI, GI, gI, kI, bI⟩ := DI.ex
  obtain ⟨fD, fdD, GD, mD, bD⟩ := MD.ex
  refine F.ok scCHs (fun vs H Q E h => ?_) (fun cdv A outer s H vs Q E hr h => ?_)
  · obtain ⟨a, p, cs, rfl, _⟩ := h
    rfl
  · obtain ⟨a, p, cs, rfl, hc, hl, k⟩ := h
    refine ⟨_, pss_one (ps_ret (pe_and (pe_call GI hr rfl gI kI bI .nil pass0 (pa_cons (pv 1) pa_nil)) (pe_and (pe_cmpR op_gt (pv 1) pe_int (nomark _)) (pe_one (pe_cmpR op_eq (pe_ix ix_tup (pe_meth (pv 0) T.cl mD GD hr bD .nil pass0 (pa_cons (pv 1) pa_nil)) (pe_un un_neg pe_int) (fun _ _ => rfl)) pe_int (nomark _)))))), ?_⟩
    refine ⟨_, rfl, (p : Int), rfl, _, rfl, iteT ⟨_, rfl, _, _, rfl, rfl, _, rfl, ite2 (fun c => ?_) (fun c => ?_)⟩⟩
    · have c2 : (0 : Int) < (p : Int) := of_decide_eq_true c
      obtain ⟨dx, fs, i1, i2⟩ := hc.ins nk2.2.2.1
      refine ⟨_, rfl, a, dx, fs, rfl, i1, i2, _, rfl, a, p, cs, rfl, hc, hl, fun t G s1 ht => ?_⟩
      obtain ⟨ds, ed⟩ := N.dig_rem cs p
      rw [ed] at ht
      refine ⟨1, rfl, t, _, _, .int ((N.rem cs p : Nat) : Int), rfl, rfl, SqT.of ht, ?_, rfl, ?_⟩
      · rw [ni_app]
        exact atI_last _ _
      · have e : decide (V.int ((N.rem cs p : Nat) : Int) = V.int 0) = decide (0 < p ∧ N.rem cs p = 0) := by
          by_cases z : N.rem cs p = 0
          · rw [decide_eq_true (by rw [z]; rfl), decide_eq_true ⟨by omega, z⟩]
          · rw [decide_eq_false (fun q => by injection q with q; omega), decide_eq_false fun q => z q.2]
        rw [e]
        exact k G s1
    · have c2 : ¬ (0 : Int) < (p : Int) := fun z => c (decide_eq_true z)
      have := k H (Same.refl H)
      rw [decide_eq_false (by omega)] at this
      exact this
/-- chain[number] -/
def spCGet (C : Addr) : Sp := fun vs H Q _ => ∃ (a : Addr) (n : Nat) (cs : List Nat), vs = [.ref a, .int (n : Int)] ∧ ChAt C H cs a ∧ Cuts cs ∧ 1 ≤ n ∧ cs ≠ [] ∧ ∀ H', Same H H' → Q (.int ((N.B cs n : Nat) : Int)) H'
theorem scCG : FnScope ["self", "at"] ["self", "at"] (defScope sCGet) := ⟨rfl, rfl, rfl, by decide +kernel, rfl, by decide +kernel, by decide +kernel⟩
theorem ok_cget {f : Addr} {fd : FuncData} (F : Fun K "__getitem__" "Chain.__getitem__" sCGet f fd) (B : Bn mg) (T : Ct K mg C) (DI : Df P w K mg base 1 "is_integer" ["value"] spInteger) (MB : Me P w K mg base C 1 "_boundary" ["self", "number"] (spCBound C)) : FnOk P w K mg base CX0 2 f fd ["self", "at"] (spCGet C) := by
  obtain ⟨fI, fdI, GI, gI, kI, bI⟩ := DI.ex
  obtain ⟨fB, fdB, GB, mB, bB⟩ := MB.ex
  refine F.ok scCG (fun vs H Q E h => ?_) (fun cdv A outer s H vs Q E hr h => ?_)
  · obtain ⟨a, n, cs, rfl, _⟩ := h
    rfl
  · obtain ⟨a, n, cs, rfl, hc, hl, n1, ne, k⟩ := h
    refine ⟨_, pss_cons (ps_if (PW.pt (pw_or (pt_not (pt_val (pe_call GI hr rfl gI kI bI .nil pass0 (pa_cons (pv 1) pa_nil)))) (pw_or (pt_cmpR op_lt (pv 1) pe_int (nomark _)) (pw_or1 (pt_cmpR op_eq (pe_callB call_len_seq (by rfl) B.len PySem.boot_len (pa_cons (pe_fld (pv 0) rfl) pa_nil)) pe_int (nomark _)))))) ps_dead pss_nil)
      (pss_one (ps_ret (pe_meth (pv 0) T.cl mB GB hr bB .nil pass0 (pa_cons (pv 1) pa_nil)))), ?_⟩
    obtain ⟨dx, t, u, h1, h2, h3⟩ := id hc
    refine ⟨_, rfl, (n : Int), rfl, _, rfl, iteF ⟨_, rfl, _, _, rfl, rfl, _, rfl, ?_⟩⟩
    rw [decide_eq_false (by omega)]
    refine iteF ⟨_, rfl, a, C, dx, _, _, rfl, h1, T.cl, T.nC, cfl_cuts t u, t, _, rfl, .inr (SqT.of h2), rfl, _, rfl, ?_⟩
    rw [decide_eq_false (fun z => by
      injection z with z
      rw [ni_len] at z
      exact ne (List.length_eq_zero_iff.mp (by omega)))]
    obtain ⟨dx, fs, i1, i2⟩ := hc.ins nk2.2.1
    exact iteF ⟨_, rfl, a, dx, fs, rfl, i1, i2, _, rfl, a, n, cs, rfl, hc, hl, k⟩
end
end CP

end
section
set_option autoImplicit false
set_option Elab.async false
set_option linter.all false
set_option maxRecDepth 100000
set_option maxHeartbeats 4000000
/-! ## for in a generator's body -/
namespace GF
open PySem PySem.Spec PyProof.Rows L2 GenW
section
variable {M : Model} {c : Code} {fs : List Frame} {A : Around} {R : GenEnd} {Y : Protocol} {n : Nat} {s₀ s : Shared} {env : Env}
variable {K : Flow → Sem PySem.Fin} {J : Value → Sem PySem.Fin} {lv : List Value → List Value} {gd : Bool → Bool}
theorem seg_For {tg iter : Expr} {body : List Stmt} {pos : Pos}
    (h : wpAny M (A.over c fs) (eval iter env) (fun x s1 => wpAny M (A.over c fs) (pyIter x) (fun it s2 => ∀ p, Seg M A R Y n s₀ (.forLoop tg it body [] env) (M.den (.forLoop tg it body [] env))
      (.ret (fun r => ((match r with | .ok f => (.pure f : Sem Flow) | .error e => .raise e).onRaise (cameBack env)).wrap K J gd lv) none (gd false) (lv []) c p [] :: fs) s2)
      (fun x s' => Seg M A R Y n s₀ c (J x) fs s') s1) (fun x s' => Seg M A R Y n s₀ c (J x) fs s') s)
    (hs : ∀ x, foldedSetIterable iter env x = pure x) : Seg M A R Y n s₀ c ((exec (.For tg iter body [] pos) env).wrap K J gd lv) fs s := by
  rw [exec_For]
  refine seg_bind_wrap (wpAny_standAt (seg_bind_wrap (wpAny_mono h (fun x s1 h1 => ?_) fun _ _ x => x)))
  refine seg_bind_wrap (wpAny_of_eq (hs x) (seg_bind_wrap (wpAny_standAt ?_)))
  refine seg_bind_wrap (wpAny_holding (wpAny_mono h1 (fun it s2 h2 => ?_) fun _ _ x => x))
  exact seg_call h2
end
section
variable {prog : Program} {w : World} {fs : List Frame} {A : Around} {R : GenEnd} {Y : Protocol} {n : Nat} {s₀ s : Shared} {env : Env}
theorem seg_forLoop {tg : Expr} {it : Value} {body : List Stmt} {EE : Value → Shared → Prop}
    (hE : ∀ x s', EE x s' → Seg (model prog w) A R Y n s₀ (.forLoop tg it body [] env) ((do noteFrame x env; theTreesLotGoes x : Sem Unit).wrap (fun _ => .raise x) .raise id id) fs s')
    (h : wpAny (model prog w) (A.over (.forLoop tg it body [] env) fs) (pyNext it) (fun r s' => match r with
      | none => Seg (model prog w) A R Y n s₀ (.forLoop tg it body [] env) (.pure (.again (.block [] env))) fs s'
      | some v => wpAny (model prog w) (A.over (.forLoop tg it body [] env) fs) (letOwnedTupleGo tg it v) (fun _ s1 => wpAny (model prog w) (A.over (.forLoop tg it body [] env) fs) (assign tg env v) (fun _ s2 =>
          Seg (model prog w) A R Y n s₀ (.forLoop tg it body [] env) ((execs body env).wrap (fun f => match f with
            | .next | .cont => .pure (.again (.forLoop tg it body [] env))
            | .brk => .pure (.done .next)
            | .ret v => .pure (.done (.ret v))) (fun e => (do noteFrame e env; theTreesLotGoes e : Sem Unit).wrap (fun _ => .raise e) .raise id id) id id) fs s2) EE s1) EE s') EE s) :
    Seg (model prog w) A R Y n s₀ (.forLoop tg it body [] env) ((model prog w).den (.forLoop tg it body [] env)) fs s := by
  have hE2 : ∀ x s', EE x s' → Seg (model prog w) A R Y n s₀ (.forLoop tg it body [] env) ((do noteFrame x env; theTreesLotGoes x : Sem Unit).bind (fun _ => .raise x)) fs s' := fun x s' hx => by
    rw [Sem.bind_eq_wrap]
    exact hE x s' hx
  show Seg _ A R Y n s₀ _ ((forTurn tg it body [] env).onRaise (fun x => do noteFrame x env; theTreesLotGoes x)) fs s
  unfold forTurn
  rw [Sem.onRaise_eq_wrap]
  refine seg_bind_wrap (wpAny_standAt (?_)); refine seg_bind_wrap (wpAny_onRaise (wpAny_mono h (fun r s1 h1 => ?_) fun x s' hx => wpAny_standAt (hE2 x s' hx)))
  cases r with
  | none => exact h1
  | some v =>
    refine seg_bind_wrap (wpAny_mono h1 (fun _ s1' h1' => ?_) fun x s' hx => hE2 x s' hx)
    refine seg_bind_wrap (wpAny_mono h1' (fun _ s2 h2 => ?_) fun x s' hx => hE2 x s' hx)
    rw [Sem.bind_eq_wrap', Sem.wrap_wrap]
    rw [Sem.wrap_congr (execs body env) _ _ (K' := fun fl => match fl with
      | .next | .cont => .pure (.again (.forLoop tg it body [] env))
      | .brk => .pure (.done .next)
      | .ret x => .pure (.done (.ret x)))
      (H' := fun x => (do noteFrame x env; theTreesLotGoes x : Sem Unit).wrap (fun _ => .raise x) .raise id id) (fun fl => by cases fl <;> rfl)
      (fun x => by first | exact Sem.bind_eq_wrap _ _ | (show (do noteFrame x env; theTreesLotGoes x : Sem Unit).bind (fun _ => .raise x) = _; rw [Sem.bind_eq_wrap]))]
    exact h2
end
section
variable {X : Cx}
def tGFor (wi : TI) (g : TG) (tb : TGn) : TGn := fun D ys σ H => wi σ H fun J H1 => ∃ W : Nat → Nat → List V → L2.St → Hp → Prop, (∃ m, W 0 m ys σ H1) ∧ ∀ i m ys σ H, W i m ys σ H →
  (J.stop i H ∧ D.nx ys σ H) ∨ (J.go i H ∧ ∃ N : List V → L2.St → Hp → Prop, (∀ ys' σ' H', N ys' σ' H' → ∃ m', m' < m ∧ W (i + 1) m' ys' σ' H') ∧ ∀ x H', J.yld i H x H' → g x σ H' fun σ2 H2 => tb { D with nx := N, ct := N, bk := D.nx } ys σ2 H2)
theorem gs_for {tg iter : Expr} {body : List Stmt} {wi : TI} {gg : TG} {tb : TGn} {pos : Pos} (hp : PassesOwn (model X.prog X.w) X.A X.env X.xe) (hc : X.calm = true) (hi : PI X tg iter wi) (hg : PG X tg gg) (hb : GSs X body tb)
    (hs : ∀ x, foldedSetIterable iter X.env x = pure x := by intro _; rfl) : GS X (.For tg iter body [] pos) (tGFor wi gg tb) := by
  refine ⟨fun A S ip R n ys s₀ c fs K J gd lv s σ H D g hn k I0 ht => ?_⟩
  have hI := I0
  obtain ⟨acc, cc, r, I⟩ := hI
  refine seg_For ?_ hs
  rw [g.over]
  refine wpAny_mono (hi.run _ s σ H _ I ht) (fun v s1 h1 => wpAny_mono h1 (fun itv s2 h2 p => ?_) fun x s' hx => k.exc n s₀ x s' hx) fun x s' hx => k.exc n s₀ x s' hx
  obtain ⟨it, fp, tn, Jt, H2, e, I2, T, st2, f2, W, ⟨m0, w0⟩, turn⟩ := h2
  subst e
  have gl := fun (kk : Result → Sem PySem.Fin) => gc_loop (k := kk) (c' := .forLoop tg (.ref it) body [] X.env) (l := lv []) (kp := []) (p := p) g rfl rfl
  have stat : ∀ {H' : Hp} {a2 : Array Value} {c2 : Nat}, (∀ b ∈ fp, H' b = none) → ∀ b ∈ fp, FpOk X ((S, lstObj a2 c2) :: ip) H' b := fun {H' a2 c2} hn b hb => by
    obtain ⟨_, q1, q2, q3, q4, q5⟩ := f2 b hb
    refine ⟨hn b hb, q1, q2, q3, q4, fun p hp => ?_⟩
    rcases List.mem_append.mp hp with z | z
    · exact q5 p (List.mem_append_left _ z)
    · rcases List.mem_cons.mp z with z | z
      · rw [z]
        exact q5 (S, lstObj acc cc) (List.mem_append_right _ List.mem_cons_self)
      · exact q5 p (List.mem_append_right _ (List.mem_cons_of_mem _ z))
  have neS : ∀ b ∈ fp, b ≠ S := fun b hb z => by
    obtain ⟨_, _, _, _, _, q5⟩ := f2 b hb
    exact q5 (S, lstObj acc cc) (List.mem_append_right _ List.mem_cons_self) z.symm
  have loop : ∀ (m i n : Nat) (ys : List V) (s₀ s : Shared) (σ : L2.St) (H : Hp), n + ys.length = sizeLine → W i m ys σ H → GI X S ip ys σ H s → tn i s.heap → (∀ b ∈ fp, H b = none) →
      Seg (model X.prog X.w) A R (GY X S) n s₀ (.forLoop tg (.ref it) body [] X.env) ((model X.prog X.w).den (.forLoop tg (.ref it) body [] X.env))
        (.ret (fun rr => ((match rr with | .ok fl => (.pure fl : Sem Flow) | .error x => .raise x).onRaise (cameBack X.env)).wrap K J gd lv) none (gd false) (lv []) c p [] :: fs) s := by
    intro m
    induction m using Nat.strongRecOn with
    | ind m ih =>
      intro i n ys s₀ s σ H hn w hI st fr
      have ee : ∀ (n : Nat) (s₀ : Shared) (x : Value) (s' : Shared), X.xe x s' → Seg (model X.prog X.w) A R (GY X S) n s₀ (.forLoop tg (.ref it) body [] X.env)
          ((do noteFrame x X.env; theTreesLotGoes x : Sem Unit).wrap (fun _ => .raise x) .raise id id) (.ret (fun rr => ((match rr with | .ok fl => (.pure fl : Sem Flow) | .error x => .raise x).onRaise (cameBack X.env)).wrap K J gd lv) none (gd false) (lv []) c p [] :: fs) s' := fun n s₀ x s' hx => by
        refine seg_wrap ?_
        rw [(gl _).over]
        exact wpAny_bind (wpAny_mono (hp x s' hx) (fun _ _ cb => wpAny_theTreesLotGoes (seg_leaf (.error x) (seg_cameBack g k cb))) fun y _ cb => seg_leaf (.error y) (seg_cameBack g k cb))
      refine seg_forLoop (EE := X.xe) (ee n s₀) ?_
      rw [(gl _).over]
      obtain ⟨acc, cc, r, I⟩ := hI
      rcases turn i m ys σ H w with ⟨stop, qn⟩ | ⟨go, N, hN, step⟩
      · refine wpAny_mono (T.done X rfl rfl rfl hc i _ s σ H X.xe I (stat fr) st stop) (fun r4 s4 h4 => ?_) fun _ _ x => x
        obtain ⟨hr4, I4⟩ := h4
        subst hr4
        refine seg_again rfl ?_
        exact seg_leaf (.ok .next) (k.ok n ys s₀ s4 .next hn ⟨σ, H, ⟨acc, cc, r, I4⟩, qn⟩)
      · refine wpAny_mono (T.item X rfl rfl rfl hc i _ s σ H X.xe I (stat fr) st go) (fun r4 s4 h4 => ?_) fun _ _ x => x
        obtain ⟨u, hr4, h4⟩ := h4
        subst hr4
        refine wpAny_mono h4 (fun _ s5 h5 => ?_) fun _ _ x => x
        obtain ⟨x, H5, I5, r5, y5, st5, fr5⟩ := h5
        have J5 := I5.pinned (stat fr5) (T.obj _ _ st5)
        refine wpAny_mono (hg.run _ s5 σ H5 x u _ J5 r5 (step x H5 y5)) (fun _ s6 h6 => ?_) fun _ _ x => x
        obtain ⟨σ6, H6, I6, q6⟩ := h6
        have gl2 : ∀ kk : Result → Sem PySem.Fin, GC X S (ip ++ pinsAt fp s5.heap) A (.forLoop tg (.ref it) body [] X.env) (.ret kk none (gd false) (lv []) c p [] :: fs) id := fun kk => { gl kk with
          ip := fun p hp => by
            rcases List.mem_append.mp hp with z | z
            · exact g.ip p z
            · exact neS p.1 (of_pinsAt z).1 }
        have back : ∀ {ys7 : List V} {σ7 : L2.St} {H7 : Hp} {s7 : Shared}, GI X S (ip ++ pinsAt fp s5.heap) ys7 σ7 H7 s7 → GI X S ip ys7 σ7 H7 s7 ∧ tn (i + 1) s7.heap ∧ ∀ b ∈ fp, H7 b = none := fun {ys7 σ7 H7 s7} h7 => by
          obtain ⟨acc7, cc7, r7, I7⟩ := h7
          have I7' : Inv X (((S, lstObj acc7 cc7) :: ip) ++ pinsAt fp s5.heap) σ7 H7 s7 := I7
          refine ⟨⟨acc7, cc7, r7, I7'.unpinned⟩, T.keep _ _ _ st5 fun b hb o e => (I7'.pin (b, o) (List.mem_append_right _ (List.mem_append_right _ (mem_pinsAt hb e)))).1, fun b hb => ?_⟩
          obtain ⟨o, e, dd⟩ := T.obj _ _ st5 b hb
          exact (I7'.pin (b, o) (List.mem_append_right _ (List.mem_append_right _ (mem_pinsAt hb e)))).2.1
        refine hb.run A S (ip ++ pinsAt fp s5.heap) R n ys s₀ _ _ _ _ id id s6 σ6 H6 { D with nx := N, ct := N, bk := D.nx } (gl2 _) hn ⟨fun n' ys' s₀' s7 f hn' hs => ?_, fun n' s₀' x s3 hx => ee n' s₀' x s3 hx⟩ ⟨acc, cc, r, I6⟩ q6
        cases f with
        | next =>
          obtain ⟨σ7, H7, I7, n7⟩ := hs
          obtain ⟨m', hm, w7⟩ := hN ys' σ7 H7 n7
          obtain ⟨b1, b2, b3⟩ := back I7
          exact seg_again rfl (ih m' hm (i + 1) n' ys' s₀' s7 σ7 H7 hn' w7 b1 b2 b3)
        | cont =>
          obtain ⟨σ7, H7, I7, n7⟩ := hs
          obtain ⟨m', hm, w7⟩ := hN ys' σ7 H7 n7
          obtain ⟨b1, b2, b3⟩ := back I7
          exact seg_again rfl (ih m' hm (i + 1) n' ys' s₀' s7 σ7 H7 hn' w7 b1 b2 b3)
        | brk =>
          obtain ⟨σ7, H7, I7, q7⟩ := hs
          exact seg_leaf (.ok .next) (k.ok n' ys' s₀' s7 .next hn' ⟨σ7, H7, (back I7).1, q7⟩)
        | ret v =>
          obtain ⟨x7, σ7, H7, I7, r7, q7⟩ := hs
          exact seg_leaf (.ok (.ret v)) (k.ok n' ys' s₀' s7 (.ret v) hn' ⟨x7, σ7, H7, (back I7).1, r7, q7⟩)
  exact loop m0 0 n ys s₀ s2 σ H2 hn w0 ⟨acc, cc, r, I2⟩ st2 fun b hb => (f2 b hb).1
end
end GF

end
section
set_option autoImplicit false
set_option Elab.async false
set_option linter.all false
set_option maxRecDepth 100000
set_option maxHeartbeats 4000000
namespace CP
open PySem L2 G Y
abbrev sCPart : Stmt := inClass (S.top 49) 9
def dI (n : Nat) : PyData := .int ((n : Nat) : Int)
theorem dp_ints {K : PySem.W.Frag} {H : Hp} : ∀ l : List Nat, DpAll K H (ni l) (l.map dI)
  | [] => .nil
  | x :: l => .cons (.int _) (dp_ints l)
theorem lay_ints : ∀ l : List Nat, PyData.canLayAll0 (l.map dI) = true
  | [] => rfl
  | x :: l => lay_ints l
theorem deep_ints : ∀ l : List Nat, PyData.depthAll (l.map dI) = 0
  | [] => by simp only [List.map_nil, PyData.depthAll]
  | x :: l => by simp only [List.map_cons, PyData.depthAll, dI, PyData.depth, deep_ints l, Nat.max_self]
theorem shp_list (l : List Nat) : SeqAt.shaped (.list (l.map dI)) = true := by
  unfold SeqAt.shaped
  rw [show (PyData.list (l.map dI)).canLay0 = true by simp only [PyData.canLay0, lay_ints], Bool.true_and]
  refine decide_eq_true ?_
  simp only [PyData.depth, deep_ints]
  decide
theorem shp_tup (l : List Nat) : SeqAt.shaped (.tuple (l.map dI)) = true := by
  unfold SeqAt.shaped
  rw [show (PyData.tuple (l.map dI)).canLay0 = true by simp only [PyData.canLay0, lay_ints], Bool.true_and]
  refine decide_eq_true ?_
  simp only [PyData.depth, deep_ints]
  decide
theorem eqv_nil : ∀ l : List Nat, PyData.eqv (.list (l.map dI)) (.list []) = decide (l = [])
  | [] => by simp [PyData.eqv, PyData.eqvAll]
  | x :: l => by simp [PyData.eqv, PyData.eqvAll]
theorem eqv_tup (l : List Nat) : PyData.eqv (.tuple (l.map dI)) (.tuple (l.map dI)) = true := SeqAt.eqv_refl _ (by simp only [PyData.canLay0, lay_ints])
/-- a list beside a new empty one -/
theorem eq_nil {K : PySem.W.Frag} {H : Hp} {Q : VK} {D e : Addr} {l : List Nat} (hD : SqL K H D (ni l)) (he : SqL K H e []) (q : Q (.bl (decide (l = []))) H) : rEqD K (.ref D) (.ref e) H Q :=
  ⟨_, _, .lst hD (dp_ints l), .lst he .nil, shp_list l, by decide +kernel, by rw [eqv_nil]; exact q⟩
theorem ne_nil {K : PySem.W.Frag} {H : Hp} {Q : VK} {D e : Addr} {l : List Nat} (hD : SqL K H D (ni l)) (he : SqL K H e []) (q : Q (.bl (!decide (l = []))) H) : rNeD K (.ref D) (.ref e) H Q :=
  ⟨_, _, .lst hD (dp_ints l), .lst he .nil, shp_list l, by decide +kernel, by rw [eqv_nil]; exact q⟩
theorem ne_tups {K : PySem.W.Frag} {H : Hp} {Q : VK} {t u : Addr} {l : List Nat} (ht : SqT K H t (ni l)) (hu : SqT K H u (ni l)) (q : Q (.bl false) H) : rNeD K (.ref t) (.ref u) H Q :=
  ⟨_, _, .tup ht (dp_ints l), .tup hu (dp_ints l), shp_tup l, shp_tup l, by rw [eqv_tup]; exact q⟩
structure Mw (P : Program) (w : World) (K : PySem.W.Frag) (mg : Str → Option Value) (base : Heap) (C : Addr) : Prop where
  ex : ∃ (f : Addr) (fd : FuncData), FnOk P w K mg base CX0 4 f fd ["self", "cuts"] (spCInit C) ∧ Mk K C f ∧ Binds K fd ["self", "cuts"] []
structure Op (P : Program) (w : World) (K : PySem.W.Frag) (mg : Str → Option Value) (base : Heap) (C : Addr) (k : Nat) (m : Str) (ps : List Str) (sp : Sp) : Prop where
  ex : ∃ (f : Addr) (fd : FuncData), FnOk P w K mg base CX0 k f fd ps sp ∧ WO.Own K C f m ∧ Binds K fd ps [] ∧ PySem.W.fnIn K f = true
end CP

end
section
set_option autoImplicit false
set_option Elab.async false
set_option linter.all false
set_option maxRecDepth 100000
set_option maxHeartbeats 4000000
/-! ## min of a tuple with default= -/
namespace GF
open PySem PySem.Spec PyProof.Rows L2 PySem.W
theorem ints_reads {h : Heap} : ∀ {ns : List Int} {us : List Value}, Vals (ns.map V.int) us → ReadsAll h us (ns.map PyData.int) []
  | [], _, r => by cases r; exact .nil
  | n :: ns, _, r => by
    cases r with
    | cons a b =>
      obtain ⟨t, rfl⟩ := a
      exact .cons (as := []) (bs := []) (.int n t) (ints_reads b)
theorem ints_alike : ∀ ns : List Int, AlikeAll (ns.map PyData.int) := by
  intro ns
  refine ⟨fun x hx y hy => ?_, fun x hx => ?_⟩
  · obtain ⟨a, _, rfl⟩ := List.mem_map.mp hx
    obtain ⟨b, _, rfl⟩ := List.mem_map.mp hy
    rfl
  · obtain ⟨a, _, rfl⟩ := List.mem_map.mp hx
    intro z
    cases z
theorem ints_depth : ∀ ns : List Int, PyData.depthAll (ns.map PyData.int) = 0
  | [] => by simp only [List.map_nil, PyData.depthAll]
  | n :: ns => by simp only [List.map_cons, PyData.depthAll, PyData.depth, ints_depth ns, Nat.max_self]
theorem int_reads {h : Heap} {v : Value} {n : Int} {bs : List Addr} (r : Reads h v (.int n) bs) : RelV (.int n) v := by
  cases r
  exact ⟨_, rfl⟩
def rMinTD (K : PySem.W.Frag) : List V → List V → Hp → VK → Prop := fun xs zs H Q => ∃ (a : Addr) (ns : List Int) (d : Int), xs = [.ref a] ∧ zs = [.int d] ∧ SqT K H a (ns.map V.int) ∧ (ns = [] → Q (.int d) H) ∧ (∀ n r, ns = n :: r → Q (.int (r.foldl min n)) H)
section
variable {X : Cx}
theorem call_minTD (hc : X.calm = true) (hu : X.A.units + 64 < cLine) : CallRK X (.builtin "min") ["default"] (rMinTD X.K) := by
  intro pins s σ H xs zs us ws Q I r rz h
  obtain ⟨a, ns, d, rfl, rfl, hL, q0, q1⟩ := h
  cases r with
  | cons rx rr =>
    cases rr
    cases rx
    cases rz with
    | cons ra rb =>
      cases rb
      obtain ⟨td, rfl⟩ := ra
      obtain ⟨its, rv, pl, _⟩ := I.tuple hL
      have hr := ints_reads (h := s.heap) rv
      refine min_tuple_default (xs := ns.map .int) (d := .int d td) (I.ok.hd hc) (show s.heap.IsTuple a its.toArray from pl) (by simpa using hr) (ints_alike ns) (by rw [ints_depth]; omega) (fun e h' tk k => ?_) fun y ys i v h' tk bs e hv hR k => ?_
      · cases ns with
        | nil => exact ⟨.int d, H, I.kept (t' := tk) k, ⟨td, rfl⟩, q0 rfl⟩
        | cons n r => cases e
      · cases ns with
        | nil => cases e
        | cons n r =>
          injection e with e1 e2
          subst e1 e2
          rw [minD_ints] at hR
          exact ⟨.int _, H, I.kept (t' := tk) k, int_reads hR, q1 n r rfl⟩
end
end GF
/-! ## sums of chains -/
namespace CP
open PySem L2 G Y
abbrev sCAdd : Stmt := inClass (S.top 49) 5
structure Oq (P : Program) (w : World) (K : PySem.W.Frag) (mg : Str → Option Value) (base : Heap) (C : Addr) (k : Nat) (m : Str) (ps : List Str) (sp : Sp) : Prop where
  ex : ∃ (f : Addr) (fd : FuncData), FnOk P w K mg base CX0 k f fd ps sp ∧ WO.Own K C f m ∧ Binds K fd ps []
theorem fold_cast : ∀ (l : List Nat) (n : Nat), (l.map fun n => ((n : Nat) : Int)).foldl min (n : Int) = ((l.foldl min n : Nat) : Int)
  | [], n => rfl
  | x :: l, n => by
    rw [List.map_cons, List.foldl_cons, List.foldl_cons, ← fold_cast l (min n x)]
    congr 1
    omega
section
variable {P : Program} {w : World} {K : PySem.W.Frag} {mg : Str → Option Value} {base : Heap} {C : Addr}
/-- first + second -/
def spCAdd (C : Addr) : Sp := fun vs H Q _ => ∃ (a b : Addr) (l m : List Nat), vs = [.ref a, .ref b] ∧ ChAt C H l a ∧ ChAt C H m b ∧ Cuts l ∧ Cuts m ∧ l.length + m.length ≤ 1000 ∧ ∀ c H', Same H H' → ChAt C H' (N.add l m) c → Q (.ref c) H'
theorem cuts_add {l m : List Nat} (hl : Cuts l) (hm : Cuts m) (h : l.length + m.length ≤ 1000) : Cuts (N.add l m) := ⟨N.add_fall hl.fall hm.fall, N.add_le hl.le hm.le, Nat.le_trans (N.add_len l m) h⟩
abbrev NAd : List Str := ["self", "other", "least", "cut"]
theorem scAd : FnScope NAd ["self", "other"] (defScope sCAdd) := ⟨rfl, rfl, rfl, by decide +kernel, rfl, by decide +kernel, by decide +kernel⟩
theorem ok_cadd {f : Addr} {fd : FuncData} (F : Fun K "__add__" "Chain.__add__" sCAdd f fd) (B : Bn mg) (T : Ct K mg C) (gC : ∃ t, mg "GREATEST_CUT" = some (.int 1000 t)) (MW : Mw P w K mg base C) : FnOk P w K mg base CX0 6 f fd ["self", "other"] (spCAdd C) := by
  obtain ⟨fI, fdI, GI, MK, bI⟩ := MW.ex
  obtain ⟨tkC, gC⟩ := gC
  refine F.ok scAd (fun vs H Q E h => ?_) (fun cdv A outer s H vs Q E hr h => ?_)
  · obtain ⟨a, b, l, m, rfl, _⟩ := h
    rfl
  · obtain ⟨a, b, l, m, rfl, ha, hb, hl, hm, hlen, k⟩ := h
    refine ⟨_, pss_cons (ps_set (i := 2) scAd.nd rfl (Or.inr rfl) (pe_callBK (GF.call_minTD rfl hr.units) (by rfl) B.min (by decide +kernel) (pa_cons (pe_fld (pv 0) rfl) pa_nil) (pk_cons (pe_op op_add (pe_glob (v := .int 1000) rfl gC ⟨_, rfl⟩) pe_int) pk_nil)))
      (pss_one (ps_ret (pe_make MK GI hr rfl T.g bI .nil pass0 (pa_cons (pe_op op_catA (pe_fld (pv 0) rfl) (pe_callTy call_tuple_of (by rfl) B.tuple (by decide +kernel) (pa_cons
        (pe_lc (own := [("cut", 3)]) (g := gName 3) (tt := tTest (tOp (rI0 fun i j => .bl (decide (i < j))) (tVar 3) (tVar 2))) (te := tVar 3) rfl scAd.nd (pi_tup (pe_fld (pv 1) rfl)) (blkOk_by (N := NAd) (sc := defScope sCAdd) (by decide +kernel))
          (fun _ _ _ _ _ => pg_name (i := 3) scAd.nd rfl (Or.inl rfl)) (fun _ _ _ _ _ => pts_one (by exact pt_cmpR op_lt (pv 3) (pv 2) (nomark _))) (fun _ _ _ _ _ => by exact pv 3)) pa_nil))) pa_nil)))), ?_⟩
    obtain ⟨dx, t, u, h1, h2, h3⟩ := id ha
    obtain ⟨dy, t', u', g1, g2, g3⟩ := id hb
    have fin : ∀ (c0 : Addr) (G2 : Hp), Same H G2 → G2 c0 = some (.tup (ni (N.add l m))) → ∀ x dx, G2 x = none → G2 dx = none → dx ≠ x → spCInit C (.ref x :: ([.ref c0] ++ [])) (upd (upd G2 dx (.own x)) x (.ins C dx [])) (fun v H2 => v = .non ∧ Q (.ref x) H2) E0 :=
      fun c0 G2 s2 hc0 x dx hx hdx ne => made_ch hx hdx ne (.inr hc0) (cuts_add hl hm hlen) fun G3 s3 hch => ⟨rfl, k x G3 (s2.trans s3) hch⟩
    have rest : tRet (tMake C (spCInit C) [] E0 (tCons (tOp (rCatA K) (tFld K (tVar 0) "cuts") (tCB (fun xs H Q => ∃ p ys, xs = [V.ref p] ∧ ((SqL K H p ys ∧ ∀ l, H l = none → Q (.ref l) (upd H l (.tup ys))) ∨ (SqT K H p ys ∧ Q (.ref p) H))) (tCons (tLc (iTup K (tFld K (tVar 1) "cuts")) (gName 3) (tTest (tOp (rI0 fun i j => .bl (decide (i < j))) (tVar 3) (tVar 2))) (tVar 3) [3]) tNil))) tNil)) { nx := fun _ H' => Q .non H', rt := Q } [some (.ref a), some (.ref b), some (.int ((N.lo l : Nat) : Int)), none] H := by
      refine ⟨_, rfl, a, C, dx, _, _, rfl, h1, T.cl, T.nC, cfl_cuts t u, ?_⟩
      refine ⟨_, rfl, b, C, dy, _, _, rfl, g1, T.cl, T.nC, cfl_cuts t' u', t', rfl, ⟨_, SqT.of g2⟩, fun D hD => ?_⟩
      refine lc_it walk_tup (fun i G => Same H G ∧ G D = some (.lst (ni ((m.take i).filter fun d => decide (d < N.lo l))))) ⟨of_upd hD, upd_same⟩ (fun i G _ z => SqT.of (z.1 _ _ g2)) ?_ ?_
      · rintro i x G G' hi ⟨s1, hG⟩ ⟨rfl, hx⟩
        obtain ⟨c, hc, rfl⟩ := ni_get hx
        have e : m.take (i + 1) = m.take i ++ [c] := take_snoc hc
        refine ⟨rfl, _, rfl, _, rfl, _, _, rfl, rfl, _, rfl, ite2 (fun c1 => ?_) (fun c1 => ?_)⟩
        · have c2 : (c : Int) < ((N.lo l : Nat) : Int) := of_decide_eq_true c1
          refine ⟨_, rfl, _, hG, ?_, add_upd hD s1, ?_⟩
          · rw [ni_len] at hi ⊢
            have := List.length_filter_le (fun d => decide (d < N.lo l)) (m.take i)
            have := List.length_take_le i m
            have := hm.len
            exact small1000 (by omega)
          · rw [upd_same, e, List.filter_append, ni_app, List.filter_cons_of_pos (by simpa using (by omega : c < N.lo l))]
            rfl
        · have c2 : ¬ (c : Int) < ((N.lo l : Nat) : Int) := fun z => c1 (decide_eq_true z)
          refine ⟨s1, ?_⟩
          rw [hG, e, List.filter_append, List.filter_cons_of_neg (by simpa using (by omega : ¬ c < N.lo l)), List.filter_nil, List.append_nil]
      · rintro G ⟨s1, hG⟩
        rw [ni_len, List.take_length] at hG
        refine ⟨D, _, rfl, .inl ⟨SqL.of hG, fun t2 ht2 => ?_⟩⟩
        have s2 : Same G (upd G t2 (.tup (ni (m.filter fun d => decide (d < N.lo l))))) := of_upd ht2
        have h2' := s2 _ _ (s1 _ _ h2)
        have el : ni (N.add l m) = ni l ++ ni (m.filter fun d => decide (d < N.lo l)) := by
          unfold N.add
          rw [ni_app]
        refine ⟨t, t2, _, _, rfl, rfl, SqT.of h2', SqT.of upd_same, ?_, fun e => ?_, fun _ e => ?_, fun _ _ v hv => ?_⟩
        · rw [ni_len, ni_len]
          have := List.length_filter_le (fun d => decide (d < N.lo l)) m
          exact Nat.le_trans (show _ ≤ 1000 by omega) (by decide)
        · refine fin t2 _ (s1.trans s2) ?_
          rw [upd_same, el, e, List.nil_append]
        · refine fin t _ (s1.trans s2) ?_
          rw [h2', el, e, List.append_nil]
        · refine fin v _ ((s1.trans s2).trans (of_upd hv)) ?_
          rw [upd_same, el]
    refine ⟨_, rfl, a, C, dx, _, _, rfl, h1, T.cl, T.nC, cfl_cuts t u, _, _, rfl, rfl, ?_⟩
    refine ⟨t, l.map fun n => ((n : Nat) : Int), _, rfl, rfl, SqT.of h2, fun e => ?_, fun n r e => ?_⟩
    · have el : l = [] := List.map_eq_nil_iff.mp e
      have e2 : (1000 : Int) + 1 = ((N.lo l : Nat) : Int) := by
        rw [el]
        rfl
      rw [e2]
      exact rest
    · have e2 : r.foldl min n = ((N.lo l : Nat) : Int) := by
        cases l with
        | nil => cases e
        | cons c l =>
          rw [List.map_cons] at e
          injection e with e1 e3
          subst e1 e3
          rw [fold_cast]
          have := hl.le c List.mem_cons_self
          show ((l.foldl min c : Nat) : Int) = ((l.foldl min (min 1001 c) : Nat) : Int)
          rw [show min 1001 c = c by omega]
      rw [e2]
      exact rest
end
end CP

end
section
set_option autoImplicit false
set_option linter.all false
/-! ## periods of beginnings -/
namespace N
/-- f i = f (i + q) for n places from i on -/
def per (f : Nat → Bool) (q : Nat) : Nat → Nat → Bool
  | 0, _ => true
  | n + 1, i => (f i == f (i + q)) && per f q n (i + 1)
/-- q is a period of the first k places -/
def Pd (f : Nat → Bool) (k q : Nat) : Bool := per f q (k - q) 0
def lpF (f : Nat → Bool) (k : Nat) : Nat → Nat → Nat
  | 0, q => q
  | s + 1, q => if Pd f k q = true then q else lpF f k s (q + 1)
/-- the least period of the first k places -/
def lp (f : Nat → Bool) (k : Nat) : Nat := lpF f k (k - 1) 1
def nrmF (f : Nat → Bool) : Nat → Nat → List Nat
  | 0, _ => []
  | s + 1, n => if lp f n < n then lp f n :: nrmF f s (lp f n) else []
/-- the least period, that of the places below it, and so on -/
def nrm (f : Nat → Bool) (n : Nat) : List Nat := nrmF f n n
theorem per_iff {f : Nat → Bool} {q : Nat} : ∀ n i, per f q n i = true ↔ ∀ j, i ≤ j → j < i + n → f j = f (j + q)
  | 0, i => ⟨fun _ j h1 h2 => by omega, fun _ => rfl⟩
  | n + 1, i => by
    unfold per
    rw [Bool.and_eq_true, per_iff n (i + 1), beq_iff_eq]
    constructor
    · rintro ⟨a, b⟩ j h1 h2
      by_cases e : j = i
      · rw [e]
        exact a
      · exact b j (by omega) (by omega)
    · exact fun h => ⟨h i (Nat.le_refl _) (by omega), fun j h1 h2 => h j (by omega) (by omega)⟩
theorem pd_iff {f : Nat → Bool} {k q : Nat} : Pd f k q = true ↔ ∀ i, i + q < k → f i = f (i + q) := by
  unfold Pd
  rw [per_iff]
  exact ⟨fun h i hi => h i (Nat.zero_le _) (by omega), fun h i _ hi => h i (by omega)⟩
theorem pd_self (f : Nat → Bool) (k q : Nat) (h : k ≤ q) : Pd f k q = true := pd_iff.mpr fun i hi => by omega
theorem lpF_spec {f : Nat → Bool} {k : Nat} : ∀ s q, q ≤ lpF f k s q ∧ lpF f k s q ≤ q + s ∧ (∀ j, q ≤ j → j < lpF f k s q → Pd f k j = false) ∧ (lpF f k s q < q + s → Pd f k (lpF f k s q) = true)
  | 0, q => ⟨Nat.le_refl _, Nat.le_refl _, fun j h1 h2 => absurd (show j < q from h2) (by omega), fun h => absurd (show q < q + 0 from h) (by omega)⟩
  | s + 1, q => by
    unfold lpF
    by_cases c : Pd f k q = true
    · rw [if_pos c]
      exact ⟨Nat.le_refl _, by omega, fun j h1 h2 => by omega, fun _ => c⟩
    · rw [if_neg c]
      obtain ⟨h1, h2, h3, h4⟩ := lpF_spec (f := f) (k := k) s (q + 1)
      refine ⟨by omega, by omega, fun j j1 j2 => ?_, fun h => h4 (by omega)⟩
      by_cases e : j = q
      · rw [e]
        simpa using c
      · exact h3 j (by omega) j2
theorem lp_spec {f : Nat → Bool} {k : Nat} (h : 0 < k) : 1 ≤ lp f k ∧ lp f k ≤ k ∧ Pd f k (lp f k) = true ∧ ∀ q, 1 ≤ q → Pd f k q = true → lp f k ≤ q := by
  obtain ⟨h1, h2, h3, h4⟩ := lpF_spec (f := f) (k := k) (k - 1) 1
  refine ⟨h1, by unfold lp; omega, ?_, fun q q1 hq => ?_⟩
  · by_cases c : lpF f k (k - 1) 1 < 1 + (k - 1)
    · exact h4 c
    · exact pd_self f k _ (by unfold lp; omega)
  · by_cases c : lp f k ≤ q
    · exact c
    · have := h3 q q1 (by unfold lp at c; omega)
      rw [hq] at this
      cases this
theorem lp_zero (f : Nat → Bool) : lp f 0 = 1 := rfl
theorem lp_eq {f : Nat → Bool} {k r : Nat} (h : 0 < k) (r1 : 1 ≤ r) (hr : Pd f k r = true) (least : ∀ q, 1 ≤ q → q ≤ k → Pd f k q = true → r ≤ q) : lp f k = r := by
  obtain ⟨h1, h2, h3, h4⟩ := lp_spec (f := f) h
  exact Nat.le_antisymm (h4 r r1 hr) (least _ h1 h2 h3)
/-- what stands at the k-th place of the borders -/
def bd (f : Nat → Bool) (k : Nat) : Int := (k : Int) - (lp f k : Int)
/-- a candidate for the border behind k places -/
structure Cand (f : Nat → Bool) (k : Nat) (b : Int) : Prop where
  ok : b = -1 ∨ ∃ j : Nat, b = (j : Int) ∧ j < k ∧ Pd f k (k - j) = true
  all : ∀ j, j < k → Pd f k (k - j) = true → f j = f k → (j : Int) ≤ b
theorem cand_first (f : Nat → Bool) (k : Nat) : Cand f k (bd f k) := by
  by_cases h : k = 0
  · subst h
    exact ⟨.inl (by unfold bd; rw [lp_zero]; rfl), fun j hj => by omega⟩
  · obtain ⟨h1, h2, h3, h4⟩ := lp_spec (f := f) (k := k) (by omega)
    refine ⟨.inr ⟨k - lp f k, by unfold bd; omega, by omega, by rw [show k - (k - lp f k) = lp f k by omega]; exact h3⟩, fun j hj hp _ => ?_⟩
    have := h4 (k - j) (by omega) hp
    unfold bd
    omega
theorem cand_next {f : Nat → Bool} {k j : Nat} (h : Cand f k (j : Int)) (hne : f j ≠ f k) : j < k ∧ Cand f k (bd f j) := by
  obtain ⟨j', ej, hj, hp⟩ : ∃ j' : Nat, (j : Int) = (j' : Int) ∧ j' < k ∧ Pd f k (k - j') = true := by
    rcases h.ok with h | h
    · omega
    · exact h
  have e : j' = j := by omega
  subst e
  have hp := pd_iff.mp hp
  refine ⟨hj, ⟨?_, fun i hi hq he => ?_⟩⟩
  · by_cases z : j' = 0
    · left
      rw [z]
      unfold bd
      rw [lp_zero]
      rfl
    · obtain ⟨h1, h2, h3, h4⟩ := lp_spec (f := f) (k := j') (by omega)
      have h3 := pd_iff.mp h3
      refine .inr ⟨j' - lp f j', by unfold bd; omega, by omega, pd_iff.mpr fun i hi => ?_⟩
      have a := h3 i (by omega)
      have b := hp (i + lp f j') (by omega)
      rw [a, b]
      congr 1
      omega
  · have le := h.all i hi hq he
    have ne : i ≠ j' := fun z => hne (by rw [← z]; exact he)
    have hq := pd_iff.mp hq
    have per : Pd f j' (j' - i) = true := pd_iff.mpr fun x hx => by
      have a := hq x (by omega)
      have b := hp (x + (j' - i)) (by omega)
      rw [a, b]
      congr 1
      omega
    have := (lp_spec (f := f) (k := j') (by omega)).2.2.2 (j' - i) (by omega) per
    unfold bd
    omega
theorem cand_end {f : Nat → Bool} {k : Nat} {b : Int} (h : Cand f k b) (stop : b < 0 ∨ ∃ j : Nat, b = (j : Int) ∧ f j = f k) : b + 1 = bd f (k + 1) := by
  have key : ∀ r : Nat, 1 ≤ r → (b : Int) = (k : Int) - r → Pd f (k + 1) r = true → (∀ q, 1 ≤ q → q ≤ k + 1 → Pd f (k + 1) q = true → r ≤ q) → b + 1 = bd f (k + 1) := fun r r1 e hr hl => by
    unfold bd
    rw [lp_eq (Nat.succ_pos _) r1 hr hl]
    omega
  have low : ∀ q, 1 ≤ q → q ≤ k → Pd f (k + 1) q = true → ((k - q : Nat) : Int) ≤ b := fun q q1 q2 hq => by
    have hq := pd_iff.mp hq
    refine h.all (k - q) (by omega) (pd_iff.mpr fun i hi => ?_) ?_
    · rw [show k - (k - q) = q by omega]
      exact hq i (by omega)
    · rw [hq (k - q) (by omega)]
      congr 1
      omega
  rcases stop with stop | ⟨j, rfl, he⟩
  · have e : b = -1 := by
      rcases h.ok with h | ⟨j, h, _⟩
      · exact h
      · omega
    refine key (k + 1) (by omega) (by omega) (pd_self f _ _ (Nat.le_refl _)) fun q q1 q2 hq => ?_
    by_cases c : q ≤ k
    · have := low q q1 c hq
      omega
    · omega
  · rcases h.ok with h' | ⟨j', ej, hj, hp⟩
    · omega
    · have e : j' = j := by omega
      subst e
      have hp := pd_iff.mp hp
      refine key (k - j') (by omega) (by omega) (pd_iff.mpr fun i hi => ?_) fun q q1 q2 hq => ?_
      · by_cases c : i + (k - j') < k
        · exact hp i c
        · have e : i = j' := by omega
          subst e
          rw [he]
          congr 1
          omega
      · by_cases c : q ≤ k
        · have := low q q1 c hq
          omega
        · omega
theorem nrmF_eq {f : Nat → Bool} : ∀ n s, n ≤ s → nrmF f s n = nrmF f n n := by
  intro n
  induction n using Nat.strongRecOn with
  | ind n ih =>
    intro s hs
    cases n with
    | zero =>
      cases s with
      | zero => rfl
      | succ s =>
        unfold nrmF
        rw [if_neg (by rw [lp_zero]; omega)]
    | succ n =>
      cases s with
      | zero => omega
      | succ s =>
        unfold nrmF
        by_cases c : lp f (n + 1) < n + 1
        · rw [if_pos c, if_pos c, ih _ c s (by omega), ih _ c n (by omega)]
        · rw [if_neg c, if_neg c]
theorem nrm_step (f : Nat → Bool) (n : Nat) : nrm f n = if lp f n < n then lp f n :: nrm f (lp f n) else [] := by
  cases n with
  | zero => rw [if_neg (by rw [lp_zero]; omega)]; rfl
  | succ n =>
    show nrmF f (n + 1) (n + 1) = _
    rw [nrmF]
    by_cases c : lp f (n + 1) < n + 1
    · rw [if_pos c, if_pos c, nrmF_eq _ n (by omega)]
      rfl
    · rw [if_neg c, if_neg c]
theorem nrm_fall {f : Nat → Bool} : ∀ n, Fall (nrm f n) ∧ (∀ d ∈ nrm f n, d < n) ∧ (nrm f n).length ≤ n := by
  intro n
  induction n using Nat.strongRecOn with
  | ind n ih =>
    rw [nrm_step]
    by_cases c : lp f n < n
    · rw [if_pos c]
      obtain ⟨a, b, d⟩ := ih _ c
      have p := (lp_spec (f := f) (k := n) (by omega)).1
      refine ⟨⟨by omega, b, a⟩, fun e he => ?_, by rw [List.length_cons]; omega⟩
      rcases List.mem_cons.mp he with h | h
      · rw [h]
        exact c
      · have := b e h
        omega
    · rw [if_neg c]
      exact ⟨trivial, (fun _ h => by cases h), Nat.zero_le _⟩
end N

end
section
set_option autoImplicit false
set_option linter.all false
/-! ## periods of chains -/
namespace N
/-- whether a place is 0 or a boundary -/
def fm (cs : List Nat) (p : Nat) : Bool := decide (rem cs p = 0)
theorem fm_zero (cs : List Nat) : fm cs 0 = true := decide_eq_true (rem_zero cs)
theorem fm_head (c : Nat) (l : List Nat) (p : Nat) : fm (c :: l) (p + c) = fm (c :: l) p := by
  unfold fm
  rw [rem_cons, rem_cons, Nat.add_mod_right]
theorem fm_low {c : Nat} {l : List Nat} {p : Nat} (h : p < c) : fm (c :: l) p = fm l p := by
  unfold fm
  rw [rem_cons, Nat.mod_eq_of_lt h]
theorem pd_head (c : Nat) (l : List Nat) (k : Nat) : Pd (fm (c :: l)) k c = true := pd_iff.mpr fun i _ => (fm_head c l i).symm
theorem pd_congr {f g : Nat → Bool} {k q : Nat} (h : ∀ i, i < k → f i = g i) : Pd f k q = Pd g k q := by
  rw [Bool.eq_iff_iff, pd_iff, pd_iff]
  exact ⟨fun a i hi => by rw [← h i (by omega), ← h (i + q) hi]; exact a i hi, fun a i hi => by rw [h i (by omega), h (i + q) hi]; exact a i hi⟩
/-- where some place is one, some cut is a period -/
theorem pd_some : ∀ (cs : List Nat), Fall cs → ∀ n, (∃ p, 1 ≤ p ∧ p < n ∧ fm cs p = true) → ∃ c, 1 ≤ c ∧ c < n ∧ Pd (fm cs) n c = true
  | [], _, n, ⟨p, h1, h2, h3⟩ => by
    have : p = 0 := of_decide_eq_true h3
    omega
  | c :: l, hf, n, ⟨p, h1, h2, h3⟩ => by
    by_cases hc : c < n
    · exact ⟨c, hf.1, hc, pd_head c l n⟩
    · obtain ⟨d, d1, d2, d3⟩ := pd_some l hf.2.2 n ⟨p, h1, h2, by rw [← fm_low (c := c) (by omega)]; exact h3⟩
      exact ⟨d, d1, d2, by rw [pd_congr (g := fm l) fun i hi => fm_low (by omega)]; exact d3⟩
/-- the least period below n, if there is a place below n -/
theorem lp_lt {cs : List Nat} (hf : Fall cs) {n : Nat} : lp (fm cs) n < n ↔ ∃ p, 1 ≤ p ∧ p < n ∧ fm cs p = true := by
  constructor
  · intro h
    obtain ⟨h1, h2, h3, _⟩ := lp_spec (f := fm cs) (k := n) (by omega)
    refine ⟨_, h1, h, ?_⟩
    have := pd_iff.mp h3 0 (by omega)
    rw [fm_zero, Nat.zero_add] at this
    exact this.symm
  · intro h
    obtain ⟨c, c1, c2, c3⟩ := pd_some cs hf n h
    exact Nat.lt_of_le_of_lt ((lp_spec (f := fm cs) (k := n) (by omega)).2.2.2 c c1 c3) c2
/-- one place more than two first cuts tells no more -/
theorem lp_more {c : Nat} {l : List Nat} (hc : 0 < c) (m : Nat) (hm : 2 * c ≤ m) : lp (fm (c :: l)) m = lp (fm (c :: l)) (2 * c) := by
  have hcp := pd_head c l (2 * c)
  obtain ⟨h1, h2, h3, h4⟩ := lp_spec (f := fm (c :: l)) (k := 2 * c) (by omega)
  have le := h4 c hc hcp
  have h3' := pd_iff.mp h3
  refine lp_eq (by omega) h1 (pd_iff.mpr fun i hi => ?_) fun q q1 q2 hq => ?_
  · have back : ∀ x, fm (c :: l) x = fm (c :: l) (x % c) := fun x => by
      unfold fm
      rw [rem_cons, rem_cons, Nat.mod_mod]
    rw [back i, back (i + lp (fm (c :: l)) (2 * c)), h3' (i % c) (by have := Nat.mod_lt i hc; omega), back, Nat.mod_add_mod]
  · exact h4 q q1 (pd_iff.mpr fun i hi => pd_iff.mp hq i (by omega))
theorem nrm_more {c : Nat} {l : List Nat} (hc : 0 < c) (m : Nat) (hm : 2 * c ≤ m) : nrm (fm (c :: l)) m = nrm (fm (c :: l)) (2 * c) := by
  have hcp := pd_head c l (2 * c)
  have le := (lp_spec (f := fm (c :: l)) (k := 2 * c) (by omega)).2.2.2 c hc hcp
  rw [nrm_step, nrm_step (fm (c :: l)) (2 * c), lp_more hc m hm, if_pos (by omega), if_pos (by omega)]
theorem nrm_nil (n : Nat) : nrm (fm []) n = [] := by
  rw [nrm_step, if_neg]
  rw [lp_lt (cs := []) trivial]
  rintro ⟨p, h1, h2, h3⟩
  have : p = 0 := of_decide_eq_true h3
  omega
/-- so many places tell all -/
def hd (cs : List Nat) : Nat := match cs with | [] => 0 | c :: _ => c
theorem nrm_cuts {cs : List Nat} (hf : Fall cs) (hb : ∀ c ∈ cs, c ≤ 1000) {n : Nat} (hn : n ≤ 2 * hd cs) : ∀ d ∈ nrm (fm cs) n, d ≤ 1000 := by
  cases cs with
  | nil => rw [nrm_nil]; exact fun _ h => by cases h
  | cons c l =>
    have c1 := hb c List.mem_cons_self
    have hn : n ≤ 2 * c := hn
    rw [nrm_step]
    by_cases h : lp (fm (c :: l)) n < n
    · rw [if_pos h]
      have le : lp (fm (c :: l)) n ≤ c := (lp_spec (f := fm (c :: l)) (k := n) (by omega)).2.2.2 c hf.1 (pd_head c l n)
      intro d hd2
      rcases List.mem_cons.mp hd2 with e | e
      · omega
      · have := (nrm_fall (f := fm (c :: l)) (lp (fm (c :: l)) n)).2.1 d e
        omega
    · rw [if_neg h]
      exact fun _ h => by cases h
theorem fall_len : ∀ {l : List Nat} {m : Nat}, Fall l → (∀ d ∈ l, d ≤ m) → l.length ≤ m
  | [], _, _, _ => Nat.zero_le _
  | c :: r, m, f, h => by
    have h1 := h c List.mem_cons_self
    have := fall_len (l := r) (m := m - 1) f.2.2 fun d hd => by
      have := f.2.1 d hd
      omega
    have := f.1
    rw [List.length_cons]
    omega
end N

end
section
set_option autoImplicit false
set_option Elab.async false
set_option linter.all false
set_option maxRecDepth 100000
set_option maxHeartbeats 4000000
/-! ## gates: the small defs -/
namespace CP
open PySem L2 G Y
abbrev sWord : Stmt := S.top 58
abbrev sRoadG : Stmt := S.top 60
abbrev sLeaves : Stmt := S.top 61
abbrev sMostG : Stmt := S.top 62
abbrev sTurnG : Stmt := S.top 64
abbrev sChB : Stmt := S.top 57
def ansV : Option Int → V
  | none => .non
  | some z => .int z
/-- a gate stands at a value -/
def GAt (H : Hp) (g : M.Gate) (v : V) : Prop := ∃ t q, v = .ref t ∧ H t = some (.tup [.ref q, .int g.thr, ansV g.ans]) ∧ H q = some (.tup (ni g.place))
theorem GAt.mono {H H' : Hp} (s : Same H H') {g : M.Gate} {v : V} (h : GAt H g v) : GAt H' g v := by
  obtain ⟨t, q, e, h1, h2⟩ := h
  exact ⟨t, q, e, s _ _ h1, s _ _ h2⟩
inductive GsAt (H : Hp) : List M.Gate → List V → Prop
  | nil : GsAt H [] []
  | cons {g : M.Gate} {l : List M.Gate} {v : V} {xs : List V} : GAt H g v → GsAt H l xs → GsAt H (g :: l) (v :: xs)
theorem GsAt.mono {H H' : Hp} (s : Same H H') {l : List M.Gate} {xs : List V} (h : GsAt H l xs) : GsAt H' l xs := by
  induction h with
  | nil => exact .nil
  | cons e _ ih => exact .cons (e.mono s) ih
theorem GsAt.snoc {H : Hp} {l : List M.Gate} {xs : List V} {g : M.Gate} {v : V} (h : GsAt H l xs) (e : GAt H g v) : GsAt H (l ++ [g]) (xs ++ [v]) := by
  induction h with
  | nil => exact .cons e .nil
  | cons e2 _ ih => exact .cons e2 ih
theorem GsAt.app {H : Hp} {l m : List M.Gate} {xs ys : List V} (h : GsAt H l xs) (h2 : GsAt H m ys) : GsAt H (l ++ m) (xs ++ ys) := by
  induction h with
  | nil => exact h2
  | cons e2 _ ih => exact .cons e2 ih
theorem GsAt.len {H : Hp} {l : List M.Gate} {xs : List V} (h : GsAt H l xs) : xs.length = l.length := by
  induction h with
  | nil => rfl
  | cons _ _ ih => rw [List.length_cons, List.length_cons, ih]
theorem GsAt.get {H : Hp} {l : List M.Gate} {xs : List V} (h : GsAt H l xs) : ∀ {i : Nat} {v : V}, xs[i]? = some v → ∃ g, l[i]? = some g ∧ GAt H g v := by
  induction h with
  | nil => intro i v e; cases e
  | cons e2 _ ih =>
    intro i v e
    cases i with
    | zero =>
      cases e
      exact ⟨_, rfl, e2⟩
    | succ i => exact ih (i := i) e
/-- all but lists stays -/
def KeepT (H H' : Hp) : Prop := ∀ a o, (∀ xs, o ≠ .lst xs) → H a = some o → H' a = some o
theorem put_keepT {G : Hp} {l : Addr} {xs : List V} {o : HO} (h : G l = some (.lst xs)) : KeepT G (upd G l o) := fun a o n e => by
  rw [upd_ne (fun z => by
    rw [z, h] at e
    cases e
    exact n _ rfl)]
  exact e
theorem same_keepT {H H' : Hp} (s : Same H H') : KeepT H H' := fun a o _ e => s a o e
theorem GsAt.keep {H H' : Hp} (s : KeepT H H') {l : List M.Gate} {xs : List V} (h : GsAt H l xs) : GsAt H' l xs := by
  induction h with
  | nil => exact .nil
  | cons e _ ih =>
    obtain ⟨t, q, e, h1, h2⟩ := e
    exact .cons ⟨t, q, e, s _ _ (fun _ z => by cases z) h1, s _ _ (fun _ z => by cases z) h2⟩ ih
theorem ChAt.keep {C : Addr} {H H' : Hp} (s : KeepT H H') {l : List Nat} {a : Addr} (h : ChAt C H l a) : ChAt C H' l a := by
  obtain ⟨dx, t, u, h1, h2, h3⟩ := h
  exact ⟨dx, t, u, s _ _ (fun _ z => by cases z) h1, s _ _ (fun _ z => by cases z) h2, s _ _ (fun _ z => by cases z) h3⟩
inductive CsAt (C : Addr) (H : Hp) : List (List Nat) → List V → Prop
  | nil : CsAt C H [] []
  | cons {cs : List Nat} {l : List (List Nat)} {a : Addr} {xs : List V} : ChAt C H cs a → CsAt C H l xs → CsAt C H (cs :: l) (.ref a :: xs)
theorem CsAt.mono {C : Addr} {H H' : Hp} (s : Same H H') {l : List (List Nat)} {xs : List V} (h : CsAt C H l xs) : CsAt C H' l xs := by
  induction h with
  | nil => exact .nil
  | cons e _ ih => exact .cons (e.mono s) ih
theorem CsAt.keep {C : Addr} {H H' : Hp} (s : KeepT H H') {l : List (List Nat)} {xs : List V} (h : CsAt C H l xs) : CsAt C H' l xs := by
  induction h with
  | nil => exact .nil
  | cons e _ ih => exact .cons (e.keep s) ih
theorem CsAt.snoc {C : Addr} {H : Hp} {l : List (List Nat)} {xs : List V} {cs : List Nat} {a : Addr} (h : CsAt C H l xs) (e : ChAt C H cs a) : CsAt C H (l ++ [cs]) (xs ++ [.ref a]) := by
  induction h with
  | nil => exact .cons e .nil
  | cons e2 _ ih => exact .cons e2 ih
theorem CsAt.len {C : Addr} {H : Hp} {l : List (List Nat)} {xs : List V} (h : CsAt C H l xs) : xs.length = l.length := by
  induction h with
  | nil => rfl
  | cons _ _ ih => rw [List.length_cons, List.length_cons, ih]
theorem CsAt.get {C : Addr} {H : Hp} {l : List (List Nat)} {xs : List V} (h : CsAt C H l xs) : ∀ {i : Nat} {cs : List Nat}, l[i]? = some cs → ∃ a, xs[i]? = some (.ref a) ∧ ChAt C H cs a := by
  induction h with
  | nil => intro i cs e; cases e
  | cons e2 _ ih =>
    intro i cs e
    cases i with
    | zero =>
      cases e
      exact ⟨_, rfl, e2⟩
    | succ i => exact ih (i := i) e
theorem ck_cuts {cs : List Nat} (h : M.Ck cs) : Cuts cs := ⟨h.fall, h.le, N.fall_len h.fall h.le⟩
theorem ch_isC {C : Addr} {H : Hp} {l : List Nat} {x : Addr} (h : ChAt C H l x) : WO.InsC C H x := by
  obtain ⟨dx, t, u, h1, _, _⟩ := h
  exact ⟨dx, _, h1⟩
theorem nks : ¬ (V.str "drop" = V.str "cut") ∧ ¬ (V.str "tell" = V.str "cut") ∧ ¬ (V.str "drop" = V.str "tell") ∧ ¬ (V.str "cut" = V.str "tell") ∧ ¬ (V.str "road" = V.str "join") ∧ ¬ (V.str "tunnel" = V.str "join") ∧ ¬ (V.str "tunnel" = V.str "road") ∧ ¬ (V.str "join" = V.str "road") ∧ ¬ (V.str "keep" = V.str "turn") ∧ ¬ (V.str "lose" = V.str "turn") :=
  ⟨fun h => absurd (V.str.inj h) (by decide +kernel), fun h => absurd (V.str.inj h) (by decide +kernel), fun h => absurd (V.str.inj h) (by decide +kernel), fun h => absurd (V.str.inj h) (by decide +kernel), fun h => absurd (V.str.inj h) (by decide +kernel), fun h => absurd (V.str.inj h) (by decide +kernel), fun h => absurd (V.str.inj h) (by decide +kernel), fun h => absurd (V.str.inj h) (by decide +kernel), fun h => absurd (V.str.inj h) (by decide +kernel), fun h => absurd (V.str.inj h) (by decide +kernel)⟩
theorem iteNT {x y : V} {A B : Prop} (h : ¬ x = y) (a : A) : if (!decide (x = y)) = true then A else B := by
  rw [decide_eq_false h]
  exact a
/-- the word of a road -/
def wordS (se ts : Bool) (lw : M.LW) : Str := if se = true then WP.sdS ts else WP.lwS lw
theorem word_cut (se ts : Bool) (lw : M.LW) : decide (V.str (wordS se ts lw) = V.str "cut") = decide (se = false ∧ lw = .cut) := by
  cases se with
  | true =>
    cases ts with
    | true => exact (decide_eq_false nks.2.1).trans (decide_eq_false (fun h => by cases h.1)).symm
    | false => exact (decide_eq_false nks.1).trans (decide_eq_false (fun h => by cases h.1)).symm
  | false =>
    cases lw with
    | cut => exact (decide_eq_true rfl).trans (decide_eq_true ⟨rfl, rfl⟩).symm
    | tell => exact (decide_eq_false nks.2.1).trans (decide_eq_false (fun h => by cases h.2)).symm
    | drop => exact (decide_eq_false nks.1).trans (decide_eq_false (fun h => by cases h.2)).symm
theorem word_tell (se ts : Bool) (lw : M.LW) : decide (V.str (wordS se ts lw) = V.str "tell") = decide ((se = true ∧ ts = true) ∨ (se = false ∧ lw = .tell)) := by
  cases se with
  | true =>
    cases ts with
    | true => exact (decide_eq_true rfl).trans (decide_eq_true (.inl ⟨rfl, rfl⟩)).symm
    | false => exact (decide_eq_false nks.2.2.1).trans (decide_eq_false (fun h => by rcases h with h | h; cases h.2; cases h.1)).symm
  | false =>
    cases lw with
    | cut => exact (decide_eq_false nks.2.2.2.1).trans (decide_eq_false (fun h => by rcases h with h | h; cases h.1; cases h.2)).symm
    | tell => exact (decide_eq_true rfl).trans (decide_eq_true (.inr ⟨rfl, rfl⟩)).symm
    | drop => exact (decide_eq_false nks.2.2.1).trans (decide_eq_false (fun h => by rcases h with h | h; cases h.1; cases h.2)).symm
section
variable {P : Program} {w : World} {K : PySem.W.Frag} {mg : Str → Option Value} {base : Heap} {C CW : Addr}
def spWord : Sp := fun vs H Q _ => ∃ (t : Addr) (se ts : Bool) (lw : M.LW) (size : Nat), vs = [.ref t, .bl se] ∧ H t = some (.tup [.str "road", .int (size : Int), .str (WP.sdS ts), .str (WP.lwS lw)]) ∧ Q (.str (wordS se ts lw)) H
theorem scWd : FnScope ["road", "sealed"] ["road", "sealed"] (defScope sWord) := ⟨rfl, rfl, rfl, by decide +kernel, rfl, by decide +kernel, by decide +kernel⟩
theorem ok_word {f : Addr} {fd : FuncData} (F : Fun K "_word" "_word" sWord f fd) : FnOk P w K mg base CX0 1 f fd ["road", "sealed"] spWord := by
  refine F.ok scWd (fun vs H Q E h => ?_) (fun cdv A outer s H vs Q E hr h => ?_)
  · obtain ⟨t, se, ts, lw, size, rfl, _⟩ := h
    rfl
  · obtain ⟨t, se, ts, lw, size, rfl, ht, k⟩ := h
    refine ⟨_, pss_one (ps_ret (pe_ifExp (pt_val (pv 1)) (pe_ix ix_tup (pv 0) (pe_int) (fun _ _ => rfl)) (pe_ix ix_tup (pv 0) (pe_int) (fun _ _ => rfl)))), ?_⟩
    refine ⟨_, rfl, _, rfl, ?_⟩
    cases se with
    | true => exact iteT ⟨_, rfl, t, _, _, _, rfl, rfl, SqT.of ht, (by exact atI_nat (j := 2) rfl), k⟩
    | false => exact iteF ⟨_, rfl, t, _, _, _, rfl, rfl, SqT.of ht, (by exact atI_nat (j := 3) rfl), k⟩
def spLeaves (C : Addr) : Sp := fun vs H Q _ => ∃ (a : Addr) (x : Int) (cs : List Nat), vs = [.ref a, .int x] ∧ ChAt C H cs a ∧ Q (.bl (M.leaves cs x)) H
theorem scLv : FnScope ["chain", "stretch"] ["chain", "stretch"] (defScope sLeaves) := ⟨rfl, rfl, rfl, by decide +kernel, rfl, by decide +kernel, by decide +kernel⟩
theorem ok_leaves {f : Addr} {fd : FuncData} (F : Fun K "_leaves_more" "_leaves_more" sLeaves f fd) (B : Bn mg) (T : Ct K mg C) : FnOk P w K mg base CX0 1 f fd ["chain", "stretch"] (spLeaves C) := by
  refine F.ok scLv (fun vs H Q E h => ?_) (fun cdv A outer s H vs Q E hr h => ?_)
  · obtain ⟨a, x, cs, rfl, _⟩ := h
    rfl
  · obtain ⟨a, x, cs, rfl, hc, k⟩ := h
    refine ⟨_, pss_one (ps_ret (pe_or (pe_cmpR (op_eq) (pe_callB call_len_seq (by rfl) B.len PySem.boot_len (pa_cons (pe_fld (pv 0) rfl) pa_nil)) (pe_int) (nomark _)) (pe_one (pe_cmpR (op_gt) (pe_ix ix_tup (pe_fld (pv 0) rfl) (pe_un un_neg pe_int) (fun _ _ => rfl)) (pv 1) (nomark _))))), ?_⟩
    obtain ⟨dx, t, u, h1, h2, h3⟩ := id hc
    refine ⟨_, rfl, a, C, dx, _, _, rfl, h1, T.cl, T.nC, cfl_cuts t u, t, _, rfl, .inr (SqT.of h2), rfl, _, rfl, ?_⟩
    rw [ni_len]
    rcases List.eq_nil_or_concat cs with e | ⟨r, y, e⟩
    · subst e
      exact iteT k
    · rw [List.concat_eq_append] at e
      subst e
      rw [decide_eq_false (fun z => by injection z with z; simp at z; omega)]
      refine iteF ⟨_, rfl, a, C, dx, _, _, rfl, h1, T.cl, T.nC, cfl_cuts t u, 1, rfl, t, _, _, .int (y : Int), rfl, rfl, SqT.of h2, by rw [ni_app]; exact atI_last _ _, _, rfl, _, _, rfl, rfl, ?_⟩
      have e : M.leaves (r ++ [y]) x = decide (x < (y : Int)) := by
        unfold M.leaves
        rw [decide_eq_false (by simp), Bool.false_or]
        simp
      rw [e] at k
      exact k
def spTurnG : Sp := fun vs H Q _ => ∃ (a : Option Int) (ih : Nat) (t : M.TW), vs = [ansV a, .int (ih : Int), .str (WP.twS t)] ∧ Q (ansV (M.turnG a ih t)) H
theorem scTg : FnScope ["answer", "inner_head", "tells"] ["answer", "inner_head", "tells"] (defScope sTurnG) := ⟨rfl, rfl, rfl, by decide +kernel, rfl, by decide +kernel, by decide +kernel⟩
theorem ok_turng {f : Addr} {fd : FuncData} (F : Fun K "_turned" "_turned" sTurnG f fd) : FnOk P w K mg base CX0 1 f fd ["answer", "inner_head", "tells"] spTurnG := by
  refine F.ok scTg (fun vs H Q E h => ?_) (fun cdv A outer s H vs Q E hr h => ?_)
  · obtain ⟨a, ih, t, rfl, _⟩ := h
    rfl
  · obtain ⟨a, ih, t, rfl, k⟩ := h
    refine ⟨_, pss_cons (ps_if (PW.pt (pw_or (pt_cmp (pc_isN (pv 0))) (pw_or1 (pt_cmpR (op_ne) (pv 2) (pe_str) (nomark _))))) (pss_one (ps_ret (pe_non))) (pss_nil))
      (pss_one (ps_ret (pe_op op_sub (pv 0) (pv 1)))), ?_⟩
    cases a with
    | none => exact ⟨_, rfl, _, rfl, iteT (iteT k)⟩
    | some z =>
      refine ⟨_, rfl, _, rfl, iteF ⟨_, rfl, rfl, _, rfl, ?_⟩⟩
      cases t with
      | turn => exact iteNS rfl ⟨_, rfl, _, rfl, _, _, rfl, rfl, k⟩
      | keep => exact iteNT nks.2.2.2.2.2.2.2.2.1 k
      | lose => exact iteNT nks.2.2.2.2.2.2.2.2.2 k
def spMostG (C : Addr) : Sp := fun vs H Q _ => ∃ (a : Addr) (most : Nat) (cs : List Nat), vs = [.int (most : Int), .ref a] ∧ ChAt C H cs a ∧ Cuts cs ∧ 1 ≤ most ∧ ∀ D xs H', Same H H' → H D = none → H' D = some (.lst xs) → GsAt H' (M.mostG most cs) xs → Q (.ref D) H'
theorem scMg : FnScope ["most", "chain"] ["most", "chain"] (defScope sMostG) := ⟨rfl, rfl, rfl, by decide +kernel, rfl, by decide +kernel, by decide +kernel⟩
theorem ok_mostg {f : Addr} {fd : FuncData} (F : Fun K "_most_gates" "_most_gates" sMostG f fd) (B : Bn mg) (T : Ct K mg C) (DG : Op P w K mg base C 2 "__getitem__" ["self", "at"] (spCGet C)) : FnOk P w K mg base CX0 4 f fd ["most", "chain"] (spMostG C) := by
  obtain ⟨fG', fdG, GG, OG, bG, fG⟩ := DG.ex
  refine F.ok scMg (fun vs H Q E h => ?_) (fun cdv A outer s H vs Q E hr h => ?_)
  · obtain ⟨a, most, cs, rfl, _⟩ := h
    rfl
  · obtain ⟨a, most, cs, rfl, hc, hl, hm, k⟩ := h
    refine ⟨_, pss_cons (ps_if (pt_cmpR (op_eq) (pe_callB call_len_seq (by rfl) B.len PySem.boot_len (pa_cons (pe_fld (pv 1) rfl) pa_nil)) (pe_int) (nomark _)) (pss_one (ps_ret (pe_lst pa_nil))) (pss_nil))
      (pss_one (ps_ret (pe_lst (pa_cons (pe_tup (pa_cons (pe_tup pa_nil) (pa_cons (WO.pe_ixO GG (hr.mono (by decide)) OG fG bG pass0 (pv 1) (pv 0) (fun _ _ => by with_unfolding_all rfl)) (pa_cons (pe_non) pa_nil)))) pa_nil)))), ?_⟩
    obtain ⟨dx, t, u, h1, h2, h3⟩ := id hc
    refine ⟨_, rfl, a, C, dx, _, _, rfl, h1, T.cl, T.nC, cfl_cuts t u, t, _, rfl, .inr (SqT.of h2), rfl, _, rfl, ?_⟩
    rw [ni_len]
    by_cases e : cs = []
    · subst e
      exact iteT ⟨line2.2.2.2, fun D hD => k D [] _ (of_upd hD) hD upd_same .nil⟩
    · have l1 := List.length_pos_iff.mpr e
      rw [decide_eq_false (fun z => by injection z with z; omega)]
      refine iteF ?_
      first | (unfold tNext; dsimp only) | dsimp only | skip
      refine ⟨line2.2.2.2, fun q hq => ⟨_, rfl, _, rfl, a, rfl, ch_isC (hc.mono (of_upd hq)), a, most, cs, rfl, hc.mono (of_upd hq), hl, hm, e, fun G s1 => ⟨line2.2.1, fun t2 ht2 => ⟨line2.2.2.1, fun D hD => ?_⟩⟩⟩⟩
      have g1 := of_upd (o := .tup []) hq
      have g2 := of_upd (o := .tup [V.ref q, .int ((N.B cs most : Nat) : Int), .non]) ht2
      have g3 := of_upd (o := .lst [V.ref t2]) hD
      have gg := (g1.trans s1).trans g2
      refine k D _ _ (gg.trans g3) (gg.free hD) upd_same ?_
      unfold M.mostG
      rw [if_neg e]
      exact .cons ⟨t2, q, rfl, g3 _ _ upd_same, (g2.trans g3) _ _ (s1 _ _ upd_same)⟩ .nil
def spRoadG (C : Addr) : Sp := fun vs H Q _ => ∃ (t a : Addr) (h size : Nat) (se ts : Bool) (lw : M.LW) (cs : List Nat), vs = [.int (h : Int), .ref t, .ref a, .bl se] ∧ H t = some (.tup [.str "road", .int (size : Int), .str (WP.sdS ts), .str (WP.lwS lw)]) ∧ ChAt C H cs a ∧ ∀ D xs H', Same H H' → H D = none → H' D = some (.lst xs) → GsAt H' (M.roadG se h size ts lw cs) xs → Q (.ref D) H'
abbrev NRg : List Str := ["head", "road", "chain", "sealed", "word", "carried"]
theorem scRg : FnScope NRg ["head", "road", "chain", "sealed"] (defScope sRoadG) := ⟨rfl, rfl, rfl, by decide +kernel, rfl, by decide +kernel, by decide +kernel⟩
theorem ok_roadg {f : Addr} {fd : FuncData} (F : Fun K "_road_gates" "_road_gates" sRoadG f fd) (DW : Df P w K mg base 1 "_word" ["road", "sealed"] spWord) (DL : Df P w K mg base 1 "_leaves_more" ["chain", "stretch"] (spLeaves C)) : FnOk P w K mg base CX0 2 f fd ["head", "road", "chain", "sealed"] (spRoadG C) := by
  obtain ⟨fW, fdW, GW, gW, kW, bW⟩ := DW.ex
  obtain ⟨fL, fdL, GL, gL, kL, bL⟩ := DL.ex
  refine F.ok scRg (fun vs H Q E h => ?_) (fun cdv A outer s H vs Q E hr h => ?_)
  · obtain ⟨t, a, h, size, se, ts, lw, cs, rfl, _⟩ := h
    rfl
  · obtain ⟨t, a, h, size, se, ts, lw, cs, rfl, ht, hc, k⟩ := h
    refine ⟨_, pss_cons (ps_set (i := 4) scRg.nd rfl (Or.inl rfl) (pe_call GW (hr.mono (by decide)) rfl gW kW bW .nil pass0 (pa_cons (pv 1) (pa_cons (pv 3) pa_nil))))
      (pss_cons (ps_set (i := 5) scRg.nd rfl (Or.inl rfl) (pe_op op_sub (pe_ix ix_tup (pv 1) (pe_int) (fun _ _ => rfl)) (pv 0)))
      (pss_cons (ps_if (PW.pt (pw_or (pt_cmpR (op_eq) (pv 4) (pe_str) (nomark _)) (pw_or1 (pt_not (pt_val (pe_call GL (hr.mono (by decide)) rfl gL kL bL .nil pass0 (pa_cons (pv 2) (pa_cons (pv 5) pa_nil)))))))) (pss_one (ps_ret (pe_lst pa_nil))) (pss_nil))
      (pss_one (ps_ret (pe_lst (pa_cons (pe_tup (pa_cons (pe_tup pa_nil) (pa_cons (pv 5) (pa_cons (pe_ifExp (pt_cmpR (op_eq) (pv 4) (pe_str) (nomark _)) (pe_ix ix_tup (pv 1) (pe_int) (fun _ _ => rfl)) pe_non) pa_nil)))) pa_nil)))))), ?_⟩
    have i1 : atI [V.str "road", V.int (size : Int), V.str (WP.sdS ts), V.str (WP.lwS lw)] (1 : Int) = some (.int (size : Int)) := by exact atI_nat (j := 1) rfl
    refine set_then (i := 4) ⟨_, rfl, _, rfl, t, se, ts, lw, size, rfl, ht, ?_⟩
    refine set_then (i := 5) ⟨_, rfl, t, _, _, _, rfl, rfl, SqT.of ht, i1, _, rfl, _, _, rfl, rfl, ?_⟩
    refine ⟨_, rfl, rfl, _, rfl, ?_⟩
    rw [word_cut]
    have nil_ : M.roadG se h size ts lw cs = [] → tRet (tLst tNil) { nx := fun _ H' => Q .non H', rt := Q } [some (.int (h : Int)), some (.ref t), some (.ref a), some (.bl se), some (.str (wordS se ts lw)), some (.int ((size : Int) - (h : Int)))] H := fun e =>
      ⟨line2.2.2.2, fun D hD => k D [] _ (of_upd hD) hD upd_same (by rw [e]; exact .nil)⟩
    by_cases c1 : se = false ∧ lw = .cut
    · rw [decide_eq_true c1]
      exact iteT (iteT (nil_ (by unfold M.roadG; rw [if_pos (.inl c1)])))
    · rw [decide_eq_false c1]
      refine iteF ⟨_, rfl, _, rfl, a, (size : Int) - (h : Int), cs, rfl, hc, _, rfl, ?_⟩
      cases c2 : M.leaves cs ((size : Int) - (h : Int)) with
      | false => exact iteT (nil_ (by unfold M.roadG; rw [if_pos (.inr c2)]))
      | true =>
        refine iteF ?_
        first | (unfold tNext; dsimp only) | dsimp only | skip
        have fin : ∀ (q : Addr) (ans : Option Int) (G : Hp), Same H G → G q = some (.tup []) → ans = (if (se = true ∧ ts = true) ∨ (se = false ∧ lw = .tell) then some (size : Int) else none) → ∀ t2, G t2 = none → ∀ D, (upd G t2 (.tup [.ref q, .int ((size : Int) - (h : Int)), ansV ans])) D = none → Q (.ref D) (upd (upd G t2 (.tup [.ref q, .int ((size : Int) - (h : Int)), ansV ans])) D (.lst [.ref t2])) := fun q ans G s1 hq ea t2 ht2 D hD => by
          have g2 := of_upd (o := .tup [V.ref q, .int ((size : Int) - (h : Int)), ansV ans]) ht2
          have g3 := of_upd (o := .lst [V.ref t2]) hD
          refine k D _ _ ((s1.trans g2).trans g3) ((s1.trans g2).free hD) upd_same ?_
          unfold M.roadG
          rw [if_neg (by rintro (z | z); exact c1 z; rw [c2] at z; cases z)]
          subst ea
          exact .cons ⟨t2, q, rfl, g3 _ _ upd_same, (g2.trans g3) _ _ hq⟩ .nil
        refine ⟨line2.2.2.2, fun q hq => ⟨_, rfl, _, rfl, rfl, _, rfl, ?_⟩⟩
        rw [word_tell]
        by_cases c3 : (se = true ∧ ts = true) ∨ (se = false ∧ lw = .tell)
        · rw [decide_eq_true c3]
          exact iteT ⟨_, rfl, t, _, _, _, rfl, rfl, SqT.of ((of_upd hq) _ _ ht), i1, line2.2.1, fun t2 ht2 => ⟨line2.2.2.1, fun D hD => fin q (some (size : Int)) _ (of_upd hq) upd_same (by rw [if_pos c3]) t2 ht2 D hD⟩⟩
        · rw [decide_eq_false c3]
          exact iteF ⟨line2.2.1, fun t2 ht2 => ⟨line2.2.2.1, fun D hD => fin q none _ (of_upd hq) upd_same (by rw [if_neg c3]) t2 ht2 D hD⟩⟩
end
end CP

end
section
set_option autoImplicit false
set_option Elab.async false
set_option linter.all false
set_option maxRecDepth 100000
set_option maxHeartbeats 4000000
/-! ## chains_before -/
namespace WP
open PySem L2 G
variable {C : Addr}
theorem head_fld {H : Hp} {wy : M.Way} {a : Addr} (h : WayAt C H wy a) : ∃ dx fs, H a = some (.ins C dx fs) ∧ fs.lookup ("head" : Str) = some (.int ((wy.head : Nat) : Int)) := by
  obtain ⟨wh, ws⟩ := wy
  unfold WayAt at h
  obtain ⟨dx, t, xs, h1, _, _⟩ := h
  exact ⟨dx, _, h1, flds_head _ _ _ _⟩
theorem steps_fld {H : Hp} {wy : M.Way} {a : Addr} (h : WayAt C H wy a) : ∃ dx fs t xs, H a = some (.ins C dx fs) ∧ fs.lookup ("steps" : Str) = some (.ref t) ∧ H t = some (.tup xs) ∧ StepsAt C H wy.steps xs := by
  obtain ⟨wh, ws⟩ := wy
  unfold WayAt at h
  obtain ⟨dx, t, xs, h1, h2, h3⟩ := h
  exact ⟨dx, _, t, xs, h1, flds_steps _ _ _ _, h2, h3⟩
end WP
namespace CP
open PySem L2 G Y
theorem if_then {c : TT} {t1 t2 t3 : TS} {D : Ends} {σ : L2.St} {H : Hp} (Z : L2.St → Hp → Prop) (k : ∀ σ' H', Z σ' H' → t3 D σ' H') (h : (∀ σ' H', Z σ' H' → t3 D σ' H') → tIfS c t1 t2 { D with nx := fun σ' H' => t3 D σ' H' } σ H) : tSeq (tIfS c t1 t2) t3 D σ H := h k
section
variable {P : Program} {w : World} {K : PySem.W.Frag} {mg : Str → Option Value} {base : Heap} {C CW : Addr}
def spChB (C CW : Addr) : Sp := fun vs H Q _ => ∃ (a : Addr) (se : Bool) (wy : M.Way), vs = [.ref a, .bl se] ∧ WP.WayAt CW H wy a ∧ M.Way.fine wy ∧ ∀ D xs H', Same H H' → H D = none → H' D = some (.lst xs) → CsAt C H' (M.chB se wy.head wy.steps []) xs → Q (.ref D) H'
abbrev NCb : List Str := ["way", "sealed", "chain", "chains", "step"]
theorem scCb : FnScope NCb ["way", "sealed"] (defScope sChB) := ⟨rfl, rfl, rfl, by decide +kernel, rfl, by decide +kernel, by decide +kernel⟩
theorem cuts0 : Cuts [] := ⟨trivial, by simp, by simp⟩
theorem ok_chb {f : Addr} {fd : FuncData} {sfC : PySem.W.selfFirst K C = true} (F : Fun K "chains_before" "chains_before" sChB f fd) (T : Ct K mg C) (TW : WP.Wt K mg CW) (MW : Mw P w K mg base C) (DA : Oq P w K mg base C 6 "__add__" ["self", "other"] (spCAdd C)) (DW : Df P w K mg base 1 "_word" ["road", "sealed"] spWord) : FnOk P w K mg base CX0 7 f fd ["way", "sealed"] (spChB C CW) := by
  obtain ⟨fI, fdI, GI, MK, bI⟩ := MW.ex
  obtain ⟨fA, fdA, GA, OA, bA⟩ := DA.ex
  obtain ⟨fW, fdW, GW, gW, kW, bW⟩ := DW.ex
  refine F.ok scCb (fun vs H Q E h => ?_) (fun cdv A outer s H vs Q E hr h => ?_)
  · obtain ⟨a, se, wy, rfl, _⟩ := h
    rfl
  · obtain ⟨a, se, wy, rfl, hw, hf, k⟩ := h
    refine ⟨_, pss_cons (ps_set (i := 2) scCb.nd rfl (Or.inl rfl) (pe_make MK GI (hr.mono (by decide)) rfl T.g bI .nil pass0 (pa_cons (pe_tup pa_nil) pa_nil)))
      (pss_cons (ps_set (i := 3) scCb.nd rfl (Or.inl rfl) (pe_lst (pa_cons (pv 2) pa_nil)))
      (pss_cons (ps_for PassesOwn.never rfl (pi_tup (pe_fld (pv 0) rfl)) (pg_name (i := 4) scCb.nd rfl (Or.inl rfl)) (pss_cons (ps_if (pt_cmpR (op_eq) (pe_ix ix_tup (pv 4) (pe_int) (fun _ _ => rfl)) (pe_str) (nomark _)) (pss_one (ps_set (i := 2) scCb.nd rfl (Or.inl rfl) (pe_make MK GI (hr.mono (by decide)) rfl T.g bI .nil pass0 (pa_cons (pe_tup pa_nil) pa_nil)))) (pss_one (ps_if (PW.pt (pw_and (pt_cmpR (op_eq) (pe_ix ix_tup (pv 4) (pe_int) (fun _ _ => rfl)) (pe_str) (nomark _)) (pw_and1 (pt_cmpR (op_eq) (pe_call GW (hr.mono (by decide)) rfl gW kW bW .nil pass0 (pa_cons (pv 4) (pa_cons (pv 1) pa_nil))) (pe_str) (nomark _))))) (pss_one (ps_set (i := 2) scCb.nd rfl (Or.inl rfl) (pe_op (WO.op_addO GA (hr.mono (by decide)) OA sfC bA pass0) (pv 2) (pe_make MK GI (hr.mono (by decide)) rfl T.g bI .nil pass0 (pa_cons (pe_tup (pa_cons (pe_op op_sub (pe_ix ix_tup (pv 4) (pe_int) (fun _ _ => rfl)) (pe_fld (pv 0) rfl)) pa_nil)) pa_nil))))) (pss_nil))))
      (pss_one (ps_expr (pe_bm PySem.F.plainAttrs_list PySem.F.slot_list_append PySem.F.type_list_append mt_append (pv 3) (pa_cons (pv 2) pa_nil))))))
      (pss_one (ps_ret (pv 3))))), ?_⟩
    obtain ⟨dx, fs, t0, xs0, w1, w2, w3, w4⟩ := WP.steps_fld hw
    obtain ⟨dh, fh, v1, v2⟩ := WP.head_fld hw
    obtain ⟨wh, sts⟩ := wy
    unfold M.Way.fine at hf
    obtain ⟨hh, hl, hall, hdd, hzz⟩ := hf
    have il : xs0.length = sts.length := w4.len
    refine set_then (i := 2) ⟨line2.2.2.2, fun e0 f0 => fun x dx' hx hdx ne => made_ch (cs := []) hx hdx ne (.inr upd_same) cuts0 fun G1 s1 hc => ⟨rfl, ?_⟩⟩
    have s2 := (of_upd (o := .tup []) f0).trans s1
    refine set_then (i := 3) ⟨_, rfl, line2.2.2.1, fun D hD => ?_⟩
    have g := of_upd (o := .lst [V.ref x]) hD
    have s3 := s2.trans g
    have hD0 := s2.free hD
    refine ⟨_, rfl, a, CW, dx, fs, _, rfl, s3 _ _ w1, TW.cl, TW.nS, w2, t0, rfl, ⟨_, SqT.of (s3 _ _ w3)⟩, ?_⟩
    refine for_it walk_tup (fun i σ G => Same H G ∧ ∃ (cx : Addr) (xs : List V) (q4 : Option V), σ = [some (.ref a), some (.bl se), some (.ref cx), some (.ref D), q4] ∧ ChAt C G (M.chE se wh (sts.take i) []) cx ∧ G D = some (.lst xs) ∧ CsAt C G ((M.chB se wh sts []).take (i + 1)) xs)
      ⟨s3, x, [.ref x], _, rfl, hc.mono g, upd_same, ?_⟩ (fun i σ G _ z => SqT.of (z.1 _ _ w3)) ?_ ?_
    · rw [take_snoc (M.chB_at se wh sts [] 0 (Nat.zero_le _))]
      exact .cons (hc.mono g) .nil
    · rintro i v σ G G' hi ⟨s4, cx, xs, q4, rfl, hcx, hx4, hcs⟩ ⟨rfl, hx⟩
      obtain ⟨st, hst, hat⟩ := w4.get hx
      replace hst : sts[i]? = some st := hst
      have hi2 := (List.getElem?_eq_some_iff.mp hst).1
      have hfs := WP.fine_get hall hst
      have ckE : M.Ck (M.chE se wh (sts.take i) []) := M.ck_all M.ck_nil (M.fine_take i hall)
      have eN : M.chE se wh (sts.take (i + 1)) [] = M.nxC se wh (M.chE se wh (sts.take i) []) st := by
        rw [take_snoc hst, M.chE_snoc]
      have ckN := M.ck_nx (se := se) ckE hfs
      have ln := M.chE_len (se := se) (h := wh) (sts.take i) []
      have lxs := hcs.len
      rw [List.length_take, M.chB_len] at lxs
      replace hat := hat.mono s4
      first | dsimp only | skip
      refine if_then (fun σ' G' => Same H G' ∧ ∃ (cx : Addr), σ' = [some (.ref a), some (.bl se), some (.ref cx), some (.ref D), some v] ∧ ChAt C G' (M.chE se wh (sts.take (i + 1)) []) cx ∧ G' D = some (.lst xs) ∧ CsAt C G' ((M.chB se wh sts []).take (i + 1)) xs) ?rest (fun kk => ?_)
      case rest =>
        rintro σ' G' ⟨s5, cx', rfl, hcx', hx5, hcs5⟩
        have kp := put_keepT (o := .lst (xs ++ [.ref cx'])) hx5
        refine ⟨_, rfl, .inl ⟨rfl, _, SqL.of hx5⟩, _, rfl, D, _, _, rfl, rfl, hx5, small1000 (by omega), add_upd hD0 s5, cx', _, _, rfl, hcx'.keep kp, upd_same, ?_⟩
        rw [take_snoc (M.chB_at se wh sts [] (i + 1) hi2)]
        exact (hcs5.keep kp).snoc (hcx'.keep kp)
      generalize M.chE se wh (sts.take i) [] = cs at hcx ckE ckN eN ln
      have kq : ∀ {cs2 : List Nat} {Gq : Hp} {b : Addr}, M.nxC se wh cs st = cs2 → ChAt C Gq cs2 b → ChAt C Gq (M.chE se wh (sts.take (i + 1)) []) b := by
        intro cs2 Gq b e h
        rw [eN, e]
        exact h
      have z0 : ∀ {y0 : V} {ys : List V}, atI (y0 :: ys) (0 : Int) = some y0 := fun {y0 ys} => by exact atI_nat (xs := y0 :: ys) (j := 0) rfl
      cases st with
      | join most =>
        unfold WP.StepAt at hat
        obtain ⟨t, rfl, ht⟩ := hat
        refine ⟨_, rfl, t, _, _, _, rfl, rfl, SqT.of ht, z0, rfl, _, rfl, ?_⟩
        rw [decide_eq_true rfl]
        refine iteT ⟨line2.2.2.2, fun e1 f1 => fun x1 dx1 hx1 hdx1 ne1 => made_ch (cs := []) hx1 hdx1 ne1 (.inr upd_same) cuts0 fun G5 s5 hc5 => ⟨rfl, ?_⟩⟩
        have s6 := (of_upd (o := .tup []) f1).trans s5
        exact kk _ _ ⟨s4.trans s6, x1, rfl, kq rfl hc5, s6 _ _ hx4, hcs.mono s6⟩
      | tunnel wi most tw =>
        unfold WP.StepAt at hat
        obtain ⟨t, ai, rfl, ht, _⟩ := hat
        refine ⟨_, rfl, t, _, _, _, rfl, rfl, SqT.of ht, z0, rfl, _, rfl, ?_⟩
        rw [decide_eq_false nks.2.2.2.2.2.1]
        refine iteF ⟨_, rfl, t, _, _, _, rfl, rfl, SqT.of ht, z0, rfl, _, rfl, ?_⟩
        rw [decide_eq_false nks.2.2.2.2.2.2.1]
        exact iteF (iteF (kk _ _ ⟨s4, cx, rfl, kq rfl hcx, hx4, hcs⟩))
      | road size ts lw =>
        unfold WP.StepAt at hat
        unfold M.Step.fine at hfs
        obtain ⟨t, rfl, ht⟩ := hat
        refine ⟨_, rfl, t, _, _, _, rfl, rfl, SqT.of ht, z0, rfl, _, rfl, ?_⟩
        rw [decide_eq_false nks.2.2.2.2.1]
        refine iteF ⟨_, rfl, t, _, _, _, rfl, rfl, SqT.of ht, z0, rfl, _, rfl, ?_⟩
        rw [decide_eq_true rfl]
        refine iteT ⟨_, rfl, _, rfl, t, se, ts, lw, size, rfl, ht, rfl, _, rfl, ?_⟩
        rw [word_cut]
        by_cases c : se = false ∧ lw = .cut
        · rw [decide_eq_true c]
          have en : M.nxC se wh cs (.road size ts lw) = N.add cs [size - wh] := by
            unfold M.nxC
            dsimp only
            rw [if_pos c]
          rw [en] at ckN
          have c1 : Cuts [size - wh] := ⟨⟨by omega, (fun d hd => by cases hd), trivial⟩, fun d hd => by rw [List.mem_singleton.mp hd]; omega, by simp⟩
          have i1 : atI [V.str "road", V.int (size : Int), V.str (WP.sdS ts), V.str (WP.lwS lw)] (1 : Int) = some (.int (size : Int)) := by exact atI_nat (j := 1) rfl
          have et : [V.int ((size : Int) - (wh : Int))] = ni [size - wh] := by
            show _ = [V.int ((size - wh : Nat) : Int)]
            rw [show ((size - wh : Nat) : Int) = (size : Int) - (wh : Int) by omega]
          refine iteT ⟨_, rfl, _, rfl, t, _, _, _, rfl, rfl, SqT.of ht, i1, _, rfl, a, CW, dh, fh, _, rfl, s4 _ _ v1, TW.cl, TW.nH, v2, _, _, rfl, rfl, line2.2.2.1, fun e1 f1 => fun x1 dx1 hx1 hdx1 ne1 => made_ch (cs := [size - wh]) hx1 hdx1 ne1 (.inr (by rw [← et]; exact upd_same)) c1 fun G5 s5 hc5 => ⟨rfl, ?_⟩⟩
          have s6 := (of_upd (o := .tup [V.int ((size : Int) - (wh : Int))]) f1).trans s5
          have hcx6 := hcx.mono s6
          refine ⟨cx, x1, rfl, rfl, ch_isC hcx6, ch_isC hc5, cx, x1, cs, [size - wh], rfl, hcx6, hc5, ck_cuts ckE, c1, ?_, fun x2 G6 s7 hc6 => ⟨x2, rfl, kk _ _ ⟨(s4.trans s6).trans s7, x2, rfl, kq en hc6, (s6.trans s7) _ _ hx4, hcs.mono (s6.trans s7)⟩⟩⟩
          have := List.length_take_le i sts
          simp at ln
          show cs.length + 1 ≤ 1000
          omega
        · rw [decide_eq_false c]
          have en : M.nxC se wh cs (.road size ts lw) = cs := by
            unfold M.nxC
            dsimp only
            rw [if_neg c]
          exact iteF (kk _ _ ⟨s4, cx, rfl, kq en hcx, hx4, hcs⟩)
    · rintro σ G ⟨s4, cx, xs, q4, rfl, hcx, hx4, hcs⟩
      rw [il, List.take_of_length_le (by rw [M.chB_len]; exact Nat.le_refl _)] at hcs
      exact ⟨_, rfl, k D xs G s4 hD0 hx4 hcs⟩
end
end CP

end
section
set_option autoImplicit false
set_option Elab.async false
set_option linter.all false
set_option maxRecDepth 100000
set_option maxHeartbeats 4000000
/-! ## gates, by depth -/
namespace M
def Step.dep : Step → Nat
  | .tunnel w _ _ => w.depth
  | .road _ _ _ => 0
  | .join _ => 0
theorem deep_cons : ∀ (s : Step) (r : List Step), Step.deepest (s :: r) = max (Step.dep s) (Step.deepest r)
  | .tunnel w a b, r => by
    conv => lhs; unfold Step.deepest
    rfl
  | .road a b c, r => by
    conv => lhs; unfold Step.deepest
    exact (Nat.zero_max _).symm
  | .join a, r => by
    conv => lhs; unfold Step.deepest
    exact (Nat.zero_max _).symm
theorem dep_le : ∀ {s : List Step} {i : Nat} {x : Step}, s[i]? = some x → Step.dep x ≤ Step.deepest s
  | [], i, x, h => by cases h
  | y :: r, 0, x, h => by
    have e : y = x := Option.some.inj h
    rw [deep_cons, e]
    omega
  | y :: r, i + 1, x, h => by
    have := dep_le (s := r) (i := i) (x := x) h
    rw [deep_cons]
    omega
theorem depth_pos (wy : Way) : 1 ≤ wy.depth := by
  obtain ⟨h, s⟩ := wy
  unfold Way.depth
  omega
theorem tun_app (h ih : Nat) (t : TW) (cs : List Nat) (l m : List Gate) : tunG h ih t cs (l ++ m) = tunG h ih t cs l ++ tunG h ih t cs m := by
  unfold tunG
  rw [List.flatMap_append]
theorem chB_last (se : Bool) (h : Nat) : ∀ (s : List Step) (cs : List Nat), ∃ X, chB se h s cs = X ++ [chE se h s cs]
  | [], cs => ⟨[], rfl⟩
  | x :: s, cs => by
    obtain ⟨X, e⟩ := chB_last se h s (nxC se h cs x)
    exact ⟨cs :: X, by show cs :: chB se h s (nxC se h cs x) = _; rw [e]; rfl⟩
theorem tun_mem {h ih : Nat} {t : TW} {cs : List Nat} {l : List Gate} {g : Gate} (m : g ∈ tunG h ih t cs l) : ∃ g0 ∈ l, g.place = g0.place := by
  unfold tunG at m
  obtain ⟨g0, h0, h1⟩ := List.mem_flatMap.mp m
  unfold tunG1 at h1
  split at h1
  · exact ⟨g0, h0, by rw [List.mem_singleton.mp h1]⟩
  · cases h1
theorem most_mem {m : Nat} {cs : List Nat} {g : Gate} (h : g ∈ mostG m cs) : g.place = [] := by
  unfold mostG at h
  split at h
  · cases h
  · rw [List.mem_singleton.mp h]
theorem road_mem {se : Bool} {h size : Nat} {ts : Bool} {lw : LW} {cs : List Nat} {g : Gate} (m : g ∈ roadG se h size ts lw cs) : g.place = [] := by
  unfold roadG at m
  split at m
  · cases m
  · rw [List.mem_singleton.mp m]
mutual
theorem Way.plen (se : Bool) : ∀ (w : Way), ∀ g ∈ Way.gates se w, g.place.length ≤ w.depth
  | .mk h s, g, m => by
    unfold Way.gates at m
    unfold Way.depth
    exact Step.plenAll se h s 0 [] g m
theorem Step.plenAll (se : Bool) (h : Nat) : ∀ (s : List Step) (i : Nat) (cs : List Nat), ∀ g ∈ Step.gatesAll se h s i cs, g.place.length ≤ 1 + Step.deepest s
  | [], i, cs, g, m => by
    unfold Step.gatesAll at m
    cases m
  | s :: r, i, cs, g, m => by
    rw [gatesAll_cons] at m
    rw [deep_cons]
    rcases List.mem_append.mp m with m | m
    · obtain ⟨g0, m0, rfl⟩ := List.mem_map.mp m
      have := Step.plen se h s cs g0 m0
      show g0.place.length + 1 ≤ _
      omega
    · have := Step.plenAll se h r (i + 1) _ g m
      omega
theorem Step.plen (se : Bool) (h : Nat) : ∀ (s : Step) (cs : List Nat), ∀ g ∈ Step.gates se h s cs, g.place.length ≤ Step.dep s
  | .road size ts lw, cs, g, m => by
    unfold Step.gates at m
    rw [road_mem m]
    exact Nat.zero_le _
  | .join most, cs, g, m => by
    unfold Step.gates at m
    rw [most_mem m]
    exact Nat.zero_le _
  | .tunnel w most t, cs, g, m => by
    unfold Step.gates at m
    obtain ⟨g0, m0, e⟩ := tun_mem m
    rw [e]
    unfold Step.dep
    rcases List.mem_append.mp m0 with m0 | m0
    · exact Way.plen se w g0 m0
    · rw [most_mem m0]
      exact Nat.zero_le _
end
end M
namespace CP
open PySem L2 G Y
abbrev sTunG : Stmt := S.top 63
abbrev sGAt : Stmt := S.top 59
abbrev sGates : Stmt := S.top 55
section
variable {α : Type}
def g11 : List α → List α → List α
  | [a], [c] => [a, c]
  | _, _ => []
end
theorem rel11 {vs : List V} {us : List Value} {zs : List V} {ws : List Value} (r : Vals vs us) (rz : Vals zs ws) : Vals (g11 vs zs) (g11 us ws) := by
  cases r with
  | nil => exact .nil
  | cons r1 r => cases r with
    | nil => cases rz with
      | nil => exact .nil
      | cons z1 rz => cases rz with
        | nil => exact .cons r1 (.cons z1 .nil)
        | cons _ _ => exact .nil
    | cons _ _ => cases rz <;> exact .nil
theorem CsAt.last {C : Addr} {H : Hp} {c : List Nat} : ∀ {l : List (List Nat)} {xs : List V}, CsAt C H (l ++ [c]) xs → ∃ r a, xs = r ++ [.ref a] ∧ ChAt C H c a
  | [], xs, h => by
    cases h with
    | cons e h2 =>
      cases h2
      exact ⟨[], _, rfl, e⟩
  | x :: l, xs, h => by
    cases h with
    | cons e h2 =>
      obtain ⟨r, a, rfl, h3⟩ := CsAt.last (l := l) h2
      exact ⟨_ :: r, a, rfl, h3⟩
section
variable {P : Program} {w : World} {K : PySem.W.Frag} {mg : Str → Option Value} {base : Heap} {C CW : Addr}
/-- a def called with one argument and one keyword -/
structure Dg (P : Program) (w : World) (K : PySem.W.Frag) (mg : Str → Option Value) (base : Heap) (k : Nat) (x : Str) (ps ks : List Str) (sp : Sp) : Prop where
  ex : ∃ (f : Addr) (fd : FuncData), FnOk P w K mg base CX0 k f fd ps sp ∧ mg x = some (.ref f) ∧ PySem.W.keepIn K (.ref f) = true ∧ KBinds K fd ps ks g11 g11
def spGates (CW : Addr) (n : Nat) : Sp := fun vs H Q _ => ∃ (a : Addr) (se : Bool) (wy : M.Way), vs = [.ref a, .bl se] ∧ WP.WayAt CW H wy a ∧ M.Way.fine wy ∧ wy.depth ≤ n ∧ ∀ D xs H', Same H H' → H D = none → H' D = some (.lst xs) → GsAt H' (M.Way.gates se wy) xs → Q (.ref D) H'
def spTunG (C CW : Addr) (n : Nat) : Sp := fun vs H Q _ => ∃ (t a ai : Addr) (h : Nat) (se : Bool) (wi : M.Way) (most : Nat) (tw : M.TW) (cs : List Nat), vs = [.int (h : Int), .ref t, .ref a, .bl se] ∧ H t = some (.tup [.str "tunnel", .ref ai, .int (most : Int), .str (WP.twS tw)]) ∧ ChAt C H cs a ∧ WP.WayAt CW H wi ai ∧ M.Way.fine wi ∧ wi.depth ≤ n ∧ 1 ≤ most ∧
  ∀ D xs H', Same H H' → H D = none → H' D = some (.lst xs) → GsAt H' (M.tunG h wi.head tw cs (M.Way.gates se wi ++ M.mostG most (M.chE se wi.head wi.steps []))) xs → Q (.ref D) H'
def spGsAt (C CW : Addr) (n : Nat) : Sp := fun vs H Q _ => ∃ (v : V) (a : Addr) (h : Nat) (se : Bool) (st : M.Step) (cs : List Nat), vs = [.int (h : Int), v, .ref a, .bl se] ∧ WP.StepAt CW H st v ∧ M.Step.fine h st ∧ M.Step.dep st ≤ n ∧ ChAt C H cs a ∧ Cuts cs ∧
  ∀ D xs H', Same H H' → H D = none → H' D = some (.lst xs) → GsAt H' (M.Step.gates se h st cs) xs → Q (.ref D) H'
abbrev NTn : List Str := ["head", "tunnel", "chain", "sealed", "_", "inner", "most", "tells", "inside", "found", "place", "threshold", "answer", "stretch"]
theorem scTn : FnScope NTn ["head", "tunnel", "chain", "sealed"] (defScope sTunG) := ⟨rfl, rfl, rfl, by decide +kernel, rfl, by decide +kernel, by decide +kernel⟩
theorem fine_all {wy : M.Way} (h : wy.fine) : M.Step.fineAll wy.head wy.steps ∧ wy.steps.length ≤ 12 ∧ wy.size ≤ 40 := by
  obtain ⟨wh, s⟩ := wy
  unfold M.Way.fine at h
  refine ⟨h.2.2.1, h.2.1.2, ?_⟩
  unfold M.Way.size
  exact h.2.2.2.2
theorem ok_tung {k n : Nat} {f : Addr} {fd : FuncData} (F : Fun K "_tunnel_gates" "_tunnel_gates" sTunG f fd) (hk : 8 ≤ k) (B : Bn mg) (TW : WP.Wt K mg CW) (nP : ∃ t, mg "NOTHING_PASSES" = some (.int (-1) t)) (DW : Dg P w K mg base k "gates" ["way", "sealed"] ["sealed"] (spGates CW n)) (DM : Df P w K mg base 4 "_most_gates" ["most", "chain"] (spMostG C))
    (DC : Df P w K mg base 7 "chains_before" ["way", "sealed"] (spChB C CW)) (DL : Df P w K mg base 1 "_leaves_more" ["chain", "stretch"] (spLeaves C)) (DT : Df P w K mg base 1 "_turned" ["answer", "inner_head", "tells"] spTurnG) : FnOk P w K mg base CX0 (k + 1) f fd ["head", "tunnel", "chain", "sealed"] (spTunG C CW n) := by
  obtain ⟨fW, fdW, GW, gW, kW, bW⟩ := DW.ex
  obtain ⟨fM, fdM, GM, gM, kM, bM⟩ := DM.ex
  obtain ⟨fC, fdC, GC, gC, kC, bC⟩ := DC.ex
  obtain ⟨fL, fdL, GL, gL, kL, bL⟩ := DL.ex
  obtain ⟨fT, fdT, GT, gT, kT, bT⟩ := DT.ex
  obtain ⟨tnP, nP⟩ := nP
  refine F.ok scTn (fun vs H Q E h => ?_) (fun cdv A outer s H vs Q E hr h => ?_)
  · obtain ⟨t, a, ai, h, se, wi, most, tw, cs, rfl, _⟩ := h
    rfl
  · obtain ⟨t, a, ai, h, se, wi, most, tw, cs, rfl, ht, hc, hw, hf, hd, hm, kk⟩ := h
    refine ⟨_, pss_cons (ps_asg (pv 1) (pg_tup (by rfl) (pgs_cons (pg_name (i := 4) scTn.nd rfl (Or.inl rfl)) (pgs_cons (pg_name (i := 5) scTn.nd rfl (Or.inl rfl)) (pgs_cons (pg_name (i := 6) scTn.nd rfl (Or.inl rfl)) (pgs_cons (pg_name (i := 7) scTn.nd rfl (Or.inl rfl)) pgs_nil))))))
      (pss_cons (ps_set (i := 8) scTn.nd rfl (Or.inl rfl) (pe_op op_cat (pe_callK GW (hr.mono (by omega)) rfl gW kW bW pass0 (pa_cons (pv 5) pa_nil) (pk_cons (pv 3) pk_nil)) (pe_call GM (hr.mono (by omega)) rfl gM kM bM .nil pass0 (pa_cons (pv 6) (pa_cons (pe_ix ix_list (pe_call GC (hr.mono (by omega)) rfl gC kC bC .nil pass0 (pa_cons (pv 5) (pa_cons (pv 3) pa_nil))) (pe_un un_neg pe_int) (fun _ _ => rfl)) pa_nil)))))
      (pss_cons (ps_set (i := 9) scTn.nd rfl (Or.inl rfl) (pe_lst pa_nil))
      (pss_cons (ps_for PassesOwn.never rfl (pi_list (pv 8)) (pg_tup (by rfl) (pgs_cons (pg_name (i := 10) scTn.nd rfl (Or.inl rfl)) (pgs_cons (pg_name (i := 11) scTn.nd rfl (Or.inl rfl)) (pgs_cons (pg_name (i := 12) scTn.nd rfl (Or.inl rfl)) pgs_nil)))) (pss_cons (ps_set (i := 13) scTn.nd rfl (Or.inl rfl) (pe_op op_sub (pv 11) (pv 0)))
      (pss_one (ps_if (pt_val (pe_call GL (hr.mono (by omega)) rfl gL kL bL .nil pass0 (pa_cons (pv 2) (pa_cons (pv 13) pa_nil)))) (pss_one (ps_expr (pe_bm PySem.F.plainAttrs_list PySem.F.slot_list_append PySem.F.type_list_append mt_append (pv 9) (pa_cons (pe_tup (pa_cons (pv 10) (pa_cons (pe_callB (call_max2 rfl) (by rfl) B.max (by decide +kernel) (pa_cons (pv 13) (pa_cons (pe_glob (v := .int (-1)) rfl nP ⟨_, rfl⟩) pa_nil))) (pa_cons (pe_call GT (hr.mono (by omega)) rfl gT kT bT .nil pass0 (pa_cons (pv 12) (pa_cons (pe_fld (pv 5) rfl) (pa_cons (pv 7) pa_nil)))) pa_nil)))) pa_nil)))) (pss_nil)))))
      (pss_one (ps_ret (pv 9)))))), ?_⟩
    obtain ⟨dh, fh, v1, v2⟩ := WP.head_fld hw
    obtain ⟨fa, fl, fz⟩ := fine_all hf
    have ckE : M.Ck (M.chE se wi.head wi.steps []) := M.ck_all M.ck_nil fa
    refine ⟨_, rfl, t, _, rfl, SqT.of ht, rfl, _, _, rfl, _, _, rfl, _, _, rfl, _, _, rfl, rfl, ?_⟩
    dsimp only
    refine set_then (i := 8) ⟨_, rfl, _, rfl, ai, se, wi, rfl, hw, hf, hd, fun D1 xs1 H1 s1 n1 e1 g1 => ?_⟩
    refine ⟨_, rfl, _, rfl, _, rfl, ai, se, wi, rfl, hw.mono s1, hf, fun D2 xs2 H2 s2 n2 e2 g2 => ?_⟩
    obtain ⟨X, eX⟩ := M.chB_last se wi.head wi.steps []
    rw [eX] at g2
    obtain ⟨r2, a2, rfl, hc2⟩ := g2.last
    refine ⟨_, rfl, D2, _, _, _, rfl, rfl, SqL.of e2, atI_last _ _, ?_⟩
    refine ⟨a2, most, _, rfl, hc2, ck_cuts ckE, hm, fun D3 xs3 H3 s3 n3 e3 g3 => ?_⟩
    have s13 := s2.trans s3
    have l1 := g1.len
    have l3 := g3.len
    have m1 := M.Way.gates_len se wi
    have m3 := M.most_len most (M.chE se wi.head wi.steps [])
    refine ⟨D1, D3, xs1, xs3, rfl, rfl, s13 _ _ e1, e3, Nat.le_trans (show xs1.length + xs3.length ≤ 1000 by omega) (by decide), fun D4 n4 => ?_⟩
    have s4 := of_upd (o := .lst (xs1 ++ xs3)) n4
    have s14 := s13.trans s4
    have s04 := s1.trans s14
    have gA : GsAt (upd H3 D4 (.lst (xs1 ++ xs3))) (M.Way.gates se wi ++ M.mostG most (M.chE se wi.head wi.steps [])) (xs1 ++ xs3) := (g1.mono s14).app (g3.mono s4)
    have lA : (M.Way.gates se wi ++ M.mostG most (M.chE se wi.head wi.steps [])).length ≤ 81 := by
      rw [List.length_append]
      omega
    have lX : (xs1 ++ xs3).length = (M.Way.gates se wi ++ M.mostG most (M.chE se wi.head wi.steps [])).length := gA.len
    generalize M.Way.gates se wi ++ M.mostG most (M.chE se wi.head wi.steps []) = gs at gA kk lA lX
    generalize xs1 ++ xs3 = xs at s4 s14 s04 gA lX
    have eI : upd H3 D4 (.lst xs) D4 = some (.lst xs) := upd_same
    generalize upd H3 D4 (.lst xs) = H4 at s4 s14 s04 gA eI
    refine set_then (i := 9) ⟨line2.2.2.2, fun D hD => ?_⟩
    have nD : H D = none := s04.free hD
    have nE : D4 ≠ D := fun z => by
      rw [z, hD] at eI
      cases eI
    have s5 := of_upd (o := .lst []) hD
    refine ⟨_, rfl, D4, rfl, ⟨_, SqL.of (s5 _ _ eI)⟩, ?_⟩
    refine for_it walk_list (fun i σ G => Same H G ∧ G D4 = some (.lst xs) ∧ GsAt G gs xs ∧ ∃ (ys : List V) (p q r o : Option V), σ = [some (.int (h : Int)), some (.ref t), some (.ref a), some (.bl se), some (.str "tunnel"), some (.ref ai), some (.int (most : Int)), some (.str (WP.twS tw)), some (.ref D4), some (.ref D), p, q, r, o] ∧ G D = some (.lst ys) ∧ GsAt G (M.tunG h wi.head tw cs (gs.take i)) ys)
      ⟨s04.trans s5, s5 _ _ eI, gA.mono s5, [], _, _, _, _, rfl, upd_same, .nil⟩ (fun i σ G _ z => SqL.of z.2.1) ?_ ?_
    · rintro i v σ G G' hi ⟨s6, e6, gG, ys, p, q, r, o, rfl, eD, gD⟩ ⟨rfl, hx⟩
      obtain ⟨g, hg, t1, q1, rfl, f1, f2⟩ := gG.get hx
      have eT : M.tunG h wi.head tw cs (gs.take (i + 1)) = M.tunG h wi.head tw cs (gs.take i) ++ M.tunG1 h wi.head tw cs g := by
        rw [take_snoc hg, M.tun_app]
        unfold M.tunG
        rw [List.flatMap_singleton]
      have lD := gD.len
      have lT := M.tun_len h wi.head tw cs (gs.take i)
      have lK := List.length_take_le i gs
      refine ⟨t1, _, rfl, SqT.of f1, rfl, _, _, rfl, _, _, rfl, _, _, rfl, rfl, ?_⟩
      refine set_then (i := 13) ⟨_, rfl, _, rfl, _, _, rfl, rfl, ?_⟩
      refine ⟨_, rfl, _, rfl, a, g.thr - (h : Int), cs, rfl, hc.mono s6, _, rfl, ?_⟩
      cases c2 : M.leaves cs (g.thr - (h : Int)) with
      | false =>
        refine iteF ⟨s6, e6, gG, ys, _, _, _, _, rfl, eD, ?_⟩
        rw [eT]
        unfold M.tunG1
        rw [if_neg (by rw [c2]; decide), List.append_nil]
        exact gD
      | true =>
        refine iteT ⟨_, rfl, .inl ⟨rfl, _, SqL.of eD⟩, ?_⟩
        refine ⟨_, rfl, _, rfl, _, _, rfl, ?_⟩
        have emx : (if (-1 : Int) > g.thr - (h : Int) then (-1 : Int) else g.thr - (h : Int)) = max (g.thr - (h : Int)) (-1) := by
          split <;> omega
        rw [emx]
        refine ⟨_, rfl, _, rfl, ai, CW, dh, fh, _, rfl, s6 _ _ v1, TW.cl, TW.nH, v2, _, rfl, g.ans, wi.head, tw, rfl, ?_⟩
        refine ⟨line2.2.1, fun t2 ht2 => ?_⟩
        have g2 := of_upd (o := .tup [V.ref q1, .int (max (g.thr - (h : Int)) (-1)), ansV (M.turnG g.ans wi.head tw)]) ht2
        have eD2 := g2 _ _ eD
        have kp := put_keepT (o := .lst (ys ++ [.ref t2])) eD2
        refine ⟨D, ys, _, rfl, rfl, eD2, small1000 (by omega), add_upd nD (s6.trans g2), ?_, (gG.mono g2).keep kp, _, _, _, _, _, rfl, upd_same, ?_⟩
        · rw [upd_ne nE]
          exact g2 _ _ e6
        · rw [eT]
          unfold M.tunG1
          rw [if_pos c2]
          exact ((gD.mono g2).keep kp).snoc ⟨t2, q1, rfl, kp _ _ (fun _ z => by cases z) upd_same, kp _ _ (fun _ z => by cases z) (g2 _ _ f2)⟩
    · rintro σ G ⟨s6, e6, gG, ys, p, q, r, o, rfl, eD, gD⟩
      rw [lX, List.take_length] at gD
      exact ⟨_, rfl, kk D ys G s6 nD eD gD⟩
theorem scGa : FnScope ["head", "step", "chain", "sealed"] ["head", "step", "chain", "sealed"] (defScope sGAt) := ⟨rfl, rfl, rfl, by decide +kernel, rfl, by decide +kernel, by decide +kernel⟩
theorem ok_gsat {k n : Nat} {f : Addr} {fd : FuncData} (F : Fun K "_gates_at" "_gates_at" sGAt f fd) (hk : 4 ≤ k) (DR : Df P w K mg base 2 "_road_gates" ["head", "road", "chain", "sealed"] (spRoadG C)) (DM : Df P w K mg base 4 "_most_gates" ["most", "chain"] (spMostG C))
    (DU : Df P w K mg base k "_tunnel_gates" ["head", "tunnel", "chain", "sealed"] (spTunG C CW n)) : FnOk P w K mg base CX0 (k + 1) f fd ["head", "step", "chain", "sealed"] (spGsAt C CW n) := by
  obtain ⟨fR, fdR, GR, gR, kR, bR⟩ := DR.ex
  obtain ⟨fM, fdM, GM, gM, kM, bM⟩ := DM.ex
  obtain ⟨fU, fdU, GU, gU, kU, bU⟩ := DU.ex
  refine F.ok scGa (fun vs H Q E h => ?_) (fun cdv A outer s H vs Q E hr h => ?_)
  · obtain ⟨v, a, h, se, st, cs, rfl, _⟩ := h
    rfl
  · obtain ⟨v, a, h, se, st, cs, rfl, hat, hf, hd, hc, hl, kk⟩ := h
    refine ⟨_, pss_cons (ps_if (pt_cmpR (op_eq) (pe_ix ix_tup (pv 1) (pe_int) (fun _ _ => rfl)) (pe_str) (nomark _)) (pss_one (ps_ret (pe_call GR (hr.mono (by omega)) rfl gR kR bR .nil pass0 (pa_cons (pv 0) (pa_cons (pv 1) (pa_cons (pv 2) (pa_cons (pv 3) pa_nil))))))) (pss_nil))
      (pss_cons (ps_if (pt_cmpR (op_eq) (pe_ix ix_tup (pv 1) (pe_int) (fun _ _ => rfl)) (pe_str) (nomark _)) (pss_one (ps_ret (pe_call GM (hr.mono (by omega)) rfl gM kM bM .nil pass0 (pa_cons (pe_ix ix_tup (pv 1) (pe_int) (fun _ _ => rfl)) (pa_cons (pv 2) pa_nil))))) (pss_nil))
      (pss_one (ps_ret (pe_call GU (hr.mono (by omega)) rfl gU kU bU .nil pass0 (pa_cons (pv 0) (pa_cons (pv 1) (pa_cons (pv 2) (pa_cons (pv 3) pa_nil)))))))), ?_⟩
    have z0 : ∀ {y0 : V} {ys : List V}, atI (y0 :: ys) (0 : Int) = some y0 := fun {y0 ys} => by exact atI_nat (xs := y0 :: ys) (j := 0) rfl
    unfold M.Step.gates at kk
    cases st with
    | road size ts lw =>
      unfold WP.StepAt at hat
      obtain ⟨t, rfl, ht⟩ := hat
      refine ⟨_, rfl, t, _, _, _, rfl, rfl, SqT.of ht, z0, rfl, _, rfl, ?_⟩
      rw [decide_eq_true rfl]
      exact iteT ⟨_, rfl, _, rfl, _, rfl, _, rfl, t, a, h, size, se, ts, lw, cs, rfl, ht, hc, kk⟩
    | join most =>
      unfold WP.StepAt at hat
      unfold M.Step.fine at hf
      obtain ⟨t, rfl, ht⟩ := hat
      have i1 : atI [V.str "join", V.int (most : Int)] (1 : Int) = some (.int (most : Int)) := by exact atI_nat (j := 1) rfl
      refine ⟨_, rfl, t, _, _, _, rfl, rfl, SqT.of ht, z0, rfl, _, rfl, ?_⟩
      rw [decide_eq_false nks.2.2.2.2.2.2.2.1]
      refine iteF ⟨_, rfl, t, _, _, _, rfl, rfl, SqT.of ht, z0, rfl, _, rfl, ?_⟩
      rw [decide_eq_true rfl]
      exact iteT ⟨_, rfl, t, _, _, _, rfl, rfl, SqT.of ht, i1, _, rfl, a, most, cs, rfl, hc, hl, hf.1, kk⟩
    | tunnel wi most tw =>
      unfold WP.StepAt at hat
      unfold M.Step.fine at hf
      obtain ⟨t, ai, rfl, ht, hwi⟩ := hat
      refine ⟨_, rfl, t, _, _, _, rfl, rfl, SqT.of ht, z0, rfl, _, rfl, ?_⟩
      rw [decide_eq_false nks.2.2.2.2.2.2.1]
      refine iteF ⟨_, rfl, t, _, _, _, rfl, rfl, SqT.of ht, z0, rfl, _, rfl, ?_⟩
      rw [decide_eq_false nks.2.2.2.2.2.1]
      exact iteF ⟨_, rfl, _, rfl, _, rfl, _, rfl, t, a, ai, h, se, wi, most, tw, cs, rfl, ht, hc, hwi, hf.1, hd, hf.2.1, kk⟩
abbrev NGt : List Str := ["way", "sealed", "found", "chains", "position", "step", "place", "threshold", "answer"]
theorem scGt : FnScope NGt ["way", "sealed"] (defScope sGates) := ⟨rfl, rfl, rfl, by decide +kernel, rfl, by decide +kernel, by decide +kernel⟩
theorem ok_gates {k n : Nat} {f : Addr} {fd : FuncData} (F : Fun K "gates" "gates" sGates f fd) (hk : 7 ≤ k) (hn : n ≤ 10) (B : Bn mg) (TW : WP.Wt K mg CW) (DC : Df P w K mg base 7 "chains_before" ["way", "sealed"] (spChB C CW)) (DA : Df P w K mg base k "_gates_at" ["head", "step", "chain", "sealed"] (spGsAt C CW n)) :
    FnOk P w K mg base CX0 (k + 1) f fd ["way", "sealed"] (spGates CW (n + 1)) := by
  obtain ⟨fC, fdC, GC, gC, kC, bC⟩ := DC.ex
  obtain ⟨fA, fdA, GA, gA, kA, bA⟩ := DA.ex
  refine F.ok scGt (fun vs H Q E h => ?_) (fun cdv A outer s H vs Q E hr h => ?_)
  · obtain ⟨a, se, wy, rfl, _⟩ := h
    rfl
  · obtain ⟨a, se, wy, rfl, hw, hf, hd, kk⟩ := h
    refine ⟨_, pss_cons (ps_set (i := 2) scGt.nd rfl (Or.inl rfl) (pe_lst pa_nil))
      (pss_cons (ps_set (i := 3) scGt.nd rfl (Or.inl rfl) (pe_call GC (hr.mono (by omega)) rfl gC kC bC .nil pass0 (pa_cons (pv 0) (pa_cons (pv 1) pa_nil))))
      (pss_cons (ps_for PassesOwn.never rfl (WP.pi_et (by rfl) B.enum (pa_cons (pe_fld (pv 0) rfl) pa_nil)) (pg_tup (by rfl) (pgs_cons (pg_name (i := 4) scGt.nd rfl (Or.inl rfl)) (pgs_cons (pg_name (i := 5) scGt.nd rfl (Or.inl rfl)) pgs_nil))) (pss_one (ps_for PassesOwn.never rfl (pi_list (pe_call GA (hr.mono (by omega)) rfl gA kA bA .nil pass0 (pa_cons (pe_fld (pv 0) rfl) (pa_cons (pv 5) (pa_cons (pe_ix ix_list (pv 3) (pv 4) (fun _ _ => rfl)) (pa_cons (pv 1) pa_nil)))))) (pg_tup (by rfl) (pgs_cons (pg_name (i := 6) scGt.nd rfl (Or.inl rfl)) (pgs_cons (pg_name (i := 7) scGt.nd rfl (Or.inl rfl)) (pgs_cons (pg_name (i := 8) scGt.nd rfl (Or.inl rfl)) pgs_nil)))) (pss_one (ps_expr (pe_bm PySem.F.plainAttrs_list PySem.F.slot_list_append PySem.F.type_list_append mt_append (pv 2) (pa_cons (pe_tup (pa_cons (pe_tup (pa_cons (pv 4) (StX.pa_star (pv 6) pa_nil))) (pa_cons (pv 7) (pa_cons (pv 8) pa_nil)))) pa_nil)))))))
      (pss_one (ps_ret (pv 2))))), ?_⟩
    obtain ⟨dx, fs, t0, xs0, w1, w2, w3, w4⟩ := WP.steps_fld hw
    obtain ⟨dh, fh, v1, v2⟩ := WP.head_fld hw
    have gl := M.Way.gates_len se wy
    obtain ⟨fall, fl12, fz⟩ := fine_all hf
    obtain ⟨wh, sts⟩ := wy
    have ckE : ∀ i, M.Ck (M.chE se wh (sts.take i) []) := fun i => M.ck_all M.ck_nil (M.fine_take i fall)
    have il : xs0.length = sts.length := w4.len
    unfold M.Way.depth at hd
    unfold M.Way.gates at kk gl
    refine set_then (i := 2) ⟨line2.2.2.2, fun D hD => ?_⟩
    have s1 := of_upd (o := .lst []) hD
    have eD0 : upd H D (.lst []) D = some (.lst []) := upd_same
    refine set_then (i := 3) ⟨_, rfl, _, rfl, a, se, .mk wh sts, rfl, hw.mono s1, hf, fun D2 xs2 H2 s2 n2 e2 g2 => ?_⟩
    have nE : D2 ≠ D := fun z => by
      rw [z, eD0] at n2
      cases n2
    have s3 := s1.trans s2
    refine ⟨_, rfl, a, CW, dx, fs, _, rfl, s3 _ _ w1, TW.cl, TW.nS, w2, t0, xs0, rfl, SqT.of (s3 _ _ w3), ?_⟩
    refine for_it WP.walk_et (fun i σ G => Same H G ∧ G D2 = some (.lst xs2) ∧ CsAt C G (M.chB se wh sts []) xs2 ∧ ∃ (ys : List V) (done : List M.Gate) (p q r o u : Option V), σ = [some (.ref a), some (.bl se), some (.ref D), some (.ref D2), p, q, r, o, u] ∧ G D = some (.lst ys) ∧ GsAt G done ys ∧ M.Step.gatesAll se wh sts 0 [] = done ++ M.Step.gatesAll se wh (sts.drop i) i (M.chE se wh (sts.take i) []))
      ⟨s3, e2, g2, [], [], _, _, _, _, _, rfl, s2 _ _ eD0, .nil, rfl⟩ (fun i σ G _ z => SqT.of (z.1 _ _ w3)) ?_ ?_
    · rintro i v σ G G' hi ⟨s4, e4, c4, ys, done, p, q, r, o, u, rfl, eD, gD, eq⟩ ⟨tt, x1, x2, rfl, nt, rfl, e1, hx⟩
      cases e1
      obtain ⟨st, hst, hat⟩ := w4.get hx
      have hst2 : sts[i]? = some st := hst
      have hi2 := (List.getElem?_eq_some_iff.mp hst2).1
      have hat : WP.StepAt CW H st x2 := hat
      have g5 := of_upd (o := .tup [V.int (i : Nat), x2]) nt
      have s5 : Same H (upd G tt (.tup [V.int (i : Nat), x2])) := s4.trans g5
      refine ⟨tt, _, rfl, SqT.of upd_same, rfl, _, _, rfl, _, _, rfl, rfl, ?_⟩
      have ed : sts.drop i = st :: sts.drop (i + 1) := by
        obtain ⟨hi3, ex⟩ := List.getElem?_eq_some_iff.mp hst2
        rw [← ex, ← List.drop_eq_getElem_cons hi3]
      have eC : M.chE se wh (sts.take (i + 1)) [] = M.nxC se wh (M.chE se wh (sts.take i) []) st := by
        rw [take_snoc hst2, M.chE_snoc]
      rw [ed, M.gatesAll_cons, ← eC] at eq
      obtain ⟨ac, hac, hch⟩ := c4.get (M.chB_at se wh sts [] i (by omega))
      have c5 := c4.mono g5
      have gD5 := gD.mono g5
      have e5 := g5 _ _ e4
      have eD5 := g5 _ _ eD
      have ch5 := hch.mono g5
      have dl := M.dep_le hst2
      have fst := WP.fine_get fall hst2
      generalize upd G tt (.tup [V.int (i : Nat), x2]) = G5 at s5 c5 gD5 e5 eD5 ch5
      refine ⟨_, rfl, a, CW, dh, fh, _, rfl, s5 _ _ v1, TW.cl, TW.nH, v2, _, rfl, _, rfl, _, rfl, D2, _, _, _, rfl, rfl, SqL.of e5, atI_nat hac, _, rfl, ?_⟩
      refine ⟨x2, ac, wh, se, st, _, rfl, hat.mono s5, fst, by omega, ch5, ck_cuts (ckE i), fun E xsE G6 s6 nE6 eE gE => ?_⟩
      have pl := M.Step.plen se wh st (M.chE se wh (sts.take i) [])
      have lt : done.length + (M.Step.gates se wh st (M.chE se wh (sts.take i) [])).length ≤ 80 := by
        have := congrArg List.length eq
        rw [List.length_append, List.length_append, List.length_map] at this
        omega
      generalize M.Step.gates se wh st (M.chE se wh (sts.take i) []) = gs at gE pl lt eq
      have lE := gE.len
      have nED : E ≠ D := fun z => by
        rw [z, eD5] at nE6
        cases nE6
      refine ⟨E, rfl, ⟨_, SqL.of eE⟩, ?_⟩
      refine for_it walk_list (fun j σ G => Same H G ∧ G D2 = some (.lst xs2) ∧ CsAt C G (M.chB se wh sts []) xs2 ∧ G E = some (.lst xsE) ∧ GsAt G gs xsE ∧ ∃ (ys : List V) (r o u : Option V), σ = [some (.ref a), some (.bl se), some (.ref D), some (.ref D2), some (.int ((i : Nat) : Int)), some x2, r, o, u] ∧ G D = some (.lst ys) ∧ GsAt G (done ++ (gs.take j).map (M.at_ i)) ys)
        ⟨s5.trans s6, s6 _ _ e5, c5.mono s6, eE, gE, ys, _, _, _, rfl, s6 _ _ eD5, by rw [List.take_zero, List.map_nil, List.append_nil]; exact gD5.mono s6⟩ (fun j σ G _ z => SqL.of z.2.2.2.1) ?_ ?_
      · rintro j v σ G7 G' hj ⟨s7, e7, c7, eE7, gE7, ys7, r, o, u, rfl, eD7, gD7⟩ ⟨rfl, hx7⟩
        obtain ⟨g, hg, t1, q1, rfl, f1, f2⟩ := gE7.get hx7
        have lD := gD7.len
        rw [List.length_append, List.length_map] at lD
        have lK := List.length_take_le j gs
        have pg := pl g (List.mem_of_getElem? hg)
        refine ⟨t1, _, rfl, SqT.of f1, rfl, _, _, rfl, _, _, rfl, _, _, rfl, rfl, ?_⟩
        refine ⟨_, rfl, .inl ⟨rfl, _, SqL.of eD7⟩, ?_⟩
        refine ⟨_, rfl, _, rfl, q1, ni g.place, rfl, .inl (SqT.of f2), small1000 ?_, fun p1 hp1 => ?_⟩
        · simp [ni]
          omega
        have ep : ∀ (Gz : Hp) (z : List V), upd Gz p1 (.tup z) p1 = some (.tup z) := fun Gz z => upd_same
        have m1 := of_upd (o := .tup (V.int ((i : Nat) : Int) :: (ni g.place ++ []))) hp1
        refine ⟨_, rfl, _, rfl, line2.2.1, fun t2 ht2 => ?_⟩
        have m2 := of_upd (o := .tup [V.ref p1, .int g.thr, ansV g.ans]) ht2
        have m12 := m1.trans m2
        have eD8 := m12 _ _ eD7
        have kp := put_keepT (o := .lst (ys7 ++ [.ref t2])) eD8
        refine ⟨D, ys7, _, rfl, rfl, eD8, small1000 (by omega), add_upd hD (s7.trans m12), ?_, (c7.mono m12).keep kp, ?_, (gE7.mono m12).keep kp, _, _, _, _, rfl, upd_same, ?_⟩
        · rw [upd_ne nE]
          exact m12 _ _ e7
        · rw [upd_ne nED]
          exact m12 _ _ eE7
        · rw [take_snoc hg, List.map_append, ← List.append_assoc]
          refine ((gD7.mono m12).keep kp).snoc ⟨t2, p1, rfl, kp _ _ (fun _ z => by cases z) upd_same, kp _ _ (fun _ z => by cases z) ?_⟩
          have := m2 _ _ (ep _ (V.int ((i : Nat) : Int) :: (ni g.place ++ [])))
          exact this.trans (by rw [List.append_nil]; rfl)
      · rintro σ G7 ⟨s7, e7, c7, eE7, gE7, ys7, r, o, u, rfl, eD7, gD7⟩
        rw [lE, List.take_length] at gD7
        refine ⟨s7, e7, c7, ys7, _, _, _, _, _, _, rfl, eD7, gD7, ?_⟩
        rw [eq, List.append_assoc]
    · rintro σ G ⟨s4, e4, c4, ys, done, p, q, r, o, u, rfl, eD, gD, eq⟩
      have e0 : sts.drop xs0.length = [] := by
        rw [il]
        exact List.drop_length
      rw [e0] at eq
      unfold M.Step.gatesAll at eq
      rw [List.append_nil] at eq
      refine ⟨_, rfl, kk D ys G s4 hD eD ?_⟩
      conv => arg 2; unfold M.Step.gatesAll
      rw [eq]
      exact gD
end
end CP

end
section
set_option autoImplicit false
set_option Elab.async false
set_option linter.all false
set_option maxRecDepth 100000
set_option maxHeartbeats 4000000
/-! ## a tuple, the other way round -/
namespace QR
open PySem PySem.Spec PyProof.Rows L2
section
variable {prog : Program} {w : World} {A : Around} {E : Value → Shared → Prop} {s : Shared}
theorem applied_back {sl : Addr} {vs : Value} {n : Nat} {Q : Int × Int × Nat → Shared → Prop} (hs : s.heap.IsSliceOf sl .none .none vs) (ps : IsPart vs (some (-1)))
    (h : Q ((n : Int) - 1, -1, n) s) : wpAny (model prog w) A (Builtin.Slice.sliceApplied (.ref sl) (pure (n : Int))) Q E s := by
  obtain ⟨os, hos, hcs, hds⟩ := id hs
  unfold Builtin.Slice.sliceApplied Builtin.Slice.sliceFields
  refine wpAny_bind (wpAny_bind (wpAny_field hos hds (x := .none) rfl (wpAny_bind (wpAny_field hos hds (x := .none) rfl (wpAny_bind (wpAny_field hos hds (x := vs) rfl (wpAny_pure ?_)))))))
  refine wpAny_bind (HT.slicePart_ ps ?_)
  show wpAny _ _ (if ((-1 : Int) == 0) = true then _ else _) _ _ s
  rw [if_neg (by decide)]
  refine wpAny_bind (HT.slicePart_ .none (wpAny_bind (HT.slicePart_ .none (wpAny_bind (wpAny_pure ?_)))))
  have e1 : Builtin.Slice.sliceAdjust none none (-1) (n : Int) = ((n : Int) - 1, -1) := by
    unfold Builtin.Slice.sliceAdjust
    simp
  have e2 : Builtin.Slice.slicePlaces ((n : Int) - 1) (-1) (-1) = n := by
    unfold Builtin.Slice.slicePlaces
    simp
    omega
  show wpAny _ _ (match Builtin.Slice.sliceAdjust none none (-1) (n : Int) with | (lo, hi) => pure (lo, (-1 : Int), Builtin.Slice.slicePlaces lo hi (-1))) _ _ s
  rw [e1]
  show wpAny _ _ (pure ((n : Int) - 1, (-1 : Int), Builtin.Slice.slicePlaces ((n : Int) - 1) (-1) (-1))) _ _ s
  rw [e2]
  exact wpAny_pure h
theorem fm_congr {f g : Nat → Option Value} : ∀ {l : List Nat}, (∀ m ∈ l, f m = g m) → l.filterMap f = l.filterMap g
  | [], _ => rfl
  | x :: l, h => by
    have e := fm_congr (f := f) (g := g) (l := l) fun m hm => h m (List.mem_cons_of_mem _ hm)
    rw [List.filterMap_cons, List.filterMap_cons, h x List.mem_cons_self, e]
theorem pick_back (xs : Array Value) : ((List.range xs.size).filterMap fun (m : Nat) => xs[(((xs.size : Int) - 1) + (m : Int) * (-1)).toNat]?).toArray = xs.toList.reverse.toArray := by
  have e : (List.range xs.size).filterMap (fun (m : Nat) => xs[(((xs.size : Int) - 1) + (m : Int) * (-1)).toNat]?) = ((List.range xs.size).map fun k => xs.size - 1 - k).filterMap (xs[·]?) := by
    rw [List.filterMap_map]
    refine fm_congr fun m hm => ?_
    have := List.mem_range.mp hm
    show xs[_]? = xs[xs.size - 1 - m]?
    rw [show (((xs.size : Int) - 1) + (m : Int) * (-1)).toNat = xs.size - 1 - m by omega]
  rw [e, PySem.W.krv_range, List.filterMap_reverse, PySem.W.krv_all]
theorem get_back {t sl : Addr} {items : Array Value} {vs : Value} {Q : Value → Shared → Prop} (ht : IsTup s.heap t items) (hs : s.heap.IsSliceOf sl .none .none vs) (ps : IsPart vs (some (-1)))
    (h : Q (.ref s.heap.objs.size) { s with heap := s.heap.push { cls := .type "tuple", data := .seq items.toList.reverse.toArray } }) (hsz : items.size ≤ sizeLine) : wpAny (model prog w) A (getItem (.ref t) (.ref sl)) Q E s := by
  have fits : sizeOk (.seq items.toList.reverse.toArray) := by
    show items.toList.reverse.toArray.size ≤ sizeLine
    simpa using hsz
  obtain ⟨os, hos, hcs, hds⟩ := id hs
  have hT : s.TypeIs (.ref sl) "slice" := ⟨os, hos, hcs⟩
  unfold getItem
  try with_reducible refine wpAny_holding ?_
  first | refine wpAny_bind (wpAny_pure ?_) | skip
  refine wpAny_bind (wpAny_sequenceKey ht.typeIs (by decide) (wpAny_bind (wpAny_callSpecial?_slot (name := Str.ofString "__getitem__") ht.typeIs PyProof.Rows.slot_tuple_getitem
    (wpAny_call_entry PyProof.Rows.slot_tuple_getitem ht.typeIs PyProof.Rows.entry_tuple_getitem ?_ (PyProof.Rows.args_tuple_getitem _ _)))))
  show wpAny _ _ (Builtin.Tuple.tupleItemsOf (.ref t) >>= _) _ _ s
  refine wpAny_bind (tupleItemsOf_ ht (wpAny_bind (wpAny_typeOf hT ?_)))
  rw [if_pos (by decide)]
  refine wpAny_bind (applied_back hs ps ?_)
  have no : ¬ ((((items.size : Int) - 1) == 0 && (-1 : Int) == 1 && items.size == items.size) = true) := by simp
  show wpAny _ _ (if ((((items.size : Int) - 1) == 0 && (-1 : Int) == 1 && items.size == items.size) = true) then _ else _) _ _ s
  rw [if_neg no, pick_back]
  first
    | exact wpAny_bind (m := Builtin.Tuple.tupleExact _) (wpAny_newObj_type (wpAny_pure ⟨_, rfl, wpAny_pure h⟩) fits)
    | exact wpAny_bind (wpAny_bind (m := Builtin.Tuple.tupleExact _) (wpAny_newObj_type (wpAny_pure ⟨_, rfl, wpAny_pure h⟩) fits))
end
section
variable {X : Cx}
/-- t[::-1] of a tuple -/
def tRevT (K : PySem.W.Frag) (te : TE) : TE := fun σ H Q => te σ H fun x H1 => ∃ a xs, x = .ref a ∧ SqT K H1 a xs ∧ ∀ p, H1 p = none → Q (.ref p) (upd H1 p (.tup xs.reverse))
theorem pe_revT {e : Expr} {te : TE} {k : Nat} {p1 p2 p3 pos : Pos} (he : PE X e te) : PE X (.Subscript e (.Slice none none (some (.UnaryOp .USub (.Constant (.int 1) k p1) p2)) p3) pos) (tRevT X.K te) := by
  refine ⟨fun pins s σ H Q I h => Subscript_ (thn (he.run pins s σ H _ I h) fun v s1 ⟨x, H1, I1, r1, q1⟩ => ?_)⟩
  obtain ⟨a, xs, ex, hx, q⟩ := q1
  subst ex
  cases r1
  have st : PO X (some (.UnaryOp .USub (.Constant (.int 1) k p1) p2)) (tPart (tUn (rU fun i => .int (-i)) (tC (.int 1)))) := po_some (pe_un un_neg pe_int)
  refine wpAny_Slice (thn (po_none.run pins s1 σ H1 (fun o H2 => o = none ∧ H2 = H1) I1 ⟨rfl, rfl⟩) fun vl s2 hl => ?_)
  obtain ⟨l, H2, I2, pl, el, e2⟩ := hl
  subst el e2
  refine thn (po_none.run pins s2 σ H2 (fun o H3 => o = none ∧ H3 = H2) I2 ⟨rfl, rfl⟩) fun vu s3 hu => ?_
  obtain ⟨u, H3, I3, pu, eu, e3⟩ := hu
  subst eu e3
  refine thn (st.run pins s3 σ H3 (fun o H4 => o = some (-1) ∧ H4 = H3) I3 ⟨1, rfl, -1, rfl, rfl, rfl⟩) fun vs s4 hs4 => ?_
  obtain ⟨o, H4, I4, ps, eo, e4⟩ := hs4
  subst eo e4
  cases pl
  cases pu
  have I5 : Inv X pins σ H4 { s4 with heap := s4.heap.push { cls := .type "slice", data := .fields #[.none, .none, vs] } } := I4.kept (t' := s4.toks) fun b ob q => Heap.get?_push_of_some _ q
  obtain ⟨its, r, ht, hz⟩ := I5.tuple hx
  have hlen := r.length
  show wpAny (model X.prog X.w) X.A (subscriptTail e (.Slice none none (some (.UnaryOp .USub (.Constant (.int 1) k p1) p2)) p3) (.ref a) (.ref s4.heap.objs.size)) (EP X pins σ Q) X.xe { s4 with heap := s4.heap.push { cls := .type "slice", data := .fields #[.none, .none, vs] } }
  refine tail_any (ops := [.ref a, .ref s4.heap.objs.size]) ht.typeIs PyProof.Rows.slot_tuple_getitem.lookup ?_ (by with_unfolding_all rfl)
  refine get_back ht (Heap.IsSliceOf.new _ .none .none vs) ps ?_ (by rw [List.size_toArray]; omega)
  refine ⟨.ref _, _, I5.laid (t' := s4.toks) (o := .tup xs.reverse) (fun b ob q => Heap.get?_push_of_some _ q) (Nat.le_refl _) ?_, rfl, q _ (I5.hok.fresh (Nat.le_refl _))⟩
  exact ⟨by rw [List.length_reverse]; exact hz, _, r.reverse, IsTup.new _ _⟩
end
end QR

end
section
set_option autoImplicit false
set_option Elab.async false
set_option linter.all false
set_option maxRecDepth 100000
set_option maxHeartbeats 4000000
/-! ## the marks of a chain -/
namespace CP
open PySem L2 G Y
abbrev sMarks : Stmt := S.top 71
def mv (l : List Nat) (n : Nat) : List V := (List.range n).map fun p => V.bl (decide (N.rem l p = 0))
theorem mv_len (l : List Nat) (n : Nat) : (mv l n).length = n := by
  unfold mv
  rw [List.length_map, List.length_range]
theorem mv_at (l : List Nat) {n p : Nat} (h : p < n) : (mv l n)[p]? = some (V.bl (decide (N.rem l p = 0))) := by
  unfold mv
  rw [List.getElem?_map, List.getElem?_range h]
  rfl
theorem rep_at (xs : List V) : ∀ k i, i < k * xs.length → (List.replicate k xs).flatten[i]? = xs[i % xs.length]?
  | 0, i, h => by omega
  | k + 1, i, h => by
    rw [List.replicate_succ, List.flatten_cons]
    by_cases hi : i < xs.length
    · rw [List.getElem?_append_left hi, Nat.mod_eq_of_lt hi]
    · rw [Nat.succ_mul] at h
      rw [List.getElem?_append_right (by omega), rep_at xs k (i - xs.length) (by omega), ← Nat.mod_eq_sub_mod (by omega)]
theorem tile {l : List Nat} {m n k : Nat} (hm : 0 < m) (per : ∀ p, N.rem l p = N.rem l (p % m)) (h : n ≤ k * m) : ((List.replicate k (mv l m)).flatten).take n = mv l n := by
  apply List.ext_getElem?
  intro i
  by_cases hi : i < n
  · rw [List.getElem?_take_of_lt hi, rep_at _ _ _ (by rw [mv_len]; omega), mv_len, mv_at l (Nat.mod_lt _ hm), mv_at l hi, ← per]
  · rw [List.getElem?_eq_none (by rw [List.length_take]; omega), List.getElem?_eq_none (by rw [mv_len]; omega)]
theorem mv_cons (m : Nat) (l : List Nat) : mv (m :: l) m = mv l m := by
  unfold mv
  refine List.map_congr_left fun p hp => ?_
  rw [N.rem_cons, Nat.mod_eq_of_lt (List.mem_range.mp hp)]
theorem per_cons (m : Nat) (l : List Nat) (p : Nat) : N.rem (m :: l) p = N.rem (m :: l) (p % m) := by
  rw [N.rem_cons, N.rem_cons, Nat.mod_mod]
theorem mv_first {m : Nat} (h : 0 < m) : [V.bl true] ++ (List.replicate (m - 1) [V.bl false]).flatten = mv [m] m := by
  rw [mv_cons]
  apply List.ext_getElem?
  intro i
  have e : (List.replicate (m - 1) [V.bl false]).flatten = List.replicate (m - 1) (V.bl false) := by
    induction (m - 1) with
    | zero => rfl
    | succ k ih => rw [List.replicate_succ, List.flatten_cons, ih, List.replicate_succ]; rfl
  rw [e]
  by_cases hi : i < m
  · rw [mv_at [] hi]
    cases i with
    | zero => rfl
    | succ i =>
      rw [List.singleton_append, List.getElem?_cons_succ, List.getElem?_replicate_of_lt (by omega)]
      rfl
  · rw [List.getElem?_eq_none (by simp; omega), List.getElem?_eq_none (by rw [mv_len]; omega)]
theorem mv_first0 (n : Nat) : [V.bl true] ++ (List.replicate (n - 1) [V.bl false]).flatten = mv [] (max n 1) := by
  cases n with
  | zero => rfl
  | succ n =>
    rw [mv_first (Nat.succ_pos n), mv_cons, show max (n + 1) 1 = n + 1 by omega]
theorem tile0 {l : List Nat} {m n k : Nat} (h : n ≤ m) : ((List.replicate (k + 1) (mv l m)).flatten).take n = mv l n := by
  apply List.ext_getElem?
  intro i
  rw [List.replicate_succ, List.flatten_cons]
  by_cases hi : i < n
  · rw [List.getElem?_take_of_lt hi, List.getElem?_append_left (by rw [mv_len]; omega), mv_at l (by omega), mv_at l hi]
  · rw [List.getElem?_eq_none (by rw [List.length_take]; omega), List.getElem?_eq_none (by rw [mv_len]; omega)]
theorem cut_to (xs : List V) (k : Nat) : cutV xs none (some (k : Int)) = xs.take k := by
  unfold cutV
  rw [HT.sIx_none, HT.sIx_nat, List.drop_zero, Nat.sub_zero]
  by_cases h : k ≤ xs.length
  · rw [Nat.min_eq_left h]
  · rw [Nat.min_eq_right (by omega), List.take_of_length_le (Nat.le_refl _), List.take_of_length_le (by omega)]
section
variable {P : Program} {w : World} {K : PySem.W.Frag} {mg : Str → Option Value} {base : Heap} {C : Addr}
def spMarks (C : Addr) : Sp := fun vs H Q _ => ∃ (a : Addr) (n : Nat) (cs : List Nat), vs = [.ref a, .int (n : Int)] ∧ ChAt C H cs a ∧ Cuts cs ∧ n ≤ 5000 ∧ ∀ D H', Same H H' → H' D = some (.lst (mv cs n)) → Q (.ref D) H'
abbrev NMk : List Str := ["chain", "length", "lengths", "marks", "many"]
theorem scMk : FnScope NMk ["chain", "length"] (defScope sMarks) := ⟨rfl, rfl, rfl, by decide +kernel, rfl, by decide +kernel, by decide +kernel⟩
theorem ok_marks {f : Addr} {fd : FuncData} (F : Fun K "_marks" "_marks" sMarks f fd) (B : Bn mg) (T : Ct K mg C) : FnOk P w K mg base CX0 1 f fd ["chain", "length"] (spMarks C) := by
  refine F.ok scMk (fun vs H Q E h => ?_) (fun cdv A outer s H vs Q E hr h => ?_)
  · obtain ⟨a, n, cs, rfl, _⟩ := h
    rfl
  · obtain ⟨a, n, cs, rfl, hc, hl, hn, k⟩ := h
    refine ⟨_, pss_cons (ps_set (i := 2) scMk.nd rfl (Or.inl rfl) (pe_tup (StX.pa_star (QR.pe_revT (pe_fld (pv 0) rfl)) (pa_cons (pv 1) pa_nil))))
      (pss_cons (ps_set (i := 3) scMk.nd rfl (Or.inl rfl) (pe_op op_cat (pe_lst (pa_cons pe_bl pa_nil)) (pe_op op_rep (pe_lst (pa_cons pe_bl pa_nil)) (pe_op op_sub (pe_ix ix_tup (pv 2) pe_int (fun _ _ => rfl)) pe_int))))
      (pss_cons (ps_for PassesOwn.never rfl (pi_tup (pv 2)) (pg_name (i := 4) scMk.nd rfl (Or.inl rfl))
        (pss_one (ps_set (i := 3) scMk.nd rfl (Or.inl rfl) (pe_slice sl_list (pe_op op_rep (pv 3) (pe_op op_add (pe_op op_fdiv (pv 4) (pe_callB call_len_seq (by rfl) B.len PySem.boot_len (pa_cons (pv 3) pa_nil))) pe_int)) po_none (po_some (pv 4))))))
      (pss_one (ps_ret (pv 3))))), ?_⟩
    obtain ⟨dx, t, u, h1, h2, h3⟩ := id hc
    have lc := hl.len
    refine ⟨_, rfl, a, C, dx, _, _, rfl, h1, T.cl, T.nC, cfl_cuts t u, t, _, rfl, SqT.of h2, fun r hr1 => ?_⟩
    refine ⟨r, _, rfl, .inl (SqT.of upd_same), _, rfl, ?_, fun v hv => ?_⟩
    · rw [List.length_append, List.length_reverse, ni_len]
      exact Nat.le_trans (show cs.length + 1 ≤ 1001 by omega) (by decide)
    have eL : (ni cs).reverse ++ [V.int (n : Int)] = ni (cs.reverse ++ [n]) := by
      rw [ni_app]
      unfold ni
      rw [List.map_reverse, List.map_reverse]
      rfl
    have s1 : Same H (upd H r (.tup (ni cs).reverse)) := of_upd hr1
    have s2 := s1.trans (of_upd (o := .tup ((ni cs).reverse ++ [V.int (n : Int)])) hv)
    have hv2 : (upd (upd H r (.tup (ni cs).reverse)) v (.tup ((ni cs).reverse ++ [V.int (n : Int)]))) v = some (.tup (ni (cs.reverse ++ [n]))) := by rw [upd_same, eL]
    generalize upd (upd H r (.tup (ni cs).reverse)) v (.tup ((ni cs).reverse ++ [V.int (n : Int)])) = G1 at s2 hv2 ⊢
    clear hv hr1 s1
    by_cases ne : cs = []
    · subst ne
      dsimp only
      refine set_then (i := 3) ⟨line2.2.2.1, fun b1 hb1 => ⟨line2.2.2.1, fun b2 hb2 => ?_⟩⟩
      have s3 : Same G1 (upd G1 b1 (.lst [.bl true])) := of_upd hb1
      have s4 : Same (upd G1 b1 (.lst [.bl true])) (upd (upd G1 b1 (.lst [.bl true])) b2 (.lst [.bl false])) := of_upd hb2
      refine ⟨_, rfl, v, _, _, .int (n : Int), rfl, rfl, SqT.of (s4 _ _ (s3 _ _ hv2)), atI_nat (j := 0) (ni_at (l := [] ++ [n]) rfl), _, _, rfl, rfl, b2, _, _, rfl, rfl, upd_same, by omega, by omega, ?_, fun b3 hb3 => ?_⟩
      · show 1 * _ ≤ sizeLine
        exact Nat.le_trans (show 1 * ((n : Int) - 1).toNat ≤ 5000 by omega) (by decide)
      rw [show ((n : Int) - 1).toNat = n - 1 by omega]
      have s5 : Same (upd (upd G1 b1 (.lst [.bl true])) b2 (.lst [.bl false])) _ := of_upd (o := .lst (List.replicate (n - 1) [V.bl false]).flatten) hb3
      have l5 := congrArg List.length (mv_first0 n)
      rw [mv_len] at l5
      refine ⟨b1, b3, _, _, rfl, rfl, s5 _ _ (s4 _ _ upd_same), upd_same, ?_, fun D hD => ?_⟩
      · rw [List.length_append] at l5
        rw [l5]
        exact Nat.le_trans (show max n 1 ≤ 5001 by omega) (by decide)
      rw [mv_first0]
      have s6 := ((s3.trans s4).trans s5).trans (of_upd (o := .lst (mv [] (max n 1))) hD)
      have s7 := s2.trans s6
      have hv3 := s6 _ _ hv2
      clear s3 s4 s5 s6 hb1 hb2 hb3
      refine ⟨_, rfl, v, rfl, ⟨_, SqT.of hv3⟩, for_it walk_tup (fun i σ G => Same H G ∧ G v = some (.tup (ni ([] ++ [n]))) ∧ ∃ (D : Addr) (q : Option V), σ = [some (.ref a), some (.int (n : Int)), some (.ref v), some (.ref D), q] ∧
          (i = 0 → G D = some (.lst (mv [] (max n 1)))) ∧ (i = 1 → G D = some (.lst (mv [] n))))
        ⟨s7, hv3, D, _, rfl, fun _ => upd_same, fun h => by omega⟩ (fun i σ G _ z => SqT.of z.2.1) ?_ ?_⟩
      · rintro i x σ G G' hi ⟨s8, hv4, D, q, rfl, hD1, _⟩ ⟨rfl, hx⟩
        have hi0 : i = 0 := by
          have : (ni ([] ++ [n])).length = 1 := rfl
          have hi' : i < (ni ([] ++ [n])).length := hi
          omega
        subst hi0
        obtain rfl : x = .int (n : Int) := (Option.some.inj hx).symm
        have hD2 := hD1 rfl
        refine ⟨_, rfl, _, rfl, _, rfl, D, _, rfl, .inl (SqL.of hD2), ?_⟩
        rw [mv_len]
        have m1 : 0 < max n 1 := by omega
        have eq : (n : Int) / ((max n 1 : Nat) : Int) = ((n / max n 1 : Nat) : Int) := rfl
        have q0 : (0 : Int) ≤ (n : Int) / ((max n 1 : Nat) : Int) := by rw [eq]; exact Int.natCast_nonneg _
        have q2 : n / max n 1 ≤ 1 := by
          have := Nat.div_le_div_right (c := max n 1) (show n ≤ max n 1 by omega)
          rw [Nat.div_self m1] at this
          exact this
        have q1 : (n : Int) / ((max n 1 : Nat) : Int) ≤ 1 := by rw [eq]; exact Int.ofNat_le.mpr q2
        have kn : ((n : Int) / ((max n 1 : Nat) : Int) + 1).toNat = n / max n 1 + 1 := by rw [eq]; exact Int.toNat_natCast (n / max n 1 + 1)
        refine ⟨_, _, rfl, rfl, ⟨by omega, by omega⟩, _, _, rfl, rfl, D, _, _, rfl, rfl, hD2, by omega, by omega, ?_, fun D3 h3 => ⟨_, rfl, _, rfl, D3, _, rfl, SqL.of upd_same, fun D4 h4 => ?_⟩⟩
        · rw [mv_len, kn]
          exact Nat.le_trans (Nat.mul_le_mul (show max n 1 ≤ 5001 by omega) (show n / max n 1 + 1 ≤ 2 by omega)) (by decide)
        have s9 := (of_upd (o := .lst (List.replicate ((n : Int) / ((max n 1 : Nat) : Int) + 1).toNat (mv [] (max n 1))).flatten) h3)
        have et : cutV (List.replicate ((n : Int) / ((max n 1 : Nat) : Int) + 1).toNat (mv [] (max n 1))).flatten none (some (n : Int)) = mv [] n := by
          rw [cut_to, kn, tile0 (show n ≤ max n 1 by omega)]
        exact ⟨(s8.trans s9).trans (of_upd h4), (of_upd h4) _ _ (s9 _ _ hv4), D4, _, rfl, fun z => by omega, fun _ => by rw [upd_same, et]⟩
      · rintro σ G ⟨s8, hv4, D, q, rfl, _, hD1⟩
        exact ⟨_, rfl, k D G s8 (hD1 rfl)⟩
    have lk : 0 < cs.length := List.length_pos_iff.mpr ne
    have lenL : (cs.reverse ++ [n]).length = cs.length + 1 := by simp
    have at1 : ∀ i, i < cs.length → (cs.reverse ++ [n])[i]? = cs[cs.length - 1 - i]? := fun i hi => by
      rw [List.getElem?_append_left (by simpa using hi), List.getElem?_reverse hi]
    have at2 : (cs.reverse ++ [n])[cs.length]? = some n := by
      rw [List.getElem?_append_right (by simp), List.length_reverse, Nat.sub_self]
      rfl
    obtain ⟨ck, hck⟩ : ∃ c, cs[cs.length - 1]? = some c := ⟨_, List.getElem?_eq_getElem (by omega)⟩
    have pk := hl.at hck
    have hdk : cs.drop (cs.length - 1) = [ck] := by
      rw [drop_at hck, show cs.length - 1 + 1 = cs.length by omega, List.drop_length]
    dsimp only
    refine set_then (i := 3) ⟨line2.2.2.1, fun b1 hb1 => ⟨line2.2.2.1, fun b2 hb2 => ?_⟩⟩
    have s3 : Same G1 (upd G1 b1 (.lst [.bl true])) := of_upd hb1
    have s4 : Same (upd G1 b1 (.lst [.bl true])) (upd (upd G1 b1 (.lst [.bl true])) b2 (.lst [.bl false])) := of_upd hb2
    refine ⟨_, rfl, v, _, _, .int (ck : Int), rfl, rfl, SqT.of (s4 _ _ (s3 _ _ hv2)), ?_, _, _, rfl, rfl, b2, _, _, rfl, rfl, upd_same, by omega, by omega, ?_, fun b3 hb3 => ?_⟩
    · exact atI_nat (j := 0) (ni_at ((at1 0 lk).trans (by rw [Nat.sub_zero]; exact hck)))
    · show 1 * _ ≤ sizeLine
      exact Nat.le_trans (show 1 * ((ck : Int) - 1).toNat ≤ 1000 by omega) (by decide)
    have ek : ((ck : Int) - 1).toNat = ck - 1 := by omega
    rw [ek]
    have s5 : Same (upd (upd G1 b1 (.lst [.bl true])) b2 (.lst [.bl false])) _ := of_upd (o := .lst (List.replicate (ck - 1) [V.bl false]).flatten) hb3
    refine ⟨b1, b3, _, _, rfl, rfl, s5 _ _ (s4 _ _ upd_same), upd_same, ?_, fun D hD => ?_⟩
    · have := congrArg List.length (mv_first pk.1)
      rw [mv_len, List.length_append] at this
      rw [this]
      exact Nat.le_trans pk.2 (by decide)
    rw [mv_first pk.1]
    have s6 := ((s3.trans s4).trans s5).trans (of_upd (o := .lst (mv [ck] ck)) hD)
    have s7 := s2.trans s6
    have hv3 := s6 _ _ hv2
    clear s3 s4 s5 s6 hb1 hb2 hb3
    refine ⟨_, rfl, v, rfl, ⟨_, SqT.of hv3⟩, for_it walk_tup (fun i σ G => Same H G ∧ G v = some (.tup (ni (cs.reverse ++ [n]))) ∧ ∃ (D : Addr) (q : Option V), σ = [some (.ref a), some (.int (n : Int)), some (.ref v), some (.ref D), q] ∧
        (i ≤ cs.length → ∃ m, cs[cs.length - max i 1]? = some m ∧ G D = some (.lst (mv (cs.drop (cs.length - max i 1)) m))) ∧ (i = cs.length + 1 → G D = some (.lst (mv cs n))))
      ⟨s7, hv3, D, _, rfl, fun _ => ⟨ck, by rw [show max 0 1 = 1 from rfl]; exact hck, by rw [show max 0 1 = 1 from rfl, hdk]; exact upd_same⟩, fun h => by omega⟩ (fun i σ G _ z => SqT.of z.2.1) ?_ ?_⟩
    · rintro i x σ G G' hi ⟨s8, hv4, D, q, rfl, hD1, _⟩ ⟨rfl, hx⟩
      obtain ⟨y, hy, rfl⟩ := ni_get hx
      rw [ni_len, lenL] at hi
      obtain ⟨m, hm, hD2⟩ := hD1 (by omega)
      have pm := hl.at hm
      have y5 : y ≤ 5000 := by
        by_cases hik : i < cs.length
        · rw [at1 i hik] at hy
          have := (hl.at hy).2
          omega
        · have e : i = cs.length := by omega
          rw [e, at2] at hy
          cases hy
          exact hn
      refine ⟨_, rfl, _, rfl, _, rfl, D, _, rfl, .inl (SqL.of hD2), ?_⟩
      rw [mv_len]
      have eq : (y : Int) / (m : Int) = ((y / m : Nat) : Int) := rfl
      have q0 : (0 : Int) ≤ (y : Int) / (m : Int) := by rw [eq]; exact Int.natCast_nonneg _
      have q1 : (y : Int) / (m : Int) ≤ 5000 := by rw [eq]; exact Int.ofNat_le.mpr (Nat.le_trans (Nat.div_le_self _ _) y5)
      have kn : ((y : Int) / (m : Int) + 1).toNat = y / m + 1 := by rw [eq]; exact Int.toNat_natCast (y / m + 1)
      have dm := Nat.div_add_mod y m
      have dl := Nat.mod_lt y pm.1
      have bm : m * (y / m + 1) = m * (y / m) + m := Nat.mul_succ _ _
      have ym : y / m ≤ y := Nat.div_le_self _ _
      refine ⟨_, _, rfl, rfl, ⟨by omega, by omega⟩, _, _, rfl, rfl, D, _, _, rfl, rfl, hD2, by omega, by omega, ?_, fun D3 h3 => ⟨_, rfl, _, rfl, D3, _, rfl, SqL.of upd_same, fun D4 h4 => ?_⟩⟩
      · rw [mv_len, kn, bm]
        exact Nat.le_trans (show _ ≤ 6000 by omega) (by decide)
      have s9 := (of_upd (o := .lst (List.replicate ((y : Int) / (m : Int) + 1).toNat (mv (cs.drop (cs.length - max i 1)) m)).flatten) h3)
      have per : ∀ p, N.rem (cs.drop (cs.length - max i 1)) p = N.rem (cs.drop (cs.length - max i 1)) (p % m) := by
        rw [drop_at hm]
        exact per_cons m _
      have et : cutV (List.replicate ((y : Int) / (m : Int) + 1).toNat (mv (cs.drop (cs.length - max i 1)) m)).flatten none (some (y : Int)) = mv (cs.drop (cs.length - max i 1)) y := by
        rw [cut_to, kn, tile pm.1 per (by rw [Nat.mul_comm, bm]; omega)]
      refine ⟨(s8.trans s9).trans (of_upd h4), (of_upd h4) _ _ (s9 _ _ hv4), D4, _, rfl, fun hi2 => ?_, fun hi2 => ?_⟩
      · have hik : i < cs.length := by omega
        rw [at1 i hik] at hy
        refine ⟨y, ?_, ?_⟩
        · rw [show cs.length - max (i + 1) 1 = cs.length - 1 - i by omega]
          exact hy
        · rw [upd_same, et, show cs.length - max (i + 1) 1 = cs.length - 1 - i by omega]
          by_cases h0 : i = 0
          · subst h0
            rw [show cs.length - max 0 1 = cs.length - 1 - 0 by omega]
          · rw [drop_at hy, mv_cons, show cs.length - 1 - i + 1 = cs.length - max i 1 by omega]
      · have e : i = cs.length := by omega
        rw [e, at2] at hy
        cases hy
        rw [upd_same, et, show cs.length - max i 1 = 0 by omega, List.drop_zero]
    · rintro σ G ⟨s8, hv4, D, q, rfl, _, hD1⟩
      rw [ni_len, lenL] at hD1
      exact ⟨_, rfl, k D G s8 (hD1 rfl)⟩
end
end CP

end
section
set_option autoImplicit false
set_option Elab.async false
set_option linter.all false
set_option maxRecDepth 100000
set_option maxHeartbeats 4000000
/-! ## borders, least_periods -/
namespace CP
open PySem L2 G Y
abbrev sLeastP : Stmt := S.top 67
abbrev sBorders : Stmt := S.top 68
/-- the borders of the first n - 1 places -/
def bl (f : Nat → Bool) (n : Nat) : List V := (List.range n).map fun k => V.int (N.bd f k)
theorem bl_len (f : Nat → Bool) (n : Nat) : (bl f n).length = n := by
  unfold bl
  rw [List.length_map, List.length_range]
theorem bl_snoc (f : Nat → Bool) (n : Nat) : bl f (n + 1) = bl f n ++ [.int (N.bd f n)] := by
  unfold bl
  rw [List.range_succ, List.map_append]
  rfl
theorem bl_at {f : Nat → Bool} {n k : Nat} (h : k < n) : (bl f n)[k]? = some (.int (N.bd f k)) := by
  unfold bl
  rw [List.getElem?_map, List.getElem?_range h]
  rfl
theorem mv_fm {l : List Nat} {n p : Nat} (h : p < n) : (mv l n)[p]? = some (V.bl (N.fm l p)) := mv_at l h
theorem bl_beq (x y : Bool) : decide (V.bl x = V.bl y) = decide (x = y) := by
  cases x <;> cases y <;> rfl
theorem app_run {K : PySem.W.Frag} {σ : L2.St} {H : Hp} {D : Ends} {R : Addr} {xs : List V} {b : Int} (h1 : σ[1]? = some (some (.ref R))) (h3 : σ[3]? = some (some (.int b))) (hR : H R = some (.lst xs)) (hz : xs.length < sizeLine) (k : D.nx σ (upd H R (.lst (xs ++ [.int (b + 1)])))) :
    tDrop (tBM K "list" rAppend (tVar 1) (tCons (tOp (rI0 fun i j => .int (i + j)) (tVar 3) (tC (.int 1))) tNil)) D σ H :=
  ⟨_, h1, .inl ⟨rfl, _, SqL.of hR⟩, _, h3, _, _, rfl, rfl, R, _, _, rfl, rfl, hR, hz, k⟩
section
variable {P : Program} {w : World} {K : PySem.W.Frag} {mg : Str → Option Value} {base : Heap} {C : Addr}
def spBorders : Sp := fun vs H Q _ => ∃ (D : Addr) (n : Nat) (cs : List Nat), vs = [.ref D] ∧ H D = some (.lst (mv cs n)) ∧ n ≤ 5000 ∧ ∀ E H', Same H H' → H' E = some (.lst (bl (N.fm cs) (n + 1))) → Q (.ref E) H'
theorem scBo : FnScope ["marks", "found", "mark", "border"] ["marks"] (defScope sBorders) := ⟨rfl, rfl, rfl, by decide +kernel, rfl, by decide +kernel, by decide +kernel⟩
theorem ok_borders {f : Addr} {fd : FuncData} (F : Fun K "borders" "borders" sBorders f fd) : FnOk P w K mg base CX0 1 f fd ["marks"] spBorders := by
  refine F.ok scBo (fun vs H Q E h => ?_) (fun cdv A outer s H vs Q E hr h => ?_)
  · obtain ⟨D, n, cs, rfl, _⟩ := h
    rfl
  · obtain ⟨D, n, cs, rfl, hD, hn, k⟩ := h
    refine ⟨_, pss_cons (ps_set (i := 1) scBo.nd rfl (Or.inl rfl) (pe_lst (pa_cons (pe_un un_neg pe_int) pa_nil)))
      (pss_cons (ps_for PassesOwn.never rfl (pi_list (pv 0)) (pg_name (i := 2) scBo.nd rfl (Or.inl rfl))
        (pss_cons (ps_set (i := 3) scBo.nd rfl (Or.inl rfl) (pe_ix ix_list (pv 1) (pe_un un_neg pe_int) (fun _ _ => rfl)))
        (pss_cons (ps_while PassesOwn.never (PW.pt (pw_and (pt_cmpR op_ge (pv 3) pe_int (nomark _)) (pw_and1 (pt_cmpR op_ne (pe_ix ix_list (pv 0) (pv 3) (fun _ _ => rfl)) (pv 2) (nomark _)))))
          (pss_one (ps_set (i := 3) scBo.nd rfl (Or.inl rfl) (pe_ix ix_list (pv 1) (pv 3) (fun _ _ => rfl)))))
        (pss_one (ps_expr (pe_bm PySem.F.plainAttrs_list PySem.F.slot_list_append PySem.F.type_list_append mt_append (pv 1) (pa_cons (pe_op op_add (pv 3) pe_int) pa_nil)))))))
      (pss_one (ps_ret (pv 1)))), ?_⟩
    refine set_then (i := 1) ⟨_, rfl, line2.2.2.1, fun R hR => ?_⟩
    have s0 : Same H (upd H R (.lst [.int (-1)])) := of_upd hR
    refine ⟨_, rfl, D, rfl, ⟨_, SqL.of (s0 _ _ hD)⟩, for_list (K := K) (a := D) (xs := mv cs n) (fun i σ G => Same H G ∧ G R = some (.lst (bl (N.fm cs) (i + 1))) ∧ ∃ q2 q3, σ = [some (.ref D), some (.ref R), q2, q3])
      ⟨s0, upd_same, _, _, rfl⟩ (fun i σ G _ z => SqL.of (z.1 _ _ hD)) ?_ ?_⟩
    · rintro i x σ G hx ⟨s1, hG, q2, q3, rfl⟩
      have hi : i < n := by
        have := (List.getElem?_eq_some_iff.mp hx).1
        rw [mv_len] at this
        exact this
      obtain rfl : x = .bl (N.fm cs i) := Option.some.inj (hx.symm.trans (mv_fm hi))
      have hD1 := s1 _ _ hD
      refine set_then (i := 3) ⟨_, rfl, _, rfl, R, _, _, .int (N.bd (N.fm cs) i), rfl, rfl, SqL.of hG, by rw [bl_snoc]; exact atI_last _ _, ?_⟩
      refine ⟨fun m σ G' => G' = G ∧ ∃ b : Int, σ = [some (.ref D), some (.ref R), some (.bl (N.fm cs i)), some (.int b)] ∧ N.Cand (N.fm cs) i b ∧ m = (b + 1).toNat, ⟨_, rfl, _, rfl, N.cand_first _ _, rfl⟩, ?_⟩
      rintro m σ G' ⟨rfl, b, rfl, hb, rfl⟩
      have fin : b + 1 = N.bd (N.fm cs) (i + 1) → Same H (upd G' R (.lst (bl (N.fm cs) (i + 1) ++ [.int (b + 1)]))) ∧ (upd G' R (.lst (bl (N.fm cs) (i + 1) ++ [.int (b + 1)]))) R = some (.lst (bl (N.fm cs) (i + 1 + 1))) ∧ ∃ q2 q3, [some (V.ref D), some (.ref R), some (.bl (N.fm cs i)), some (.int b)] = [some (.ref D), some (.ref R), q2, q3] := fun e => by
        refine ⟨add_upd hR s1, ?_, _, _, rfl⟩
        rw [upd_same, bl_snoc _ (i + 1), e]
      have sz : (bl (N.fm cs) (i + 1)).length < sizeLine := by
        rw [bl_len]
        exact Nat.lt_of_le_of_lt (show i + 1 ≤ 5001 by omega) (by decide)
      refine ⟨_, rfl, _, _, rfl, rfl, _, rfl, ite2 (fun c => ?_) (fun c => ?_)⟩
      · have c2 : 0 ≤ b := of_decide_eq_true c
        obtain ⟨j, rfl⟩ := Int.eq_ofNat_of_zero_le c2
        have hj : j < i := by
          rcases hb.ok with h | ⟨j', e, h, _⟩
          · omega
          · omega
        refine ⟨_, rfl, _, rfl, D, _, _, .bl (N.fm cs j), rfl, rfl, SqL.of hD1, atI_nat (mv_fm (by omega)), _, rfl, rfl, _, rfl, ?_⟩
        rw [bl_beq]
        by_cases e : N.fm cs j = N.fm cs i
        · rw [decide_eq_true e]
          exact iteF (app_run rfl rfl hG sz (fin (N.cand_end hb (.inr ⟨j, rfl, e⟩))))
        · rw [decide_eq_false e]
          obtain ⟨_, hb2⟩ := N.cand_next hb e
          refine iteT ⟨fun σ' G2 => G2 = G' ∧ σ' = [some (.ref D), some (.ref R), some (.bl (N.fm cs i)), some (.int (N.bd (N.fm cs) j))], fun σ' G2 z => ⟨(N.bd (N.fm cs) j + 1).toNat, ?_, z.1, _, z.2, hb2, rfl⟩, ?_⟩
          · by_cases z : j = 0
            · subst z
              unfold N.bd
              rw [N.lp_zero]
              decide
            · have := (N.lp_spec (f := N.fm cs) (k := j) (by omega)).1
              unfold N.bd
              omega
          · exact ⟨_, rfl, _, rfl, R, _, _, .int (N.bd (N.fm cs) j), rfl, rfl, SqL.of hG, atI_nat (bl_at (by omega)), rfl, rfl⟩
      · have c2 : ¬ 0 ≤ b := fun z => c (decide_eq_true z)
        exact iteF (app_run rfl rfl hG sz (fin (N.cand_end hb (.inl (by omega)))))
    · rintro σ G ⟨s1, hG, q2, q3, rfl⟩
      rw [mv_len] at hG
      exact ⟨_, rfl, k R G s1 hG⟩
def spLeastP : Sp := fun vs H Q _ => ∃ (D : Addr) (n : Nat) (cs : List Nat), vs = [.ref D] ∧ H D = some (.lst (mv cs n)) ∧ n ≤ 5000 ∧ ∀ E H', Same H H' → H' E = some (.lst (ni (N.nrm (N.fm cs) n))) → Q (.ref E) H'
theorem scLp : FnScope ["marks", "found_borders", "length", "found"] ["marks"] (defScope sLeastP) := ⟨rfl, rfl, rfl, by decide +kernel, rfl, by decide +kernel, by decide +kernel⟩
theorem ok_leastp {f : Addr} {fd : FuncData} (F : Fun K "least_periods" "least_periods" sLeastP f fd) (B : Bn mg) (DB : Df P w K mg base 1 "borders" ["marks"] spBorders) : FnOk P w K mg base CX0 2 f fd ["marks"] spLeastP := by
  obtain ⟨fB, fdB, GB, gB, kB, bB⟩ := DB.ex
  refine F.ok scLp (fun vs H Q E h => ?_) (fun cdv A outer s H vs Q E hr h => ?_)
  · obtain ⟨D, n, cs, rfl, _⟩ := h
    rfl
  · obtain ⟨D, n, cs, rfl, hD, hn, k⟩ := h
    refine ⟨_, pss_cons (ps_set (i := 1) scLp.nd rfl (Or.inl rfl) (pe_call GB hr rfl gB kB bB .nil pass0 (pa_cons (pv 0) pa_nil)))
      (pss_cons (ps_set (i := 2) scLp.nd rfl (Or.inl rfl) (pe_callB call_len_seq (by rfl) B.len PySem.boot_len (pa_cons (pv 0) pa_nil)))
      (pss_cons (ps_set (i := 3) scLp.nd rfl (Or.inl rfl) (pe_lst pa_nil))
      (pss_cons (ps_while PassesOwn.never (pt_cmpR op_gt (pe_ix ix_list (pv 1) (pv 2) (fun _ _ => rfl)) pe_int (nomark _))
        (pss_cons (ps_set (i := 2) scLp.nd rfl (Or.inl rfl) (pe_op op_sub (pv 2) (pe_ix ix_list (pv 1) (pv 2) (fun _ _ => rfl))))
        (pss_one (ps_expr (pe_bm PySem.F.plainAttrs_list PySem.F.slot_list_append PySem.F.type_list_append mt_append (pv 3) (pa_cons (pv 2) pa_nil))))))
      (pss_one (ps_ret (pv 3)))))), ?_⟩
    refine set_then (i := 1) ⟨_, rfl, D, n, cs, rfl, hD, hn, fun R G s1 hR => ?_⟩
    refine set_then (i := 2) ⟨_, rfl, D, _, rfl, .inl (SqL.of (s1 _ _ hD)), ?_⟩
    rw [mv_len]
    refine set_then (i := 3) ⟨line2.2.2.2, fun R2 hR2 => ?_⟩
    have s2 : Same G (upd G R2 (.lst [])) := of_upd hR2
    refine ⟨fun m σ G2 => Same G G2 ∧ m ≤ n ∧ ∃ l : List Nat, σ = [some (.ref D), some (.ref R), some (.int (m : Int)), some (.ref R2)] ∧ G2 R2 = some (.lst (ni l)) ∧ l.length + m ≤ n ∧ N.nrm (N.fm cs) n = l ++ N.nrm (N.fm cs) m, ⟨n, s2, Nat.le_refl _, [], rfl, upd_same, by simp, rfl⟩, ?_⟩
    rintro m σ G2 ⟨s3, hm, l, rfl, hl, hlm, e⟩
    have hR3 := s3 _ _ hR
    have at1 : atI (bl (N.fm cs) (n + 1)) (m : Int) = some (.int (N.bd (N.fm cs) m)) := atI_nat (bl_at (by omega))
    refine ⟨_, rfl, _, rfl, R, _, _, .int (N.bd (N.fm cs) m), rfl, rfl, SqL.of hR3, at1, _, _, rfl, rfl, _, rfl, ?_⟩
    rw [N.nrm_step (N.fm cs) m] at e
    by_cases c : N.lp (N.fm cs) m < m
    · rw [if_pos c] at e
      rw [decide_eq_true (show (0 : Int) < N.bd (N.fm cs) m by unfold N.bd; omega)]
      refine iteT ⟨fun σ' G' => Same G G' ∧ N.lp (N.fm cs) m ≤ n ∧ ∃ l : List Nat, σ' = [some (.ref D), some (.ref R), some (.int ((N.lp (N.fm cs) m : Nat) : Int)), some (.ref R2)] ∧ G' R2 = some (.lst (ni l)) ∧ l.length + N.lp (N.fm cs) m ≤ n ∧ N.nrm (N.fm cs) n = l ++ N.nrm (N.fm cs) (N.lp (N.fm cs) m), fun σ' G' z => ⟨_, c, z⟩, ?_⟩
      refine set_then (i := 2) ⟨_, rfl, _, rfl, _, rfl, R, _, _, .int (N.bd (N.fm cs) m), rfl, rfl, SqL.of hR3, at1, _, _, rfl, rfl, ?_⟩
      have e2 : (m : Int) - N.bd (N.fm cs) m = ((N.lp (N.fm cs) m : Nat) : Int) := by unfold N.bd; omega
      dsimp only
      rw [e2]
      refine ⟨_, rfl, .inl ⟨rfl, _, SqL.of hl⟩, _, rfl, R2, _, _, rfl, rfl, hl, ?_, add_upd hR2 s3, by omega, l ++ [N.lp (N.fm cs) m], rfl, ?_, ?_, ?_⟩
      · rw [ni_len]
        exact Nat.lt_of_le_of_lt (show l.length ≤ 5000 by omega) (by decide)
      · rw [upd_same, ni_app]
        rfl
      · rw [List.length_append, List.length_singleton]
        omega
      · rw [e, List.append_assoc]
        rfl
    · rw [if_neg c] at e
      rw [decide_eq_false (show ¬ (0 : Int) < N.bd (N.fm cs) m by unfold N.bd; omega)]
      rw [List.append_nil] at e
      refine iteF ⟨_, rfl, k R2 G2 (s1.trans s3) ?_⟩
      rw [e]
      exact hl
end
end CP

end
section
set_option autoImplicit false
set_option Elab.async false
set_option linter.all false
set_option maxRecDepth 100000
set_option maxHeartbeats 4000000
/-! ## normal -/
namespace CP
open PySem L2 G Y
abbrev sNormal : Stmt := S.top 66
abbrev sFirstCut : Stmt := S.top 69
abbrev sLength : Stmt := S.top 70
def lmV : Option Int → V
  | none => .non
  | some L => .int L
/-- so many places, below a limit -/
def nl (n : Nat) : Option Int → Nat
  | none => n
  | some z => min n z.toNat
section
variable {P : Program} {w : World} {K : PySem.W.Frag} {mg : Str → Option Value} {base : Heap} {C : Addr}
def spFirst (C : Addr) : Sp := fun vs H Q _ => ∃ (a : Addr) (cs : List Nat), vs = [.ref a] ∧ ChAt C H cs a ∧ Q (.int ((N.hd cs : Nat) : Int)) H
theorem scFc : FnScope ["chain"] ["chain"] (defScope sFirstCut) := ⟨rfl, rfl, rfl, by decide +kernel, rfl, by decide +kernel, by decide +kernel⟩
theorem ok_first {f : Addr} {fd : FuncData} (F : Fun K "_first_cut" "_first_cut" sFirstCut f fd) (B : Bn mg) (T : Ct K mg C) : FnOk P w K mg base CX0 1 f fd ["chain"] (spFirst C) := by
  refine F.ok scFc (fun vs H Q E h => ?_) (fun cdv A outer s H vs Q E hr h => ?_)
  · obtain ⟨a, cs, rfl, _⟩ := h
    rfl
  · obtain ⟨a, cs, rfl, hc, k⟩ := h
    refine ⟨_, pss_one (ps_ret (pe_ifExp (pt_cmpR op_gt (pe_callB call_len_seq (by rfl) B.len PySem.boot_len (pa_cons (pe_fld (pv 0) rfl) pa_nil)) pe_int (nomark _)) (pe_ix ix_tup (pe_fld (pv 0) rfl) pe_int (fun _ _ => rfl)) pe_int)), ?_⟩
    obtain ⟨dx, t, u, h1, h2, h3⟩ := id hc
    refine ⟨_, rfl, a, C, dx, _, _, rfl, h1, T.cl, T.nC, cfl_cuts t u, t, _, rfl, .inr (SqT.of h2), _, _, rfl, rfl, _, rfl, ?_⟩
    rw [ni_len]
    cases cs with
    | nil => exact iteF k
    | cons c l =>
      rw [decide_eq_true (by rw [List.length_cons]; omega)]
      exact iteT ⟨_, rfl, a, C, dx, _, _, rfl, h1, T.cl, T.nC, cfl_cuts t u, t, _, _, .int (c : Int), rfl, rfl, SqT.of h2, at0, k⟩
def spLen : Sp := fun vs H Q _ => ∃ (n : Nat) (L : Option Int), vs = [.int (n : Int), lmV L] ∧ (∀ z, L = some z → 0 ≤ z) ∧ Q (.int ((nl n L : Nat) : Int)) H
theorem scLn : FnScope ["places", "limit"] ["places", "limit"] (defScope sLength) := ⟨rfl, rfl, rfl, by decide +kernel, rfl, by decide +kernel, by decide +kernel⟩
theorem ok_length {f : Addr} {fd : FuncData} (F : Fun K "_length" "_length" sLength f fd) (B : Bn mg) : FnOk P w K mg base CX0 1 f fd ["places", "limit"] spLen := by
  refine F.ok scLn (fun vs H Q E h => ?_) (fun cdv A outer s H vs Q E hr h => ?_)
  · obtain ⟨n, L, rfl, _⟩ := h
    rfl
  · obtain ⟨n, L, rfl, hL, k⟩ := h
    refine ⟨_, pss_one (ps_ret (pe_ifExp (pt_cmp (pc_isN (pv 1))) (pv 0) (pe_callB (call_min2 rfl) (by rfl) B.min (by decide +kernel) (pa_cons (pv 0) (pa_cons (pv 1) pa_nil))))), ?_⟩
    cases L with
    | none => exact ⟨_, rfl, _, rfl, iteT ⟨_, rfl, k⟩⟩
    | some z =>
      have hz := hL z rfl
      refine ⟨_, rfl, _, rfl, iteF ⟨_, rfl, _, rfl, _, _, rfl, ?_⟩⟩
      have e : (if z < (n : Int) then z else (n : Int)) = ((nl n (some z) : Nat) : Int) := by
        unfold nl
        dsimp only
        split <;> omega
      rw [e]
      exact k
theorem nl_le (n : Nat) (L : Option Int) : nl n L ≤ n := by
  cases L with
  | none => exact Nat.le_refl _
  | some z => exact Nat.min_le_left _ _
/-- how many places normal looks at -/
def nn (cs : List Nat) (L : Option Int) : Nat := nl (2 * N.hd cs) L
theorem hd_le {cs : List Nat} (h : Cuts cs) : N.hd cs ≤ 1000 := by
  cases cs with
  | nil => exact Nat.zero_le _
  | cons c l => exact h.le c List.mem_cons_self
theorem cuts_nrm {cs : List Nat} (h : Cuts cs) (L : Option Int) : Cuts (N.nrm (N.fm cs) (nn cs L)) := by
  obtain ⟨a, b, c⟩ := N.nrm_fall (f := N.fm cs) (nn cs L)
  have d := N.nrm_cuts h.fall h.le (nl_le (2 * N.hd cs) L)
  exact ⟨a, d, N.fall_len a d⟩
def spNormal (C : Addr) : Sp := fun vs H Q _ => ∃ (a : Addr) (L : Option Int) (cs : List Nat), vs = [.ref a, lmV L] ∧ ChAt C H cs a ∧ Cuts cs ∧ (∀ z, L = some z → 0 ≤ z) ∧ ∀ r H', Same H H' → ChAt C H' (N.nrm (N.fm cs) (nn cs L)) r → Q (.ref r) H'
theorem scNo : FnScope ["chain", "limit", "length"] ["chain", "limit"] (defScope sNormal) := ⟨rfl, rfl, rfl, by decide +kernel, rfl, by decide +kernel, by decide +kernel⟩
theorem ok_normal {f : Addr} {fd : FuncData} (F : Fun K "normal" "normal" sNormal f fd) (B : Bn mg) (T : Ct K mg C) (MW : Mw P w K mg base C) (DF : Df P w K mg base 1 "_first_cut" ["chain"] (spFirst C)) (DL : Df P w K mg base 1 "_length" ["places", "limit"] spLen)
    (DM : Df P w K mg base 1 "_marks" ["chain", "length"] (spMarks C)) (DP : Df P w K mg base 2 "least_periods" ["marks"] spLeastP) : FnOk P w K mg base CX0 6 f fd ["chain", "limit"] (spNormal C) := by
  obtain ⟨fI, fdI, GI, MK, bI⟩ := MW.ex
  obtain ⟨fF, fdF, GF, gF, kF, bF⟩ := DF.ex
  obtain ⟨fL, fdL, GL, gL, kL, bL⟩ := DL.ex
  obtain ⟨fM, fdM, GM, gM, kM, bM⟩ := DM.ex
  obtain ⟨fP, fdP, GP, gP, kP, bP⟩ := DP.ex
  refine F.ok scNo (fun vs H Q E h => ?_) (fun cdv A outer s H vs Q E hr h => ?_)
  · obtain ⟨a, L, cs, rfl, _⟩ := h
    rfl
  · obtain ⟨a, L, cs, rfl, hc, hl, hL, k⟩ := h
    refine ⟨_, pss_cons (ps_set (i := 2) scNo.nd rfl (Or.inl rfl) (pe_call GL (hr.mono (by decide)) rfl gL kL bL .nil pass0 (pa_cons (pe_op op_mul pe_int (pe_call GF (hr.mono (by decide)) rfl gF kF bF .nil pass0 (pa_cons (pv 0) pa_nil))) (pa_cons (pv 1) pa_nil))))
      (pss_one (ps_ret (pe_make MK GI (hr.mono (by decide)) rfl T.g bI .nil pass0 (pa_cons (pe_call GP (hr.mono (by decide)) rfl gP kP bP .nil pass0 (pa_cons (pe_call GM (hr.mono (by decide)) rfl gM kM bM .nil pass0 (pa_cons (pv 0) (pa_cons (pv 2) pa_nil))) pa_nil)) pa_nil)))), ?_⟩
    have h1 := hd_le hl
    refine set_then (i := 2) ⟨_, rfl, a, cs, rfl, hc, _, _, rfl, rfl, .inl ⟨by omega, by omega⟩, _, rfl, 2 * N.hd cs, L, rfl, hL, ?_⟩
    have h2 : nn cs L ≤ 2000 := Nat.le_trans (nl_le _ _) (by omega)
    refine ⟨_, rfl, _, rfl, a, nn cs L, cs, rfl, hc, hl, by omega, fun D G s1 hD => ⟨D, nn cs L, cs, rfl, hD, by omega, fun R G2 s2 hR => ?_⟩⟩
    exact fun x dx hx hdx ne => made_ch hx hdx ne (.inl hR) (cuts_nrm hl L) fun G3 s3 hr3 => ⟨rfl, k x G3 ((s1.trans s2).trans s3) hr3⟩
end
end CP

end
section
set_option autoImplicit false
set_option Elab.async false
set_option linter.all false
set_option maxRecDepth 100000
set_option maxHeartbeats 4000000
/-! ## lows, stairs, forms, fates: a mirror -/
namespace M
def lastT (acc : List Gate) : Int := match acc.getLast? with
  | some g => g.thr
  | none => 0
def lowStep (acc : List Gate) (g : Gate) : List Gate := if acc = [] ∨ g.thr < lastT acc then acc ++ [g] else acc
def lowsOf (l : List Gate) : List Gate := l.foldl lowStep []
theorem foldl_snoc {α β : Type} (f : β → α → β) (b : β) {l : List α} {i : Nat} {x : α} (h : l[i]? = some x) : (l.take (i + 1)).foldl f b = f ((l.take i).foldl f b) x := by
  rw [show l.take (i + 1) = l.take i ++ [x] by rw [List.take_add_one, h]; rfl, List.foldl_append]
  rfl
theorem lows_len : ∀ (l acc : List Gate), (l.foldl lowStep acc).length ≤ acc.length + l.length
  | [], acc => Nat.le_refl _
  | g :: l, acc => by
    have a := lows_len l (lowStep acc g)
    have b : (lowStep acc g).length ≤ acc.length + 1 := by
      unfold lowStep
      split
      · rw [List.length_append]
        exact Nat.le_refl _
      · omega
    rw [List.foldl_cons, List.length_cons]
    omega
def over (L : Option Int) (z : Int) : Bool := match L with
  | some u => decide (z ≥ u)
  | none => false
abbrev Stair := Int × Option Int
def stStep (L : Option Int) (acc : List Stair) (g : Gate) : List Stair :=
  if over L g.thr = true then acc else (if acc.getLast?.map (·.2) = some g.ans then acc.dropLast else acc) ++ [(g.thr, g.ans)]
def stairsOf (L : Option Int) (l : List Gate) : List Stair := l.foldl (stStep L) []
theorem stairs_len (L : Option Int) : ∀ (l : List Gate) (acc : List Stair), (l.foldl (stStep L) acc).length ≤ acc.length + l.length
  | [], acc => Nat.le_refl _
  | g :: l, acc => by
    have a := stairs_len L l (stStep L acc g)
    have b : (stStep L acc g).length ≤ acc.length + 1 := by
      unfold stStep
      split
      · omega
      · split
        · rw [List.length_append, List.length_dropLast]
          simp
        · rw [List.length_append]
          exact Nat.le_refl _
    rw [List.foldl_cons, List.length_cons]
    omega
def Way.lows (se : Bool) (w : Way) : List Gate := lowsOf (Way.gates se w)
theorem Way.lows_len (se : Bool) {w : Way} (h : w.size ≤ 40) : (Way.lows se w).length ≤ 80 := by
  have a := M.lows_len (Way.gates se w) []
  have b := Way.gates_len se w
  unfold Way.lows lowsOf
  simp only [List.length_nil] at a
  omega
theorem lows_mem : ∀ (l acc : List Gate), ∀ g ∈ l.foldl lowStep acc, g ∈ acc ∨ g ∈ l
  | [], acc, g, h => .inl h
  | x :: l, acc, g, h => by
    rcases lows_mem l (lowStep acc x) g h with h | h
    · unfold lowStep at h
      split at h
      · rcases List.mem_append.mp h with h | h
        · exact .inl h
        · rw [List.mem_singleton.mp h]
          exact .inr List.mem_cons_self
      · exact .inl h
    · exact .inr (List.mem_cons_of_mem _ h)
theorem Way.lows_mem {se : Bool} {w : Way} {g : Gate} (h : g ∈ Way.lows se w) : g ∈ Way.gates se w := by
  rcases M.lows_mem _ _ g h with h | h
  · cases h
  · exact h
def Way.stairs (se : Bool) (L : Option Int) (w : Way) : List Stair := stairsOf L (Way.lows se w)
def limOf (s : List Stair) (L : Option Int) : Option Int := match s.getLast? with
  | some x => some (max x.1 0)
  | none => L
inductive FateA where
  | silent (place : List Nat)
  | told (ans : Int) (place : List Nat)
  | comes (pieces : Nat) (last : Int)
end M
namespace CP
open PySem L2 G Y
abbrev sLows : Stmt := S.top 56
abbrev sChainOf : Stmt := S.top 73
abbrev sStairs : Stmt := S.top 76
abbrev sForm : Stmt := S.top 74
abbrev sFate : Stmt := S.top 75
theorem GsAt.last {H : Hp} {c : M.Gate} : ∀ {l : List M.Gate} {xs : List V}, GsAt H (l ++ [c]) xs → ∃ r v, xs = r ++ [v] ∧ GsAt H l r ∧ GAt H c v
  | [], xs, h => by
    cases h with
    | cons e h2 =>
      cases h2
      exact ⟨[], _, rfl, .nil, e⟩
  | x :: l, xs, h => by
    cases h with
    | cons e h2 =>
      obtain ⟨r, v, rfl, h3, h4⟩ := GsAt.last (l := l) h2
      exact ⟨_ :: r, v, rfl, .cons e h3, h4⟩
/-- a stair stands at a value -/
def SAt (H : Hp) (s : M.Stair) (v : V) : Prop := ∃ t, v = .ref t ∧ H t = some (.tup [.int s.1, ansV s.2])
inductive SsAt (H : Hp) : List M.Stair → List V → Prop
  | nil : SsAt H [] []
  | cons {g : M.Stair} {l : List M.Stair} {v : V} {xs : List V} : SAt H g v → SsAt H l xs → SsAt H (g :: l) (v :: xs)
theorem SsAt.mono {H H' : Hp} (s : Same H H') {l : List M.Stair} {xs : List V} (h : SsAt H l xs) : SsAt H' l xs := by
  induction h with
  | nil => exact .nil
  | cons e _ ih =>
    obtain ⟨t, e, h1⟩ := e
    exact .cons ⟨t, e, s _ _ h1⟩ ih
theorem SsAt.keep {H H' : Hp} (s : KeepT H H') {l : List M.Stair} {xs : List V} (h : SsAt H l xs) : SsAt H' l xs := by
  induction h with
  | nil => exact .nil
  | cons e _ ih =>
    obtain ⟨t, e, h1⟩ := e
    exact .cons ⟨t, e, s _ _ (fun _ z => by cases z) h1⟩ ih
theorem SsAt.snoc {H : Hp} {l : List M.Stair} {xs : List V} {g : M.Stair} {v : V} (h : SsAt H l xs) (e : SAt H g v) : SsAt H (l ++ [g]) (xs ++ [v]) := by
  induction h with
  | nil => exact .cons e .nil
  | cons e2 _ ih => exact .cons e2 ih
theorem SsAt.len {H : Hp} {l : List M.Stair} {xs : List V} (h : SsAt H l xs) : xs.length = l.length := by
  induction h with
  | nil => rfl
  | cons _ _ ih => rw [List.length_cons, List.length_cons, ih]
theorem SsAt.last {H : Hp} {c : M.Stair} : ∀ {l : List M.Stair} {xs : List V}, SsAt H (l ++ [c]) xs → ∃ r v, xs = r ++ [v] ∧ SsAt H l r ∧ SAt H c v
  | [], xs, h => by
    cases h with
    | cons e h2 =>
      cases h2
      exact ⟨[], _, rfl, .nil, e⟩
  | x :: l, xs, h => by
    cases h with
    | cons e h2 =>
      obtain ⟨r, v, rfl, h3, h4⟩ := SsAt.last (l := l) h2
      exact ⟨_ :: r, v, rfl, .cons e h3, h4⟩
theorem iteP {p : Prop} [Decidable p] {A B : Prop} (h : p) (a : A) : if decide p = true then A else B := by
  rw [decide_eq_true h]
  exact a
theorem iteN {p : Prop} [Decidable p] {A B : Prop} (h : ¬ p) (b : B) : if decide p = true then A else B := by
  rw [decide_eq_false h]
  exact b
theorem set_k {te : TE} {i : Nat} {t2 : TS} {D : Ends} {σ : L2.St} {H : Hp} (Z : V → Hp → Prop) (k : ∀ v H', Z v H' → t2 D (σ.set i (some v)) H') (h : (∀ v H', Z v H' → t2 D (σ.set i (some v)) H') → te σ H fun v H1 => t2 D (σ.set i (some v)) H1) : tSeq (tAsg te (gName i)) t2 D σ H := h k
theorem ans_eq (a b : Option Int) : scal (ansV a) (ansV b) = true ∧ decide (ansV a = ansV b) = decide (a = b) := by
  cases a with
  | none => cases b with
    | none => exact ⟨rfl, rfl⟩
    | some y => exact ⟨rfl, (decide_eq_false (fun h => by cases h)).trans (decide_eq_false (fun h => by cases h)).symm⟩
  | some x => cases b with
    | none => exact ⟨rfl, (decide_eq_false (fun h => by cases h)).trans (decide_eq_false (fun h => by cases h)).symm⟩
    | some y =>
      refine ⟨rfl, ?_⟩
      by_cases h : x = y
      · subst h
        exact (decide_eq_true rfl).trans (decide_eq_true rfl).symm
      · exact (decide_eq_false (fun z => h (V.int.inj z))).trans (decide_eq_false (fun z => h (Option.some.inj z))).symm
section
variable {P : Program} {w : World} {K : PySem.W.Frag} {mg : Str → Option Value} {base : Heap} {C CW : Addr}
/-! ### lows -/
def spLows (CW : Addr) (n : Nat) : Sp := fun vs H Q _ => ∃ (a : Addr) (se : Bool) (wy : M.Way), vs = [.ref a, .bl se] ∧ WP.WayAt CW H wy a ∧ M.Way.fine wy ∧ wy.depth ≤ n ∧ ∀ D xs H', Same H H' → H D = none → H' D = some (.lst xs) → GsAt H' (M.Way.lows se wy) xs → Q (.ref D) H'
theorem scLo : FnScope ["way", "sealed", "found", "gate"] ["way", "sealed"] (defScope sLows) := ⟨rfl, rfl, rfl, by decide +kernel, rfl, by decide +kernel, by decide +kernel⟩
theorem ok_lows {k n : Nat} {f : Addr} {fd : FuncData} (F : Fun K "lows" "lows" sLows f fd) (B : Bn mg) (DG : Dg P w K mg base k "gates" ["way", "sealed"] ["sealed"] (spGates CW n)) : FnOk P w K mg base CX0 (k + 1) f fd ["way", "sealed"] (spLows CW n) := by
  obtain ⟨fG, fdG, GG, gG, kG, bG⟩ := DG.ex
  refine F.ok scLo (fun vs H Q E h => ?_) (fun cdv A outer s H vs Q E hr h => ?_)
  · obtain ⟨a, se, wy, rfl, _⟩ := h
    rfl
  · obtain ⟨a, se, wy, rfl, hw, hf, hd, kk⟩ := h
    refine ⟨_, pss_cons (ps_set (i := 2) scLo.nd rfl (Or.inl rfl) (pe_lst pa_nil))
      (pss_cons (ps_for PassesOwn.never rfl (pi_list (pe_callK GG (hr.mono (by omega)) rfl gG kG bG pass0 (pa_cons (pv 0) pa_nil) (pk_cons (pv 1) pk_nil))) (pg_name (i := 3) scLo.nd rfl (Or.inl rfl)) (pss_one (ps_if (PW.pt (pw_or (pt_cmpR (op_eq) (pe_callB call_len_seq (by rfl) B.len PySem.boot_len (pa_cons (pv 2) pa_nil)) (pe_int) (nomark _)) (pw_or1 (pt_cmpR (op_lt) (pe_ix ix_tup (pv 3) (pe_int) (fun _ _ => rfl)) (pe_ix ix_tup (pe_ix ix_list (pv 2) (pe_un un_neg pe_int) (fun _ _ => rfl)) (pe_int) (fun _ _ => rfl)) (nomark _))))) (pss_one (ps_expr (pe_bm PySem.F.plainAttrs_list PySem.F.slot_list_append PySem.F.type_list_append mt_append (pv 2) (pa_cons (pv 3) pa_nil)))) (pss_nil))))
      (pss_one (ps_ret (pv 2)))), ?_⟩
    have gl := M.Way.gates_len se wy
    have fz := (fine_all hf).2.2
    refine set_then (i := 2) ⟨line2.2.2.2, fun D hD => ?_⟩
    have s1 := of_upd (o := .lst []) hD
    have eD0 : upd H D (.lst []) D = some (.lst []) := upd_same
    refine ⟨_, rfl, _, rfl, a, se, wy, rfl, hw.mono s1, hf, hd, fun E xsE H2 s2 nE eE gE => ?_⟩
    have s3 := s1.trans s2
    have nED : E ≠ D := fun z => by
      rw [z, eD0] at nE
      cases nE
    unfold M.Way.lows M.lowsOf at kk
    generalize M.Way.gates se wy = gs at gE gl kk
    have lE := gE.len
    refine ⟨E, rfl, ⟨_, SqL.of eE⟩, ?_⟩
    refine for_it walk_list (fun j σ G => Same H G ∧ G E = some (.lst xsE) ∧ GsAt G gs xsE ∧ ∃ (ys : List V) (u : Option V), σ = [some (.ref a), some (.bl se), some (.ref D), u] ∧ G D = some (.lst ys) ∧ GsAt G ((gs.take j).foldl M.lowStep []) ys)
      ⟨s3, eE, gE, [], _, rfl, s2 _ _ eD0, .nil⟩ (fun j σ G _ z => SqL.of z.2.1) ?_ ?_
    · rintro j v σ G G' hj ⟨s4, e4, g4, ys, u, rfl, eD, gD⟩ ⟨rfl, hx⟩
      obtain ⟨g, hg, hgat⟩ := g4.get hx
      have lD := gD.len
      have lL := M.lows_len (gs.take j) []
      have lK := List.length_take_le j gs
      simp only [List.length_nil] at lL
      have nx := M.foldl_snoc M.lowStep [] hg
      generalize (gs.take j).foldl M.lowStep [] = acc at gD lD lL nx
      have app : M.lowStep acc g = acc ++ [g] → Same H (upd G' D (.lst (ys ++ [v]))) ∧ upd G' D (.lst (ys ++ [v])) E = some (.lst xsE) ∧ GsAt (upd G' D (.lst (ys ++ [v]))) gs xsE ∧ ∃ (ys2 : List V) (u : Option V), [some (V.ref a), some (.bl se), some (.ref D), some v] = [some (.ref a), some (.bl se), some (.ref D), u] ∧ upd G' D (.lst (ys ++ [v])) D = some (.lst ys2) ∧ GsAt (upd G' D (.lst (ys ++ [v]))) ((gs.take (j + 1)).foldl M.lowStep []) ys2 := fun h => by
        have kp := put_keepT (o := .lst (ys ++ [v])) eD
        refine ⟨add_upd hD s4, ?_, g4.keep kp, _, _, rfl, upd_same, ?_⟩
        · rw [upd_ne nED]
          exact e4
        · rw [nx, h]
          obtain ⟨t, q, rfl, f1, f2⟩ := hgat
          exact (gD.keep kp).snoc ⟨t, q, rfl, kp _ _ (fun _ z => by cases z) f1, kp _ _ (fun _ z => by cases z) f2⟩
      refine ⟨_, rfl, D, _, rfl, .inl (SqL.of eD), rfl, _, rfl, ?_⟩
      rcases List.eq_nil_or_concat acc with e | ⟨r, y, e⟩
      · subst e
        have e0 : ys.length = 0 := lD
        refine iteP (by rw [e0]; rfl) (iteT ⟨_, rfl, .inl ⟨rfl, _, SqL.of eD⟩, _, rfl, D, ys, _, rfl, rfl, eD, small1000 (by omega), app ?_⟩)
        unfold M.lowStep
        rw [if_pos (.inl rfl)]
      · rw [List.concat_eq_append] at e
        subst e
        obtain ⟨ry, vy, rfl, _, hy⟩ := gD.last
        obtain ⟨t, q, rfl, f1, f2⟩ := id hgat
        obtain ⟨ty, qy, rfl, y1, y2⟩ := hy
        have i1 : ∀ {q : Addr} {z : Int} {o : V}, atI [V.ref q, .int z, o] (1 : Int) = some (.int z) := fun {q z o} => by exact atI_nat (j := 1) rfl
        refine iteN (fun z => by injection z with z; simp at z; omega) ⟨_, rfl, t, _, _, _, rfl, rfl, SqT.of f1, i1, _, rfl, _, rfl, D, _, _, _, rfl, rfl, SqL.of eD, atI_last _ _, ty, _, _, _, rfl, rfl, SqT.of y1, i1, _, _, rfl, rfl, _, rfl, ?_⟩
        have eL : M.lastT (r ++ [y]) = y.thr := by
          unfold M.lastT
          rw [List.getLast?_append]
          rfl
        refine ite2 (fun c => ?_) (fun c => ?_)
        · have c2 : g.thr < y.thr := of_decide_eq_true c
          refine ⟨_, rfl, .inl ⟨rfl, _, SqL.of eD⟩, _, rfl, D, _, _, rfl, rfl, eD, small1000 (by omega), app ?_⟩
          unfold M.lowStep
          rw [if_pos (.inr (by rw [eL]; exact c2))]
        · have c2 : ¬ g.thr < y.thr := fun z => c (decide_eq_true z)
          refine ⟨s4, e4, g4, _, _, rfl, eD, ?_⟩
          rw [nx]
          unfold M.lowStep
          rw [if_neg (by rintro (z | z); exact absurd z (by simp); rw [eL] at z; exact c2 z)]
          exact gD
    · rintro σ G ⟨s4, e4, g4, ys, u, rfl, eD, gD⟩
      rw [lE, List.take_length] at gD
      exact ⟨_, rfl, kk D ys G s4 hD eD gD⟩
/-! ### chain_of -/
def spChainOf (C CW : Addr) : Sp := fun vs H Q _ => ∃ (a : Addr) (wy : M.Way), vs = [.ref a] ∧ WP.WayAt CW H wy a ∧ M.Way.fine wy ∧ ∀ c H', Same H H' → ChAt C H' (M.chE false wy.head wy.steps []) c → Q (.ref c) H'
theorem scCo : FnScope ["way"] ["way"] (defScope sChainOf) := ⟨rfl, rfl, rfl, by decide +kernel, rfl, by decide +kernel, by decide +kernel⟩
theorem ok_chainof {f : Addr} {fd : FuncData} (F : Fun K "chain_of" "chain_of" sChainOf f fd) (DC : Df P w K mg base 7 "chains_before" ["way", "sealed"] (spChB C CW)) : FnOk P w K mg base CX0 8 f fd ["way"] (spChainOf C CW) := by
  obtain ⟨fC, fdC, GC, gC, kC, bC⟩ := DC.ex
  refine F.ok scCo (fun vs H Q E h => ?_) (fun cdv A outer s H vs Q E hr h => ?_)
  · obtain ⟨a, wy, rfl, _⟩ := h
    rfl
  · obtain ⟨a, wy, rfl, hw, hf, kk⟩ := h
    refine ⟨_, pss_one (ps_ret (pe_ix ix_list (pe_call GC (hr.mono (by omega)) rfl gC kC bC .nil pass0 (pa_cons (pv 0) (pa_cons (pe_bl) pa_nil))) (pe_un un_neg pe_int) (fun _ _ => rfl))), ?_⟩
    refine ⟨_, rfl, a, false, wy, rfl, hw, hf, fun D2 xs2 H2 s2 n2 e2 g2 => ?_⟩
    obtain ⟨X, eX⟩ := M.chB_last false wy.head wy.steps []
    rw [eX] at g2
    obtain ⟨r2, a2, rfl, hc2⟩ := g2.last
    exact ⟨_, rfl, D2, _, _, _, rfl, rfl, SqL.of e2, atI_last _ _, kk a2 H2 s2 hc2⟩
/-! ### stairs -/
def spStairs (CW : Addr) (n : Nat) : Sp := fun vs H Q _ => ∃ (a : Addr) (se : Bool) (wy : M.Way) (L : Option Int), vs = [.ref a, .bl se, lmV L] ∧ WP.WayAt CW H wy a ∧ M.Way.fine wy ∧ wy.depth ≤ n ∧ ∀ T xs H', Same H H' → H' T = some (.tup xs) → SsAt H' (M.Way.stairs se L wy) xs → Q (.ref T) H'
abbrev NSr : List Str := ["way", "sealed", "upto", "stairs", "_", "threshold", "answer"]
theorem scSr : FnScope NSr ["way", "sealed", "upto"] (defScope sStairs) := ⟨rfl, rfl, rfl, by decide +kernel, rfl, by decide +kernel, by decide +kernel⟩
theorem ok_stairs {k n : Nat} {f : Addr} {fd : FuncData} (F : Fun K "_stairs" "_stairs" sStairs f fd) (B : Bn mg) (DG : Dg P w K mg base k "lows" ["way", "sealed"] ["sealed"] (spLows CW n)) : FnOk P w K mg base CX0 (k + 1) f fd ["way", "sealed", "upto"] (spStairs CW n) := by
  obtain ⟨fG, fdG, GG, gG, kG, bG⟩ := DG.ex
  refine F.ok scSr (fun vs H Q E h => ?_) (fun cdv A outer s H vs Q E hr h => ?_)
  · obtain ⟨a, se, wy, L, rfl, _⟩ := h
    rfl
  · obtain ⟨a, se, wy, L, rfl, hw, hf, hd, kk⟩ := h
    refine ⟨_, pss_cons (ps_set (i := 3) scSr.nd rfl (Or.inl rfl) (pe_lst pa_nil))
      (pss_cons (ps_for PassesOwn.never rfl (pi_list (pe_callK GG (hr.mono (by omega)) rfl gG kG bG pass0 (pa_cons (pv 0) pa_nil) (pk_cons (pv 1) pk_nil))) (pg_tup (by rfl) (pgs_cons (pg_name (i := 4) scSr.nd rfl (Or.inl rfl)) (pgs_cons (pg_name (i := 5) scSr.nd rfl (Or.inl rfl)) (pgs_cons (pg_name (i := 6) scSr.nd rfl (Or.inl rfl)) pgs_nil)))) (pss_cons (ps_if (PW.pt (pw_and (pt_cmp (pc_notN (pv 2))) (pw_and1 (pt_cmpR (op_ge) (pv 5) (pv 2) (nomark _))))) (pss_one (ps_continue)) (pss_nil))
      (pss_cons (ps_if (PW.pt (pw_and (pt_cmpR (op_gt) (pe_callB call_len_seq (by rfl) B.len PySem.boot_len (pa_cons (pv 3) pa_nil)) (pe_int) (nomark _)) (pw_and1 (pt_cmpR (op_eq) (pe_ix ix_tup (pe_ix ix_list (pv 3) (pe_un un_neg pe_int) (fun _ _ => rfl)) (pe_int) (fun _ _ => rfl)) (pv 6) (nomark _))))) (pss_one (ps_expr (pe_bm0 PySem.F.plainAttrs_list PySem.F.slot_list_pop PySem.F.type_list_pop mt_pop (pv 3)))) (pss_nil))
      (pss_one (ps_expr (pe_bm PySem.F.plainAttrs_list PySem.F.slot_list_append PySem.F.type_list_append mt_append (pv 3) (pa_cons (pe_tup (pa_cons (pv 5) (pa_cons (pv 6) pa_nil))) pa_nil)))))))
      (pss_one (ps_ret (pe_callTy call_tuple_of (by rfl) B.tuple (by decide +kernel) (pa_cons (pv 3) pa_nil))))), ?_⟩
    have fz := (fine_all hf).2.2
    have gl := M.Way.lows_len se fz
    refine set_then (i := 3) ⟨line2.2.2.2, fun D hD => ?_⟩
    have s1 := of_upd (o := .lst []) hD
    have eD0 : upd H D (.lst []) D = some (.lst []) := upd_same
    refine ⟨_, rfl, _, rfl, a, se, wy, rfl, hw.mono s1, hf, hd, fun E xsE H2 s2 nE eE gE => ?_⟩
    have s3 := s1.trans s2
    have nED : E ≠ D := fun z => by
      rw [z, eD0] at nE
      cases nE
    unfold M.Way.stairs M.stairsOf at kk
    generalize M.Way.lows se wy = gs at gE gl kk
    have lE := gE.len
    refine ⟨E, rfl, ⟨_, SqL.of eE⟩, ?_⟩
    refine for_it walk_list (fun j σ G => Same H G ∧ G E = some (.lst xsE) ∧ GsAt G gs xsE ∧ ∃ (ys : List V) (p q r : Option V), σ = [some (.ref a), some (.bl se), some (lmV L), some (.ref D), p, q, r] ∧ G D = some (.lst ys) ∧ SsAt G ((gs.take j).foldl (M.stStep L) []) ys)
      ⟨s3, eE, gE, [], _, _, _, rfl, s2 _ _ eD0, .nil⟩ (fun j σ G _ z => SqL.of z.2.1) ?_ ?_
    · rintro j v σ G G' hj ⟨s4, e4, g4, ys, p, q, r, rfl, eD, gD⟩ ⟨rfl, hx⟩
      obtain ⟨g, hg, t, qp, rfl, f1, f2⟩ := g4.get hx
      have lD := gD.len
      have lL := M.stairs_len L (gs.take j) []
      have lK := List.length_take_le j gs
      simp only [List.length_nil] at lL
      have nx := M.foldl_snoc (M.stStep L) [] hg
      generalize (gs.take j).foldl (M.stStep L) [] = acc at gD lD lL nx
      refine ⟨t, _, rfl, SqT.of f1, rfl, _, _, rfl, _, _, rfl, _, _, rfl, rfl, ?_⟩
      have i1 : ∀ {z o : V}, atI [z, o] (1 : Int) = some o := fun {z o} => by exact atI_nat (j := 1) rfl
      refine if_then (fun σ' G5 => M.over L g.thr = false ∧ G5 = G' ∧ σ' = [some (V.ref a), some (.bl se), some (lmV L), some (.ref D), some (.ref qp), some (.int g.thr), some (ansV g.ans)]) ?r1 (fun k1 => ?_)
      case r1 =>
        rintro σ' G5 ⟨h0, eG, eσ⟩
        rw [eG, eσ]
        have e0 : M.stStep L acc g = (if acc.getLast?.map (·.2) = some g.ans then acc.dropLast else acc) ++ [(g.thr, g.ans)] := by
          unfold M.stStep
          rw [if_neg (by rw [h0]; decide)]
        refine if_then (fun σ' G5 => ∃ (ys5 : List V) (acc5 : List M.Stair), σ' = [some (V.ref a), some (.bl se), some (lmV L), some (.ref D), some (.ref qp), some (.int g.thr), some (ansV g.ans)] ∧ Same H G5 ∧ G5 E = some (.lst xsE) ∧ GsAt G5 gs xsE ∧ G5 D = some (.lst ys5) ∧ SsAt G5 acc5 ys5 ∧ ys5.length ≤ 80 ∧ M.stStep L acc g = acc5 ++ [(g.thr, g.ans)]) ?r2 (fun k2 => ?_)
        case r2 =>
          rintro σ' G6 ⟨ys5, acc5, rfl, s5, e5, g5, eD5, gD5, l5, h5⟩
          refine ⟨_, rfl, .inl ⟨rfl, _, SqL.of eD5⟩, _, rfl, _, rfl, line2.1, fun t2 ht2 => ?_⟩
          have m2 := of_upd (o := .tup [V.int g.thr, ansV g.ans]) ht2
          have eD6 := m2 _ _ eD5
          have kp := put_keepT (o := .lst (ys5 ++ [.ref t2])) eD6
          refine ⟨D, ys5, _, rfl, rfl, eD6, small1000 (by omega), add_upd hD (s5.trans m2), ?_, (g5.mono m2).keep kp, _, _, _, _, rfl, upd_same, ?_⟩
          · rw [upd_ne nED]
            exact m2 _ _ e5
          · rw [nx, h5]
            exact ((gD5.mono m2).keep kp).snoc ⟨t2, rfl, kp _ _ (fun _ z => by cases z) upd_same⟩
        refine ⟨_, rfl, D, _, rfl, .inl (SqL.of eD), _, _, rfl, rfl, _, rfl, ?_⟩
        rcases List.eq_nil_or_concat acc with e | ⟨ra, y, e⟩
        · subst e
          have e1 : ys.length = 0 := lD
          exact iteN (by rw [e1]; decide) (iteF (k2 _ _ ⟨ys, [], rfl, s4, e4, g4, eD, gD, by omega, e0⟩))
        · rw [List.concat_eq_append] at e
          subst e
          obtain ⟨ry, vy, rfl, gr, ty, rfl, y1⟩ := gD.last
          rw [List.getLast?_append, List.dropLast_concat] at e0
          refine iteP (by simp) ⟨_, rfl, _, rfl, D, _, _, _, rfl, rfl, SqL.of eD, atI_last _ _, ty, _, _, _, rfl, rfl, SqT.of y1, i1, _, rfl, (ans_eq y.2 g.ans).1, _, rfl, ?_⟩
          rw [(ans_eq y.2 g.ans).2]
          refine ite2 (fun c => ?_) (fun c => ?_)
          · have c2 : y.2 = g.ans := of_decide_eq_true c
            have kp := put_keepT (o := .lst ry) eD
            refine ⟨_, rfl, .inl ⟨rfl, _, SqL.of eD⟩, D, _, _, rfl, rfl, eD, (by show (ry ++ [V.ref ty])[(ry ++ [V.ref ty]).length - 1]? = some (V.ref ty); simp), ?_⟩
            rw [List.dropLast_concat]
            refine k2 _ _ ⟨ry, ra, rfl, add_upd hD s4, ?_, g4.keep kp, upd_same, gr.keep kp, ?_, ?_⟩
            · rw [upd_ne nED]
              exact e4
            · rw [List.length_append] at lD
              simp at lD lL
              omega
            · rw [e0, if_pos (by simp [c2])]
          · have c2 : ¬ y.2 = g.ans := fun z => c (decide_eq_true z)
            refine k2 _ _ ⟨_, _, rfl, s4, e4, g4, eD, gD, by omega, ?_⟩
            rw [e0, if_neg (by simp [c2])]
      cases L with
      | none => exact ⟨_, rfl, _, rfl, iteF (iteF (k1 _ _ ⟨rfl, rfl, rfl⟩))⟩
      | some u =>
        refine ⟨_, rfl, _, rfl, iteT ⟨_, rfl, _, rfl, _, _, rfl, rfl, _, rfl, ite2 (fun c => ?_) (fun c => ?_)⟩⟩
        · refine ⟨s4, e4, g4, ys, _, _, _, rfl, eD, ?_⟩
          rw [nx]
          unfold M.stStep M.over
          rw [if_pos c]
          exact gD
        · refine k1 _ _ ⟨?_, rfl, rfl⟩
          unfold M.over
          exact Bool.eq_false_iff.mpr c
    · rintro σ G ⟨s4, e4, g4, ys, p, q, r, rfl, eD, gD⟩
      rw [lE, List.take_length] at gD
      exact ⟨_, rfl, D, ys, rfl, .inl ⟨SqL.of eD, fun t2 ht2 => kk t2 ys _ (s4.trans (of_upd ht2)) upd_same (gD.mono (of_upd ht2))⟩⟩
/-! ### form -/
def FormAt (C : Addr) (H : Hp) (L : Option Int) (wy : M.Way) (t : Addr) : Prop := ∃ (s1 s2 c : Addr) (xs1 xs2 : List V), H t = some (.tup [.ref s1, .ref s2, .ref c]) ∧ H s1 = some (.tup xs1) ∧ SsAt H (M.Way.stairs true L wy) xs1 ∧ H s2 = some (.tup xs2) ∧ SsAt H (M.Way.stairs false L wy) xs2 ∧
  ChAt C H (N.nrm (N.fm (M.chE false wy.head wy.steps [])) (nn (M.chE false wy.head wy.steps []) (M.limOf (M.Way.stairs false L wy) L))) c
def spForm (C CW : Addr) (n : Nat) : Sp := fun vs H Q _ => ∃ (a : Addr) (wy : M.Way) (L : Option Int), vs = [.ref a, lmV L] ∧ WP.WayAt CW H wy a ∧ M.Way.fine wy ∧ wy.depth ≤ n ∧ (∀ z, L = some z → 0 ≤ z) ∧ ∀ t H', Same H H' → FormAt C H' L wy t → Q (.ref t) H'
abbrev NFm : List Str := ["way", "upto", "loose_stairs", "limit"]
theorem scFm : FnScope NFm ["way", "upto"] (defScope sForm) := ⟨rfl, rfl, rfl, by decide +kernel, rfl, by decide +kernel, by decide +kernel⟩
theorem ok_form {k n : Nat} {f : Addr} {fd : FuncData} (F : Fun K "form" "form" sForm f fd) (hk : 8 ≤ k) (B : Bn mg) (DS : Df P w K mg base k "_stairs" ["way", "sealed", "upto"] (spStairs CW n)) (DC : Df P w K mg base 8 "chain_of" ["way"] (spChainOf C CW)) (DN : Dg P w K mg base 6 "normal" ["chain", "limit"] ["limit"] (spNormal C)) :
    FnOk P w K mg base CX0 (k + 1) f fd ["way", "upto"] (spForm C CW n) := by
  obtain ⟨fS, fdS, GS, gS, kS, bS⟩ := DS.ex
  obtain ⟨fC, fdC, GC, gC, kC, bC⟩ := DC.ex
  obtain ⟨fN, fdN, GN, gN, kN, bN⟩ := DN.ex
  refine F.ok scFm (fun vs H Q E h => ?_) (fun cdv A outer s H vs Q E hr h => ?_)
  · obtain ⟨a, wy, L, rfl, _⟩ := h
    rfl
  · obtain ⟨a, wy, L, rfl, hw, hf, hd, hL, kk⟩ := h
    refine ⟨_, pss_cons (ps_set (i := 2) scFm.nd rfl (Or.inl rfl) (pe_call GS (hr.mono (by omega)) rfl gS kS bS .nil pass0 (pa_cons (pv 0) (pa_cons (pe_bl) (pa_cons (pv 1) pa_nil)))))
      (pss_cons (ps_set (i := 3) scFm.nd rfl (Or.inl rfl) (pe_ifExp (pt_cmpR (op_gt) (pe_callB call_len_seq (by rfl) B.len PySem.boot_len (pa_cons (pv 2) pa_nil)) (pe_int) (nomark _)) (pe_callB (call_max2 rfl) (by rfl) B.max (by decide +kernel) (pa_cons (pe_ix ix_tup (pe_ix ix_tup (pv 2) (pe_un un_neg pe_int) (fun _ _ => rfl)) (pe_int) (fun _ _ => rfl)) (pa_cons (pe_int) pa_nil))) (pv 1)))
      (pss_one (ps_ret (pe_tup (pa_cons (pe_call GS (hr.mono (by omega)) rfl gS kS bS .nil pass0 (pa_cons (pv 0) (pa_cons (pe_bl) (pa_cons (pv 1) pa_nil)))) (pa_cons (pv 2) (pa_cons (pe_callK GN (hr.mono (by omega)) rfl gN kN bN pass0 (pa_cons (pe_call GC (hr.mono (by omega)) rfl gC kC bC .nil pass0 (pa_cons (pv 0) pa_nil)) pa_nil) (pk_cons (pv 3) pk_nil)) pa_nil))))))), ?_⟩
    have ckE : M.Ck (M.chE false wy.head wy.steps []) := M.ck_all M.ck_nil (fine_all hf).1
    refine set_then (i := 2) ⟨_, rfl, _, rfl, a, false, wy, L, rfl, hw, hf, hd, fun T1 xs1 H1 s1 e1 g1 => ?_⟩
    refine set_k (fun v G => v = lmV (M.limOf (M.Way.stairs false L wy) L) ∧ G = H1) (fun v G hv => ?_) (fun k1 => ?_)
    · obtain ⟨rfl, rfl⟩ := hv
      refine ⟨_, rfl, _, rfl, a, true, wy, L, rfl, hw.mono s1, hf, hd, fun T2 xs2 H2 s2 e2 g2 => ?_⟩
      refine ⟨_, rfl, _, rfl, a, wy, rfl, (hw.mono s1).mono s2, hf, fun c H3 s3 hc => ?_⟩
      refine ⟨_, rfl, c, _, _, rfl, hc, ck_cuts ckE, ?_, fun r H4 s4 hr4 => ?_⟩
      · intro z hz
        unfold M.limOf at hz
        split at hz
        · cases hz
          omega
        · exact hL z hz
      · refine ⟨line2.2.1, fun t ht => kk t _ ?_ ?_⟩
        · exact (((s1.trans s2).trans s3).trans s4).trans (of_upd ht)
        · have s34 := (s3.trans s4).trans (of_upd (o := .tup [V.ref T2, .ref T1, .ref r]) ht)
          have s24 := s2.trans s34
          exact ⟨T2, T1, r, xs2, xs1, upd_same, s34 _ _ e2, g2.mono s34, s24 _ _ e1, g1.mono s24, hr4.mono (of_upd ht)⟩
    · have l1 := g1.len
      unfold M.limOf at k1
      generalize M.Way.stairs false L wy = st at g1 k1 l1
      refine ⟨_, rfl, T1, _, rfl, .inr (SqT.of e1), _, _, rfl, rfl, _, rfl, ?_⟩
      rcases List.eq_nil_or_concat st with e | ⟨ra, y, e⟩
      · subst e
        have e0 : xs1.length = 0 := l1
        exact iteN (by rw [e0]; decide) ⟨_, rfl, k1 _ _ ⟨rfl, rfl⟩⟩
      · rw [List.concat_eq_append] at e
        subst e
        obtain ⟨ry, vy, rfl, gr, ty, rfl, y1⟩ := g1.last
        have i0 : ∀ {z o : V}, atI [z, o] (0 : Int) = some z := fun {z o} => by exact atI_nat (xs := [z, o]) (j := 0) rfl
        refine iteP (by simp) ⟨_, rfl, _, rfl, T1, _, _, _, rfl, rfl, SqT.of e1, atI_last _ _, ty, _, _, _, rfl, rfl, SqT.of y1, i0, _, _, rfl, k1 _ _ ⟨?_, rfl⟩⟩
        rw [List.getLast?_append]
        show V.int (if 0 > y.1 then 0 else y.1) = V.int (max y.1 0)
        congr 1
        split <;> omega
/-! ### fate -/
def FAt (H : Hp) (fa : M.FateA) (v : V) : Prop := match fa with
  | .silent p => ∃ t q, v = .ref t ∧ H t = some (.tup [.str "silent", .ref q]) ∧ H q = some (.tup (ni p))
  | .told z p => ∃ t q, v = .ref t ∧ H t = some (.tup [.str "told", .int z, .ref q]) ∧ H q = some (.tup (ni p))
  | .comes n l => ∃ t, v = .ref t ∧ H t = some (.tup [.str "comes", .int (n : Int), .int l])
def fateG (g : M.Gate) : M.FateA := match g.ans with
  | none => .silent g.place
  | some z => .told z g.place
def fateOf (l : List M.Gate) (b : Nat) (cs : List Nat) : M.FateA := match l.find? (fun g => decide (g.thr < (b : Int))) with
  | some g => fateG g
  | none => .comes (N.PC cs b) (stretchZ cs b (N.PC cs b))
def spFate (C CW : Addr) (n : Nat) : Sp := fun vs H Q _ => ∃ (a : Addr) (b : Nat) (se : Bool) (wy : M.Way), vs = [.ref a, .int (b : Int), .bl se] ∧ WP.WayAt CW H wy a ∧ M.Way.fine wy ∧ wy.depth ≤ n ∧ b ≤ 1000000000000000000 ∧ ∀ v H', Same H H' → FAt H' (fateOf (M.Way.lows se wy) b (M.chE se wy.head wy.steps [])) v → Q v H'
abbrev NFt : List Str := ["way", "body", "sealed", "place", "threshold", "answer", "chain", "pieces"]
theorem scFt : FnScope NFt ["way", "body", "sealed"] (defScope sFate) := ⟨rfl, rfl, rfl, by decide +kernel, rfl, by decide +kernel, by decide +kernel⟩
theorem PC_pos {cs : List Nat} (f : N.Fall cs) (b : Nat) : 1 ≤ N.PC cs b := by
  unfold N.PC
  split
  · exact Nat.le_refl _
  · exact N.L_pos cs f b (by omega)
theorem ok_fate {k n : Nat} {f : Addr} {fd : FuncData} (F : Fun K "fate" "fate" sFate f fd) (hk : 7 ≤ k) (T : Ct K mg C) (DB : Df P w K mg base 3 "is_body" ["value"] (WP.spIn1 0 1000000000000000000)) (DG : Dg P w K mg base k "lows" ["way", "sealed"] ["sealed"] (spLows CW n)) (DC : Df P w K mg base 7 "chains_before" ["way", "sealed"] (spChB C CW))
    (MP : Me P w K mg base C 2 "pieces" ["self", "body"] (spCPieces C)) (MX : Me P w K mg base C 3 "stretch" ["self", "body", "number"] (spCStretch C)) : FnOk P w K mg base CX0 (k + 1) f fd ["way", "body", "sealed"] (spFate C CW n) := by
  obtain ⟨fB, fdB, GB, gB, kB, bB⟩ := DB.ex
  obtain ⟨fG, fdG, GG, gG, kG, bG⟩ := DG.ex
  obtain ⟨fC, fdC, GC, gC, kC, bC⟩ := DC.ex
  obtain ⟨fP, fdP, GP, mP, bP⟩ := MP.ex
  obtain ⟨fX, fdX, GX, mX, bX⟩ := MX.ex
  refine F.ok scFt (fun vs H Q E h => ?_) (fun cdv A outer s H vs Q E hr h => ?_)
  · obtain ⟨a, b, se, wy, rfl, _⟩ := h
    rfl
  · obtain ⟨a, b, se, wy, rfl, hw, hf, hd, hb, kk⟩ := h
    refine ⟨_, pss_cons (ps_if (pt_not (pt_val (pe_call GB (hr.mono (by omega)) rfl gB kB bB .nil pass0 (pa_cons (pv 1) pa_nil)))) (ps_dead) (pss_nil))
      (pss_cons (ps_for PassesOwn.never rfl (pi_list (pe_callK GG (hr.mono (by omega)) rfl gG kG bG pass0 (pa_cons (pv 0) pa_nil) (pk_cons (pv 2) pk_nil))) (pg_tup (by rfl) (pgs_cons (pg_name (i := 3) scFt.nd rfl (Or.inl rfl)) (pgs_cons (pg_name (i := 4) scFt.nd rfl (Or.inl rfl)) (pgs_cons (pg_name (i := 5) scFt.nd rfl (Or.inl rfl)) pgs_nil)))) (pss_one (ps_if (pt_cmpR (op_lt) (pv 4) (pv 1) (nomark _)) (pss_one (ps_ret (pe_ifExp (pt_cmp (pc_isN (pv 5))) (pe_tup (pa_cons (pe_str) (pa_cons (pv 3) pa_nil))) (pe_tup (pa_cons (pe_str) (pa_cons (pv 5) (pa_cons (pv 3) pa_nil))))))) (pss_nil))))
      (pss_cons (ps_set (i := 6) scFt.nd rfl (Or.inl rfl) (pe_ix ix_list (pe_call GC (hr.mono (by omega)) rfl gC kC bC .nil pass0 (pa_cons (pv 0) (pa_cons (pv 2) pa_nil))) (pe_un un_neg pe_int) (fun _ _ => rfl)))
      (pss_cons (ps_set (i := 7) scFt.nd rfl (Or.inl rfl) (pe_meth (pv 6) T.cl mP GP (hr.mono (by omega)) bP .nil pass0 (pa_cons (pv 1) pa_nil)))
      (pss_one (ps_ret (pe_tup (pa_cons (pe_str) (pa_cons (pv 7) (pa_cons (pe_meth (pv 6) T.cl mX GX (hr.mono (by omega)) bX .nil pass0 (pa_cons (pv 1) (pa_cons (pv 7) pa_nil))) pa_nil))))))))), ?_⟩
    have ckE : M.Ck (M.chE se wy.head wy.steps []) := M.ck_all M.ck_nil (fine_all hf).1
    refine ⟨_, rfl, (b : Int), rfl, ?_⟩
    rw [decide_eq_true (by omega)]
    refine ⟨_, rfl, iteF ?_⟩
    refine ⟨_, rfl, _, rfl, a, se, wy, rfl, hw, hf, hd, fun E xsE H2 s2 nE eE gE => ?_⟩
    generalize M.Way.lows se wy = gs at gE kk
    have lE := gE.len
    unfold fateOf at kk
    refine ⟨E, rfl, ⟨_, SqL.of eE⟩, ?_⟩
    refine for_it walk_list (fun j σ G => G = H2 ∧ (∃ (p q r o u : Option V), σ = [some (.ref a), some (.int (b : Int)), some (.bl se), p, q, r, o, u]) ∧ gs.find? (fun g => decide (g.thr < (b : Int))) = (gs.drop j).find? (fun g => decide (g.thr < (b : Int))))
      ⟨rfl, ⟨_, _, _, _, _, rfl⟩, rfl⟩ (fun j σ G _ z => by rw [z.1]; exact SqL.of eE) ?_ ?_
    · rintro j v σ G G' hj ⟨rfl, ⟨p, q, r, o, u, rfl⟩, eq⟩ ⟨rfl, hx⟩
      obtain ⟨g, hg, t, qp, rfl, f1, f2⟩ := gE.get hx
      refine ⟨t, _, rfl, SqT.of f1, rfl, _, _, rfl, _, _, rfl, _, _, rfl, rfl, ?_⟩
      have ed : gs.drop j = g :: gs.drop (j + 1) := by
        obtain ⟨hi3, ex⟩ := List.getElem?_eq_some_iff.mp hg
        rw [← ex, ← List.drop_eq_getElem_cons hi3]
      rw [ed] at eq
      refine ⟨_, rfl, _, rfl, _, _, rfl, rfl, _, rfl, ite2 (fun c => ?_) (fun c => ?_)⟩
      · rw [List.find?_cons_of_pos (p := fun (g : M.Gate) => decide (g.thr < (b : Int))) c] at eq
        have kk : ∀ v H', Same H H' → FAt H' (fateG g) v → Q v H' := by
          rw [eq] at kk
          exact kk
        unfold fateG at kk
        refine ⟨_, rfl, ?_⟩
        cases ea : g.ans with
        | none =>
          rw [ea] at kk
          refine ⟨_, rfl, iteT ⟨_, rfl, line2.1, fun t2 ht2 => kk _ _ (s2.trans (of_upd ht2)) ?_⟩⟩
          exact ⟨t2, qp, rfl, upd_same, of_upd ht2 _ _ f2⟩
        | some z =>
          rw [ea] at kk
          refine ⟨_, rfl, iteF ⟨_, rfl, _, rfl, line2.2.1, fun t2 ht2 => kk _ _ (s2.trans (of_upd ht2)) ?_⟩⟩
          exact ⟨t2, qp, rfl, upd_same, of_upd ht2 _ _ f2⟩
      · refine ⟨rfl, ⟨_, _, _, _, _, rfl⟩, ?_⟩
        rw [eq, List.find?_cons_of_neg (p := fun (g : M.Gate) => decide (g.thr < (b : Int))) c]
    · rintro σ G ⟨rfl, ⟨p, q, r, o, u, rfl⟩, eq⟩
      rw [lE, List.drop_length] at eq
      have kk : ∀ v H', Same H H' → FAt H' (.comes (N.PC (M.chE se wy.head wy.steps []) b) (stretchZ (M.chE se wy.head wy.steps []) b (N.PC (M.chE se wy.head wy.steps []) b))) v → Q v H' := by
        rw [eq] at kk
        exact kk
      dsimp only
      refine set_then (i := 6) ?_
      refine ⟨_, rfl, _, rfl, a, se, wy, rfl, hw.mono s2, hf, fun D3 xs3 H3 s3 n3 e3 g3 => ?_⟩
      obtain ⟨X, eX⟩ := M.chB_last se wy.head wy.steps []
      rw [eX] at g3
      obtain ⟨r3, a3, rfl, hc3⟩ := g3.last
      refine ⟨_, rfl, D3, _, _, _, rfl, rfl, SqL.of e3, atI_last _ _, ?_⟩
      have pp := PC_pos ckE.fall b
      obtain ⟨dx, fs, i1, i2⟩ := hc3.ins nk2.1
      refine set_then (i := 7) ⟨_, rfl, a3, dx, fs, rfl, i1, i2, _, rfl, a3, b, _, rfl, hc3, ck_cuts ckE, fun H4 s4 => ?_⟩
      have hc4 := hc3.mono s4
      obtain ⟨dx, fs, i1, i2⟩ := hc4.ins nk2.2.2.2
      refine ⟨_, rfl, _, rfl, a3, dx, fs, rfl, i1, i2, _, rfl, _, rfl, a3, b, _, _, rfl, hc4, ck_cuts ckE, pp, Nat.le_refl _, fun H5 s5 => ?_⟩
      refine ⟨line2.2.1, fun t ht => kk _ _ ((((s2.trans s3).trans s4).trans s5).trans (of_upd ht)) ⟨t, rfl, upd_same⟩⟩
end
end CP

end
section
set_option autoImplicit false
set_option Elab.async false
set_option linter.all false
set_option maxRecDepth 100000
set_option maxHeartbeats 4000000
/-! ## repr of small values; _law_same, _law_choose -/
namespace QR
open PySem PySem.Spec PyProof.Rows L2 G
theorem shown_fits20 {d : PyData} (h : d.leavesShort 20 = true) (hb : d.bulk ≤ 100000) : d.shown.length ≤ sizeLine := by
  have a := PyData.shown_le_bulk 20 (by decide) d h
  have b : (20 + 2) * d.bulk + 20 ≤ 3000000 := by omega
  exact Nat.le_trans (Nat.le_trans a b) (by decide)
inductive Sh (K : PySem.W.Frag) (H : Hp) : V → Str → Prop
  | non : Sh K H .non "None"
  | bl (b : Bool) : Sh K H (.bl b) (if b then "True" else "False")
  | int (i : Int) : i.natAbs.log2 < 1920 → Sh K H (.int i) (toString i)
  | ref {a : Addr} {d : PyData} : Dr K H true (.ref a) d → d.showable = true → d.depth ≤ 20 → d.leavesShort 20 = true → d.bulk ≤ 100000 → Sh K H (.ref a) d.shown
def rReprS (K : PySem.W.Frag) : List V → Hp → VK → Prop := fun xs H Q => ∃ x t, xs = [x] ∧ Sh K H x t ∧ Q (.str t) H
section
variable {X : Cx}
theorem call_reprS (hg : X.A.guards = some []) (hu : X.A.units + 64 < cLine) : CallR X (.builtin "repr") (rReprS X.K) := by
  intro pins s σ H xs us Q I r h
  obtain ⟨x, t, rfl, hs, q⟩ := h
  cases hs with
  | non => exact call_reprF pins s σ H _ us Q I r (.inl ⟨rfl, q⟩)
  | bl b => exact call_reprF pins s σ H _ us Q I r (.inr (.inl ⟨b, rfl, q⟩))
  | int i hi => exact call_reprF pins s σ H _ us Q I r (.inr (.inr ⟨i, rfl, hi, q⟩))
  | @ref a d hd h1 h2 h3 h4 =>
    cases r with
    | cons rx rr =>
      cases rr
      cases rx
      obtain ⟨as, hr, _⟩ := Dr.reads I d _ _ hd rfl
      refine repr_of_reads' hr h1 (fun z => ?_) hg (by omega) (fun _ _ e => e) (fun h' u tk k => ⟨.str d.shown, H, I.kept (t' := tk) k, ⟨u, rfl⟩, q⟩) (shown_fits20 h3 h4)
      rw [Dr.noDict d _ hd] at z
      cases z
theorem ix_or {r1 r2 : R2} (h1 : IxR X r1) (h2 : IxR X r2) : IxR X (fun x y H Q => r1 x y H Q ∨ r2 x y H Q) := fun value slice pins s σ H x y v u Q I rx ry h hs => h.elim (fun h => h1 value slice pins s σ H x y v u Q I rx ry h hs) fun h => h2 value slice pins s σ H x y v u Q I rx ry h hs
end
end QR
namespace S
open PySem L2 QR
abbrev sSame : Stmt := top 81
section
variable {P : Program} {w : World} {K : PySem.W.Frag} {mg : Str → Option Value} {base : Heap}
def spSame (K : PySem.W.Frag) : Sp := fun vs H Q _ => ∃ (x y : V) (t : Str), vs = [x, y] ∧ Sh K H x t ∧ Sh K H y t ∧ Q (.bl true) H
theorem scSm : FnScope ["one", "two"] ["one", "two"] (defScope sSame) := ⟨rfl, rfl, rfl, by decide +kernel, rfl, by decide +kernel, by decide +kernel⟩
theorem ok_same {f : Addr} {fd : FuncData} (F : Fun K "_law_same" "_law_same" sSame f fd) (hrep : mg "repr" = none) : G.Ok P w K mg base CX0 1 f fd ["one", "two"] (spSame K) := by
  refine G.mk F scSm (fun vs H Q E h => ?_) (fun cdv A outer s H vs Q E hg hr h => ?_)
  · obtain ⟨x, y, t, rfl, _⟩ := h
    rfl
  · obtain ⟨x, y, t, rfl, h1, h2, k⟩ := h
    refine ⟨_, pss_one (ps_ret (pe_cmpR op_eq (pe_callB (call_reprS hg hr.units) (by rfl) hrep (by decide +kernel) (pa_cons (pv 0) pa_nil)) (pe_callB (call_reprS hg hr.units) (by rfl) hrep (by decide +kernel) (pa_cons (pv 1) pa_nil)) (nomark _))), ?_⟩
    refine ⟨_, rfl, x, t, rfl, h1, _, rfl, y, t, rfl, h2, rfl, ?_⟩
    rw [decide_eq_true rfl]
    exact k
/-- a pick from a list or a tuple -/
def spChoose (K : PySem.W.Frag) : Sp := fun vs H Q _ => ∃ (p l : Addr) (r m : Int) (xs : List V), vs = [.ref p, .ref l] ∧ H p = some (.lst (Two r m)) ∧ Fine r m ∧ l ≠ p ∧ (SqL K H l xs ∨ SqT K H l xs) ∧ 1 ≤ xs.length ∧ xs.length ≤ 1000 ∧
  ∀ (j : Nat) (x : V) (r' m' : Int), Fine r' m' → xs[j]? = some x → Q x (upd H p (.lst (Two r' m')))
theorem scCh : FnScope ["stream", "items"] ["stream", "items"] (defScope sPick) := ⟨rfl, rfl, rfl, by decide +kernel, rfl, by decide +kernel, by decide +kernel⟩
theorem keepL {H : Hp} {p l : Addr} {o : HO} {xs : List V} (hne : l ≠ p) (h : SqL K H l xs) : SqL K (upd H p o) l xs := by
  rcases h with (h | ⟨o, h⟩) | h
  · exact .inl (.inl (by rw [upd_ne hne]; exact h))
  · exact .inl (.inr ⟨o, by rw [upd_ne hne]; exact h⟩)
  · exact .inr h
theorem keepS {H : Hp} {p l : Addr} {o : HO} {xs : List V} (hne : l ≠ p) (h : SqT K H l xs) : SqT K (upd H p o) l xs := by
  rcases h with (h | ⟨o, h⟩) | h
  · exact .inl (.inl (by rw [upd_ne hne]; exact h))
  · exact .inl (.inr ⟨o, by rw [upd_ne hne]; exact h⟩)
  · exact .inr h
theorem ok_choose {f : Addr} {fd : FuncData} (F : Fun K "_law_choose" "_law_choose" sPick f fd) (hlen : mg "len" = none) (DR : Y.Df P w K mg base 1 "_law_draw" ["stream", "size"] spDraw) : FnOk P w K mg base CX0 2 f fd ["stream", "items"] (spChoose K) := by
  obtain ⟨fD, fdD, GD, gD, kD, bD⟩ := DR.ex
  refine F.ok scCh (fun vs H Q E h => ?_) (fun cdv A outer s H vs Q E hr h => ?_)
  · obtain ⟨p, l, r, m, xs, rfl, _⟩ := h
    rfl
  · obtain ⟨p, l, r, m, xs, rfl, hp, hf, hne, hL, l1, l2, k⟩ := h
    refine ⟨_, pss_one (ps_ret (pe_ix (ix_or ix_list ix_tup) (pv 1) (pe_call GD hr rfl gD kD bD .nil pass0 (pa_cons (pv 0) (pa_cons (pe_callB call_len_seq (by rfl) hlen PySem.boot_len (pa_cons (pv 1) pa_nil)) pa_nil))) (fun _ _ => rfl))), ?_⟩
    refine ⟨_, rfl, _, rfl, _, rfl, l, xs, rfl, hL, p, r, m, _, rfl, hp, hf, by omega, ?_, fun j r' m' hf' h0 h1 => ?_⟩
    · exact PySem.Flt.log2_lt_of (k := 9000) (by decide) (Nat.lt_of_lt_of_le (by omega : _ < 1001) (Nat.le_trans (by decide : 1001 ≤ 2 ^ 10) (Nat.pow_le_pow_right (by decide) (by decide))))
    · obtain ⟨n, rfl⟩ := Int.eq_ofNat_of_zero_le h0
      have hn : n < xs.length := by omega
      have hit : xs[n]? = some xs[n] := List.getElem?_eq_getElem hn
      rcases hL with hL | hL
      · exact .inl ⟨l, xs, _, xs[n], rfl, rfl, keepL hne hL, atI_nat hit, k n _ r' m' hf' hit⟩
      · exact .inr ⟨l, xs, _, xs[n], rfl, rfl, keepS hne hL, atI_nat hit, k n _ r' m' hf' hit⟩
end
end S

end
section
set_option autoImplicit false
set_option Elab.async false
set_option linter.all false
set_option maxRecDepth 100000
set_option maxHeartbeats 4000000
/-! ## draws: what they leave -/
namespace Y
open PySem L2 G
/-- all but the source at p stays -/
def Bt (p : Addr) (H H' : Hp) : Prop := (∀ a o, a ≠ p → H a = some o → H' a = some o) ∧ S.At H' p
theorem Bt.trans {p : Addr} {H H1 H2 : Hp} (a : Bt p H H1) (b : Bt p H1 H2) : Bt p H H2 := ⟨fun x o n e => b.1 x o n (a.1 x o n e), b.2⟩
theorem Bt.same {p : Addr} {H H' : Hp} (s : Same H H') (h : S.At H p) : Bt p H H' := by
  obtain ⟨r, m, e, f⟩ := h
  exact ⟨fun a o _ e2 => s _ _ e2, r, m, s _ _ e, f⟩
theorem Bt.put {p : Addr} {H : Hp} {r m : Int} (f : S.Fine r m) : Bt p H (upd H p (.lst (S.Two r m))) := ⟨fun a o n e => by rw [upd_ne n]; exact e, r, m, upd_same, f⟩
theorem Bt.new {p u : Addr} {H : Hp} (o : HO) (h : S.At H p) (hu : H u = none) : Bt p H (upd H u o) := Bt.same (of_upd hu) h
theorem at_ne {H : Hp} {p L : Addr} (h : S.At H p) (hL : H L = none) : L ≠ p := fun e => by
  obtain ⟨r, m, e2, _⟩ := h
  rw [e, e2] at hL
  cases hL
theorem bt_lst {p L : Addr} {H H' : Hp} {o : HO} (b : Bt p H H') (ne : L ≠ p) (h : H L = some o) : H' L = some o := b.1 L _ ne h
theorem sameAt {p : Addr} {H H' : Hp} (s : Same H H') (h : S.At H p) : S.At H' p := by
  obtain ⟨r, m, e, f⟩ := h
  exact ⟨r, m, s _ _ e, f⟩
theorem sameBt {p : Addr} {H G G' : Hp} (s : Same H G) (n : H p = none) (b : Bt p G G') : Same H G' := fun a o e => b.1 a o (fun z => by rw [z, n] at e; cases e) (s a o e)
theorem draw_at {H : Hp} {Q : VK} {E : XK} {p : Addr} {n : Int} (h : S.At H p) (n1 : 1 ≤ n) (n2 : n.natAbs.log2 < 9000) (k : ∀ j H', 0 ≤ j → j < n → Bt p H H' → Q (.int j) H') : S.spDraw [.ref p, .int n] H Q E := by
  obtain ⟨r, m, hp, hf⟩ := h
  exact ⟨p, r, m, n, rfl, hp, hf, n1, n2, fun j r1 m1 f1 j0 j1 => k j _ j0 j1 (Bt.put f1)⟩
/-- a draw as it stands in an expression: below a written number, or below what a name holds -/
theorem draw_vv {σ : L2.St} {H : Hp} {Q : VK} {E : XK} {p : Addr} {i : Nat} {n : Int} (hσ : σ[i]? = some (some (.ref p))) (h : S.At H p) (n1 : 1 ≤ n) (n2 : n.natAbs.log2 < 9000) (k : ∀ j H', 0 ≤ j → j < n → Bt p H H' → Q (.int j) H') : tCall S.spDraw [] E (tCons (tVar i) (tCons (tC (.int n)) tNil)) σ H Q := ⟨_, hσ, draw_at (E := E) h n1 n2 k⟩
theorem draw_var {σ : L2.St} {H : Hp} {Q : VK} {E : XK} {p : Addr} {i j : Nat} {n : Int} (hσ : σ[i]? = some (some (.ref p))) (hj : σ[j]? = some (some (.int n))) (h : S.At H p) (n1 : 1 ≤ n) (n2 : n.natAbs.log2 < 9000) (k : ∀ j H', 0 ≤ j → j < n → Bt p H H' → Q (.int j) H') : tCall S.spDraw [] E (tCons (tVar i) (tCons (tVar j) tNil)) σ H Q := ⟨_, hσ, _, hj, draw_at (E := E) h n1 n2 k⟩
theorem draw_of {σ : L2.St} {H : Hp} {Q : VK} {p : Addr} {E : XK} {i : Nat} {c n : Int} (hσ : σ[i]? = some (some (.ref p))) (h : S.At H p) (n1 : 1 ≤ n) (n2 : n.natAbs.log2 < 9000) (k : ∀ j H', 0 ≤ j → j < n → Bt p H H' → Q (.int (c + j)) H') :
    tOp (rI0 fun i j => .int (i + j)) (tC (.int c)) (tCall S.spDraw [] E (tCons (tVar i) (tCons (tC (.int n)) tNil))) σ H Q := by
  obtain ⟨r, m, hp, hf⟩ := h
  exact ⟨_, hσ, p, r, m, n, rfl, hp, hf, n1, n2, fun j r1 m1 f1 j0 j1 => ⟨_, _, rfl, rfl, k j _ j0 j1 (Bt.put f1)⟩⟩
theorem draw_w {σ : L2.St} {H : Hp} {Q : VK} {E : XK} {p : Addr} {i j : Nat} {c n : Int} (hσ : σ[i]? = some (some (.ref p))) (hj : σ[j]? = some (some (.int n))) (h : S.At H p) (n1 : 1 ≤ n) (n2 : n.natAbs.log2 < 9000) (k : ∀ x H', 0 ≤ x → x < n → Bt p H H' → Q (.int (c + x)) H') :
    tOp (rI0 fun i j => .int (i + j)) (tC (.int c)) (tCall S.spDraw [] E (tCons (tVar i) (tCons (tVar j) tNil))) σ H Q := by
  obtain ⟨r, m, hp, hf⟩ := h
  exact ⟨_, hσ, _, hj, p, r, m, n, rfl, hp, hf, n1, n2, fun x r1 m1 f1 j0 j1 => ⟨_, _, rfl, rfl, k x _ j0 j1 (Bt.put f1)⟩⟩
/-- a pick from a list just made -/
theorem pick_at {K : PySem.W.Frag} {H : Hp} {Q : VK} {p l : Addr} {E : XK} {xs : List V} (h : S.At H p) (hl : H l = none) (h1 : 1 ≤ xs.length) (h2 : xs.length ≤ 1000) (k : ∀ x H', x ∈ xs → Bt p H H' → Q x H') : S.spPick K [.ref p, .ref l] (upd H l (.lst xs)) Q E := by
  obtain ⟨r, m, hp, hf⟩ := h
  have lp : l ≠ p := fun z => by
    rw [z, hp] at hl
    cases hl
  exact ⟨p, l, r, m, xs, rfl, by rw [upd_ne lp.symm]; exact hp, hf, lp, SqL.of upd_same, h1, h2, fun j x r2 m2 f2 hx => k x _ (List.mem_of_getElem? hx) ((Bt.same (of_upd hl) ⟨r, m, hp, hf⟩).trans (Bt.put f2))⟩
theorem pick_of {K : PySem.W.Frag} {σ : L2.St} {H : Hp} {Q : VK} {p : Addr} {E : XK} {i : Nat} {xs : List V} {ta : TA} (hσ : σ[i]? = some (some (.ref p))) (h : S.At H p) (h1 : 1 ≤ xs.length) (h2 : xs.length ≤ 1000) (ha : ∀ Q2 : List V → Hp → Prop, Q2 xs H → ta σ H Q2) (k : ∀ x H', x ∈ xs → Bt p H H' → Q x H') :
    tCall (S.spPick K) [] E (tCons (tVar i) (tCons (tLst ta) tNil)) σ H Q := ⟨_, hσ, ha _ ⟨Nat.le_trans h2 (by decide), fun l hl => pick_at (E := E) h hl h1 h2 k⟩⟩
end Y

end
section
set_option autoImplicit false
set_option Elab.async false
set_option linter.all false
set_option maxRecDepth 100000
set_option maxHeartbeats 4000000
/-! ## plans of ways, as the law draws them; their ways -/
namespace M
def isz : Step → Nat
  | .tunnel w _ _ => w.size
  | .road _ _ _ => 0
  | .join _ => 0
theorem inner_cons : ∀ (s : Step) (r : List Step), Step.inner (s :: r) = isz s + Step.inner r
  | .tunnel w a b, r => by
    conv => lhs; unfold Step.inner
    rfl
  | .road a b c, r => by
    conv => lhs; unfold Step.inner
    exact (Nat.zero_add _).symm
  | .join a, r => by
    conv => lhs; unfold Step.inner
    exact (Nat.zero_add _).symm
/-- how great inner ways of steps are, and ways, by the depth that is drawn -/
def bs : Nat → Nat
  | 0 => 0
  | 1 => 2
  | _ + 2 => 9
def zs : Nat → Nat
  | 0 => 2
  | 1 => 9
  | _ + 2 => 40
def SmStep (d h : Nat) (y : Step) : Prop := Step.fine h y ∧ Step.dep y ≤ d ∧ isz y ≤ bs d
structure Sm (d : Nat) (w : Way) : Prop where
  fine : w.fine
  dp : w.depth ≤ d + 1
  sz : w.size ≤ zs d
  ln : w.steps.length ≤ d + 2
theorem sm_all {d h : Nat} : ∀ {s : List Step}, (∀ y ∈ s, SmStep d h y) → Step.fineAll h s ∧ Step.deepest s ≤ d ∧ Step.inner s ≤ s.length * bs d
  | [], _ => ⟨by unfold Step.fineAll; trivial, by unfold Step.deepest; omega, by unfold Step.inner; omega⟩
  | y :: r, q => by
    obtain ⟨a, b, c⟩ := q y List.mem_cons_self
    obtain ⟨e, f, g⟩ := sm_all (s := r) fun z hz => q z (List.mem_cons_of_mem _ hz)
    refine ⟨by unfold Step.fineAll; exact ⟨a, e⟩, by rw [deep_cons]; omega, ?_⟩
    rw [inner_cons, List.length_cons, Nat.add_mul]
    omega
theorem sm_way {d h : Nat} {s : List Step} (hd : d ≤ 2) (h1 : 1 ≤ h) (h2 : h ≤ 40) (l1 : 1 ≤ s.length) (l2 : s.length ≤ d + 2) (q : ∀ y ∈ s, SmStep d h y) : Sm d (.mk h s) := by
  obtain ⟨a, b, c⟩ := sm_all q
  have c2 : s.length + Step.inner s ≤ zs d := by
    match d, hd, l2, c with
    | 0, _, l2, c =>
      have c : Step.inner s ≤ s.length * 0 := c
      show s.length + Step.inner s ≤ 2
      omega
    | 1, _, l2, c =>
      have c : Step.inner s ≤ s.length * 2 := c
      show s.length + Step.inner s ≤ 9
      omega
    | 2, _, l2, c =>
      have c : Step.inner s ≤ s.length * 9 := c
      show s.length + Step.inner s ≤ 40
      omega
  have c3 : zs d ≤ 40 := by
    match d with
    | 0 => decide
    | 1 => decide
    | _ + 2 => exact Nat.le_refl 40
  refine ⟨?_, by unfold Way.depth; omega, by unfold Way.size; exact c2, l2⟩
  unfold Way.fine
  exact ⟨by omega, by omega, a, by omega, by omega⟩
theorem zs_bs {d : Nat} (h : d ≠ 0) (hd : d ≤ 2) : zs (d - 1) ≤ bs d := by
  match d, hd with
  | 0, _ => exact absurd rfl h
  | 1, _ => decide
  | 2, _ => decide
end M
namespace CP
open PySem L2 G Y
abbrev sLPlan : Stmt := S.top 82
abbrev sLMost : Stmt := S.top 83
abbrev sLStep : Stmt := S.top 84
abbrev sLWay : Stmt := S.top 85
theorem choose_at {K : PySem.W.Frag} {H : Hp} {Q : VK} {p l : Addr} {E : XK} {xs : List V} (h : S.At H p) (ne : l ≠ p) (hl : SqL K H l xs ∨ SqT K H l xs) (h1 : 1 ≤ xs.length) (h2 : xs.length ≤ 1000) (k : ∀ x H', x ∈ xs → Bt p H H' → Q x H') : S.spChoose K [.ref p, .ref l] H Q E := by
  obtain ⟨r, m, hp, hf⟩ := h
  exact ⟨p, l, r, m, xs, rfl, hp, hf, ne, hl, h1, h2, fun j x r2 m2 f2 hx => k x _ (List.mem_of_getElem? hx) (Bt.put f2)⟩
theorem choose_new {K : PySem.W.Frag} {H : Hp} {Q : VK} {p l : Addr} {E : XK} {xs : List V} (h : S.At H p) (hl : H l = none) (h1 : 1 ≤ xs.length) (h2 : xs.length ≤ 1000) (k : ∀ x H', x ∈ xs → Bt p H H' → Q x H') : S.spChoose K [.ref p, .ref l] (upd H l (.lst xs)) Q E :=
  choose_at (sameAt (of_upd hl) h) (at_ne h hl) (.inl (SqL.of upd_same)) h1 h2 fun x H' hx b => k x H' hx ((Bt.same (of_upd hl) h).trans b)
theorem choose_of {K : PySem.W.Frag} {σ : L2.St} {H : Hp} {Q : VK} {p : Addr} {E : XK} {i : Nat} {xs : List V} {ta : TA} (hσ : σ[i]? = some (some (.ref p))) (h : S.At H p) (h1 : 1 ≤ xs.length) (h2 : xs.length ≤ 1000) (ha : ∀ Q2 : List V → Hp → Prop, Q2 xs H → ta σ H Q2) (k : ∀ x H', x ∈ xs → Bt p H H' → Q x H') :
    tCall (S.spChoose K) [] E (tCons (tVar i) (tCons (tLst ta) tNil)) σ H Q := ⟨_, hσ, ha _ ⟨Nat.le_trans h2 (by decide), fun l hl => choose_new (E := E) h hl h1 h2 k⟩⟩
theorem draw_te {σ : L2.St} {H : Hp} {Q : VK} {E : XK} {p : Addr} {i : Nat} {n : Int} {te : TE} (hσ : σ[i]? = some (some (.ref p))) (ht : ∀ Q2 : VK, Q2 (.int n) H → te σ H Q2) (h : S.At H p) (n1 : 1 ≤ n) (n2 : n.natAbs.log2 < 9000) (k : ∀ j H', 0 ≤ j → j < n → Bt p H H' → Q (.int j) H') : tCall S.spDraw [] E (tCons (tVar i) (tCons te tNil)) σ H Q := ⟨_, hσ, ht _ (draw_at (E := E) h n1 n2 k)⟩
theorem bt_keepT {p : Addr} {H H' : Hp} (b : Bt p H H') (h : S.At H p) : KeepT H H' := fun a o n e => b.1 a o (fun z => by
  obtain ⟨r, m, e2, _⟩ := h
  rw [z, e2] at e
  cases e
  exact n _ rfl) e
theorem KeepT.trans {H H1 H2 : Hp} (a : KeepT H H1) (b : KeepT H1 H2) : KeepT H H2 := fun x o n e => b x o n (a x o n e)
theorem KeepT.tup {H H' : Hp} {t : Addr} {xs : List V} (k : KeepT H H') (h : H t = some (.tup xs)) : H' t = some (.tup xs) := k _ _ (fun _ z => by cases z) h
mutual
/-- a plan of a way: a head, a tuple of its steps; ways in tunnels are plans, too -/
def PlanAt (H : Hp) : M.Way → V → Prop
  | .mk h s, v => ∃ t L xs, v = .ref t ∧ H t = some (.tup [.int (h : Int), .ref L]) ∧ H L = some (.tup xs) ∧ PlAll H s xs
def PlAll (H : Hp) : List M.Step → List V → Prop
  | [], xs => xs = []
  | s :: r, xs => ∃ x ys, xs = x :: ys ∧ PlStep H s x ∧ PlAll H r ys
def PlStep (H : Hp) : M.Step → V → Prop
  | .road size ts lw, x => ∃ t, x = .ref t ∧ H t = some (.tup [.str "road", .int (size : Int), .str (WP.sdS ts), .str (WP.lwS lw)])
  | .join most, x => ∃ t, x = .ref t ∧ H t = some (.tup [.str "join", .int (most : Int)])
  | .tunnel w most tw, x => ∃ t v, x = .ref t ∧ H t = some (.tup [.str "tunnel", v, .int (most : Int), .str (WP.twS tw)]) ∧ PlanAt H w v
end
mutual
theorem PlanAt.keep {H H' : Hp} (s : KeepT H H') : ∀ {w : M.Way} {v : V}, PlanAt H w v → PlanAt H' w v
  | .mk h st, v, x => by
    unfold PlanAt at x ⊢
    obtain ⟨t, L, xs, e, h1, h2, h3⟩ := x
    exact ⟨t, L, xs, e, s.tup h1, s.tup h2, PlAll.keep s h3⟩
theorem PlAll.keep {H H' : Hp} (s : KeepT H H') : ∀ {st : List M.Step} {xs : List V}, PlAll H st xs → PlAll H' st xs
  | [], xs, x => by
    unfold PlAll at x ⊢
    exact x
  | y :: r, xs, x => by
    unfold PlAll at x ⊢
    obtain ⟨u, ys, e, h1, h2⟩ := x
    exact ⟨u, ys, e, PlStep.keep s h1, PlAll.keep s h2⟩
theorem PlStep.keep {H H' : Hp} (s : KeepT H H') : ∀ {st : M.Step} {x : V}, PlStep H st x → PlStep H' st x
  | .road size ts lw, v, x => by
    unfold PlStep at x ⊢
    obtain ⟨t, e, h⟩ := x
    exact ⟨t, e, s.tup h⟩
  | .join most, v, x => by
    unfold PlStep at x ⊢
    obtain ⟨t, e, h⟩ := x
    exact ⟨t, e, s.tup h⟩
  | .tunnel w most tw, v, x => by
    unfold PlStep at x ⊢
    obtain ⟨t, u, e, h, h2⟩ := x
    exact ⟨t, u, e, s.tup h, PlanAt.keep s h2⟩
end
theorem PlAll.snoc {H : Hp} : ∀ {s : List M.Step} {xs : List V} {y : M.Step} {x : V}, PlAll H s xs → PlStep H y x → PlAll H (s ++ [y]) (xs ++ [x])
  | [], xs, y, x, h, h2 => by
    unfold PlAll at h
    subst h
    show PlAll H [y] [x]
    unfold PlAll
    exact ⟨x, [], rfl, h2, by unfold PlAll; rfl⟩
  | z :: s, xs, y, x, h, h2 => by
    unfold PlAll at h
    obtain ⟨u, ys, rfl, h3, h4⟩ := h
    show PlAll H (z :: (s ++ [y])) (u :: (ys ++ [x]))
    unfold PlAll
    exact ⟨u, ys ++ [x], rfl, h3, PlAll.snoc h4 h2⟩
theorem PlAll.len {H : Hp} : ∀ {s : List M.Step} {xs : List V}, PlAll H s xs → xs.length = s.length
  | [], xs, h => by
    unfold PlAll at h
    rw [h]
    rfl
  | z :: s, xs, h => by
    unfold PlAll at h
    obtain ⟨u, ys, rfl, _, h4⟩ := h
    rw [List.length_cons, List.length_cons, PlAll.len h4]
theorem PlAll.get {H : Hp} : ∀ {s : List M.Step} {xs : List V} {i : Nat} {x : V}, PlAll H s xs → xs[i]? = some x → ∃ y, s[i]? = some y ∧ PlStep H y x
  | [], xs, i, x, h, e => by
    unfold PlAll at h
    subst h
    cases e
  | z :: s, xs, i, x, h, e => by
    unfold PlAll at h
    obtain ⟨u, ys, rfl, h3, h4⟩ := h
    cases i with
    | zero =>
      cases e
      exact ⟨z, rfl, h3⟩
    | succ i => exact PlAll.get (i := i) h4 e
theorem sd_of {x : V} (h : x ∈ [V.str "tell", V.str "tell", V.str "drop"]) : ∃ ts, x = .str (WP.sdS ts) := by
  rcases List.mem_cons.mp h with e | h
  · exact ⟨true, e⟩
  rcases List.mem_cons.mp h with e | h
  · exact ⟨true, e⟩
  · have e : x = V.str "drop" := by simpa using h
    exact ⟨false, e⟩
theorem lw_of {x : V} (h : x ∈ [V.str "cut", V.str "cut", V.str "cut", V.str "tell", V.str "drop"]) : ∃ lw, x = .str (WP.lwS lw) := by
  rcases List.mem_cons.mp h with e | h
  · exact ⟨.cut, e⟩
  rcases List.mem_cons.mp h with e | h
  · exact ⟨.cut, e⟩
  rcases List.mem_cons.mp h with e | h
  · exact ⟨.cut, e⟩
  rcases List.mem_cons.mp h with e | h
  · exact ⟨.tell, e⟩
  · have e : x = V.str "drop" := by simpa using h
    exact ⟨.drop, e⟩
theorem tw_of {x : V} (h : x ∈ [V.str "turn", V.str "turn", V.str "keep", V.str "lose"]) : ∃ tw, x = .str (WP.twS tw) := by
  rcases List.mem_cons.mp h with e | h
  · exact ⟨.turn, e⟩
  rcases List.mem_cons.mp h with e | h
  · exact ⟨.turn, e⟩
  rcases List.mem_cons.mp h with e | h
  · exact ⟨.keep, e⟩
  · have e : x = V.str "lose" := by simpa using h
    exact ⟨.lose, e⟩
section
variable {P : Program} {w : World} {K : PySem.W.Frag} {mg : Str → Option Value} {base : Heap} {C CW : Addr}
def spLMost : Sp := fun vs H Q _ => ∃ p, vs = [.ref p] ∧ S.At H p ∧ ∀ (m : Nat) H', 1 ≤ m → m ≤ 1000000000000 → Bt p H H' → Q (.int (m : Int)) H'
theorem scLm : FnScope ["stream"] ["stream"] (defScope sLMost) := ⟨rfl, rfl, rfl, by decide +kernel, rfl, by decide +kernel, by decide +kernel⟩
theorem ok_lmost {f : Addr} {fd : FuncData} (F : Fun K "_law_most" "_law_most" sLMost f fd) (DD : Df P w K mg base 1 "_law_draw" ["stream", "size"] S.spDraw) (DP : Df P w K mg base 2 "_law_choose" ["stream", "items"] (S.spChoose K)) : FnOk P w K mg base CX0 3 f fd ["stream"] spLMost := by
  obtain ⟨fD, fdD, GD, gD, kD, bD⟩ := DD.ex
  obtain ⟨fP, fdP, GP, gP, kP, bP⟩ := DP.ex
  refine F.ok scLm (fun vs H Q E h => ?_) (fun cdv A outer s H vs Q E hr h => ?_)
  · obtain ⟨p, rfl, _⟩ := h
    rfl
  · obtain ⟨p, rfl, hp, kk⟩ := h
    refine ⟨_, pss_one (ps_ret (pe_call GP (hr.mono (by omega)) rfl gP kP bP .nil pass0 (pa_cons (pv 0) (pa_cons (pe_lst (pa_cons (pe_int) (pa_cons (pe_int) (pa_cons (pe_int) (pa_cons (pe_int) (pa_cons (pe_op op_add (pe_int) (pe_call GD (hr.mono (by omega)) rfl gD kD bD .nil pass0 (pa_cons (pv 0) (pa_cons (pe_int) pa_nil)))) (pa_cons (pe_op op_powN pe_int pe_int) (pa_cons (pe_op op_sub (pe_op op_powN pe_int pe_int) (pe_int)) pa_nil)))))))) pa_nil)))), ?_⟩
    refine ⟨_, rfl, draw_of rfl hp (by decide) (by decide +kernel) fun j H1 j0 j1 b1 => ⟨10, 12, rfl, rfl, ⟨by decide, by decide +kernel⟩, 10, 12, rfl, rfl, ⟨by decide, by decide +kernel⟩, _, _, rfl, rfl, (by show 7 ≤ sizeLine; decide), fun l hl => ?_⟩⟩
    refine choose_new (E := E0) b1.2 hl (by show 1 ≤ 7; decide) (by show 7 ≤ 1000; decide) fun x H2 hx b2 => ?_
    have bt := b1.trans b2
    have fin : ∀ n : Nat, x = .int (n : Int) → 1 ≤ n → n ≤ 1000000000000 → Q x H2 := fun n e a b => by
      subst e
      exact kk n _ a b bt
    simp only [List.append_nil, List.cons_append, List.nil_append, List.mem_cons, List.mem_nil_iff, or_false] at hx
    rcases hx with e | e | e | e | e | e | e
    · exact fin 1 e (by decide) (by decide)
    · exact fin 2 e (by decide) (by decide)
    · exact fin 3 e (by decide) (by decide)
    · exact fin 4 e (by decide) (by decide)
    · exact fin (1 + j).toNat (e.trans (congrArg V.int (by omega))) (by omega) (by omega)
    · exact fin 1000000000000 (e.trans (congrArg V.int (by decide +kernel))) (by decide) (by decide)
    · exact fin 999999999999 (e.trans (congrArg V.int (by decide +kernel))) (by decide) (by decide)
def spLPlan (n : Nat) : Sp := fun vs H Q _ => ∃ (p : Addr) (d b : Nat), vs = [.ref p, .int (d : Int), .int (b : Int)] ∧ S.At H p ∧ d < n ∧ d ≤ 2 ∧ b ≤ 40 ∧ ∀ wy v H', Bt p H H' → PlanAt H' wy v → M.Sm d wy → Q v H'
def spLStep (n : Nat) : Sp := fun vs H Q _ => ∃ (p : Addr) (d b h : Nat), vs = [.ref p, .int (d : Int), .int (b : Int), .int (h : Int)] ∧ S.At H p ∧ d ≤ n ∧ d ≤ 2 ∧ b ≤ 40 ∧ 1 ≤ h ∧ h ≤ 40 ∧ ∀ st v H', Bt p H H' → PlStep H' st v → M.SmStep d h st → Q v H'
abbrev NPs : List Str := ["stream", "depth", "base", "head", "sort", "cut", "word", "inner", "tells"]
theorem scPs : FnScope NPs ["stream", "depth", "base", "head"] (defScope sLStep) := ⟨rfl, rfl, rfl, by decide +kernel, rfl, by decide +kernel, by decide +kernel⟩
theorem ok_lstep {k n : Nat} {f : Addr} {fd : FuncData} (F : Fun K "_law_plan_step" "_law_plan_step" sLStep f fd) (hk : 3 ≤ k) (B : Bn mg) (DD : Df P w K mg base 1 "_law_draw" ["stream", "size"] S.spDraw) (DP : Df P w K mg base 2 "_law_choose" ["stream", "items"] (S.spChoose K)) (DM : Df P w K mg base 3 "_law_most" ["stream"] spLMost)
    (DL : Df P w K mg base k "_law_plan" ["stream", "depth", "base"] (spLPlan n)) : FnOk P w K mg base CX0 (k + 1) f fd ["stream", "depth", "base", "head"] (spLStep n) := by
  obtain ⟨fD, fdD, GD, gD, kD, bD⟩ := DD.ex
  obtain ⟨fP, fdP, GP, gP, kP, bP⟩ := DP.ex
  obtain ⟨fM, fdM, GM, gM, kM, bM⟩ := DM.ex
  obtain ⟨fL, fdL, GL, gL, kL, bL⟩ := DL.ex
  refine F.ok scPs (fun vs H Q E h => ?_) (fun cdv A outer s H vs Q E hr h => ?_)
  · obtain ⟨p, d, b, h, rfl, _⟩ := h
    rfl
  · obtain ⟨p, d, b, h, rfl, hp, hdn, hd, hb, h1, h2, kk⟩ := h
    refine ⟨_, pss_cons (ps_set (i := 4) scPs.nd rfl (Or.inl rfl) (pe_call GD (hr.mono (by omega)) rfl gD kD bD .nil pass0 (pa_cons (pv 0) (pa_cons (pe_int) pa_nil))))
      (pss_cons (ps_if (pt_cmpR (op_lt) (pv 4) (pe_int) (nomark _)) (pss_cons (ps_set (i := 5) scPs.nd rfl (Or.inl rfl) (pe_callB (call_max2 rfl) (by rfl) B.max (by decide +kernel) (pa_cons (pe_int) (pa_cons (pe_op op_sub (pe_op op_add (pv 2) (pe_call GD (hr.mono (by omega)) rfl gD kD bD .nil pass0 (pa_cons (pv 0) (pa_cons (pe_int) pa_nil)))) (pe_op op_mul (pe_int) (pe_callTy call_int1 (by rfl) B.int (by decide +kernel) (pa_cons (pe_cmpR (op_gt) (pv 2) (pe_int) (nomark _)) pa_nil)))) pa_nil))))
      (pss_cons (ps_if (pt_cmpR (op_eq) (pe_call GD (hr.mono (by omega)) rfl gD kD bD .nil pass0 (pa_cons (pv 0) (pa_cons (pe_int) pa_nil))) (pe_int) (nomark _)) (pss_one (ps_set (i := 5) scPs.nd rfl (Or.inl rfl) (pe_op op_sub (pe_op op_sub (pe_int) (pv 3)) (pe_call GD (hr.mono (by omega)) rfl gD kD bD .nil pass0 (pa_cons (pv 0) (pa_cons (pe_int) pa_nil)))))) (pss_nil))
      (pss_cons (ps_set (i := 6) scPs.nd rfl (Or.inl rfl) (pe_call GP (hr.mono (by omega)) rfl gP kP bP .nil pass0 (pa_cons (pv 0) (pa_cons (pe_lst (pa_cons (pe_str) (pa_cons (pe_str) (pa_cons (pe_str) pa_nil)))) pa_nil))))
      (pss_one (ps_ret (pe_tup (pa_cons (pe_str) (pa_cons (pe_op op_add (pv 3) (pv 5)) (pa_cons (pv 6) (pa_cons (pe_call GP (hr.mono (by omega)) rfl gP kP bP .nil pass0 (pa_cons (pv 0) (pa_cons (pe_lst (pa_cons (pe_str) (pa_cons (pe_str) (pa_cons (pe_str) (pa_cons (pe_str) (pa_cons (pe_str) pa_nil)))))) pa_nil))) pa_nil)))))))))) (pss_nil))
      (pss_cons (ps_if (PW.pt (pw_or (pt_cmpR (op_lt) (pv 4) (pe_int) (nomark _)) (pw_or1 (pt_cmpR (op_eq) (pv 1) (pe_int) (nomark _))))) (pss_one (ps_ret (pe_tup (pa_cons (pe_str) (pa_cons (pe_call GM (hr.mono (by omega)) rfl gM kM bM .nil pass0 (pa_cons (pv 0) pa_nil)) pa_nil))))) (pss_nil))
      (pss_cons (ps_par (i := 7) (j := 8) (by rfl) scPs.nd rfl rfl (by decide) rfl rfl (pa_cons (pe_call GL (hr.mono (by omega)) rfl gL kL bL .nil pass0 (pa_cons (pv 0) (pa_cons (pe_op op_sub (pv 1) (pe_int)) (pa_cons (pv 3) pa_nil)))) (pa_cons (pe_call GP (hr.mono (by omega)) rfl gP kP bP .nil pass0 (pa_cons (pv 0) (pa_cons (pe_lst (pa_cons (pe_str) (pa_cons (pe_str) (pa_cons (pe_str) (pa_cons (pe_str) pa_nil))))) pa_nil))) pa_nil)) (by rfl))
      (pss_one (ps_ret (pe_tup (pa_cons (pe_str) (pa_cons (pv 7) (pa_cons (pe_call GM (hr.mono (by omega)) rfl gM kM bM .nil pass0 (pa_cons (pv 0) pa_nil)) (pa_cons (pv 8) pa_nil)))))))))), ?_⟩
    refine set_then (i := 4) (draw_vv rfl hp (by decide) (by decide +kernel) fun j H1 a0 a1 b1 => ?_)
    refine ⟨_, rfl, _, _, rfl, rfl, _, rfl, ite2 (fun c => ?_) (fun c => ?_)⟩
    · refine set_then (i := 5) ⟨_, rfl, draw_vv rfl b1.2 (by decide) (by decide +kernel) fun j2 H2 c0 c1 b2 => ?_⟩
      refine ⟨_, _, rfl, rfl, _, rfl, _, _, rfl, rfl, .inr ⟨_, rfl, _, _, rfl, rfl, .inl ⟨?_, ?_⟩, _, _, rfl, rfl, _, _, rfl, ?_⟩⟩
      · decide
      · decide
      have mz : ∀ (t : Int), (t = 0 ∨ t = 1) → (b = 0 → t = 0) → ∃ c5 : Nat, V.int (if (b : Int) + j2 - 2 * t > 1 then (b : Int) + j2 - 2 * t else 1) = V.int (c5 : Int) ∧ 1 ≤ c5 ∧ c5 ≤ 60 := fun t ht hb0 => by
        split
        · exact ⟨((b : Int) + j2 - 2 * t).toNat, congrArg V.int (by omega), by omega, by omega⟩
        · exact ⟨1, rfl, by decide, by decide⟩
      obtain ⟨c5, e5, c6, c7⟩ := mz (if decide ((b : Int) > 0) = true then 1 else 0) (by split <;> simp) (fun e => by subst e; rfl)
      rw [e5]
      have b12 := b1.trans b2
      refine if_then (fun σ' G => Bt p H G ∧ ∃ (c8 : Nat) (q6 q7 q8 : Option V), 1 ≤ c8 ∧ h + c8 ≤ 1000 ∧ σ' = [some (.ref p), some (.int (d : Int)), some (.int (b : Int)), some (.int (h : Int)), some (.int j), some (.int (c8 : Int)), q6, q7, q8]) ?r1 (fun k1 => ?_)
      case r1 =>
        rintro σ' G ⟨bG, c8, q6, q7, q8, l1, l2, rfl⟩
        refine set_then (i := 6) (choose_of rfl bG.2 (by decide) (by decide) (fun Q2 q => q) fun x H3 hx b3 => ?_)
        obtain ⟨ts, rfl⟩ := sd_of hx
        refine ⟨_, rfl, _, rfl, _, _, rfl, rfl, _, rfl, ?_⟩
        refine choose_of rfl b3.2 (by decide) (by decide) (fun Q2 q => q) fun y H4 hy b4 => ⟨(by show 4 ≤ sizeLine; decide), fun t ht => ?_⟩
        obtain ⟨lw, rfl⟩ := lw_of hy
        refine kk (.road (h + c8) ts lw) _ _ ((bG.trans (b3.trans b4)).trans (Bt.new _ b4.2 ht)) ?_ ⟨by unfold M.Step.fine; omega, Nat.zero_le _, Nat.zero_le _⟩
        unfold PlStep
        refine ⟨t, rfl, ?_⟩
        rw [Int.natCast_add]
        exact upd_same
      refine draw_vv rfl b2.2 (by decide) (by decide +kernel) fun j3 H3 d0 d1 b3 => ⟨rfl, _, rfl, ite2 (fun c2 => ?_) (fun c2 => ?_)⟩
      · refine ⟨_, rfl, _, _, rfl, rfl, draw_vv rfl b3.2 (by decide) (by decide +kernel) fun j4 H4 f0 f1 b4 => ⟨_, _, rfl, rfl, ?_⟩⟩
        obtain ⟨c9, e9⟩ : ∃ c9 : Nat, 1000 - (h : Int) - j4 = (c9 : Int) := ⟨(1000 - (h : Int) - j4).toNat, by omega⟩
        refine k1 _ _ ⟨b12.trans (b3.trans b4), c9, none, none, none, by omega, by omega, ?_⟩
        show [some (V.ref p), some (V.int (d : Int)), some (V.int (b : Int)), some (V.int (h : Int)), some (V.int j), some (V.int (1000 - (h : Int) - j4)), none, none, none] = _
        rw [e9]
      · exact k1 _ _ ⟨b12.trans b3, c5, none, none, none, by omega, by omega, rfl⟩
    · have fj : ∀ (m : Nat) (H2 : Hp), 1 ≤ m → m ≤ 1000000000000 → Bt p H1 H2 → ∀ t, H2 t = none → Q (.ref t) (upd H2 t (.tup [.str "join", .int (m : Int)])) := fun m H2 m1 m2 b2 t ht => by
        refine kk (.join m) _ _ ((b1.trans b2).trans (Bt.new _ b2.2 ht)) ?_ ⟨by unfold M.Step.fine; exact ⟨m1, m2⟩, Nat.zero_le _, Nat.zero_le _⟩
        unfold PlStep
        exact ⟨t, rfl, upd_same⟩
      refine ⟨_, rfl, _, _, rfl, rfl, _, rfl, ite2 (fun c2 => ?_) (fun c2 => ?_)⟩
      · exact iteT ⟨_, rfl, p, rfl, b1.2, fun m H2 m1 m2 b2 => ⟨line2.1, fun t ht => fj m H2 m1 m2 b2 t ht⟩⟩
      · refine ⟨_, rfl, rfl, _, rfl, ite2 (fun c3 => ?_) (fun c3 => ?_)⟩
        · exact ⟨_, rfl, p, rfl, b1.2, fun m H2 m1 m2 b2 => ⟨line2.1, fun t ht => fj m H2 m1 m2 b2 t ht⟩⟩
        · have c4 : d ≠ 0 := fun e => c3 (by rw [e]; rfl)
          refine ⟨_, rfl, _, rfl, _, _, rfl, rfl, _, rfl, p, d - 1, h, ?_, b1.2, by omega, by omega, h2, fun wy v H2 b2 pl sm => ?_⟩
          · show [V.ref p, V.int ((d : Int) - 1), V.int (h : Int)] = _
            rw [show (d : Int) - 1 = ((d - 1 : Nat) : Int) by omega]
          refine choose_of rfl b2.2 (by decide) (by decide) (fun Q2 q => q) fun x H3 hx b3 => ⟨_, _, rfl, ?_⟩
          obtain ⟨tw, rfl⟩ := tw_of hx
          refine ⟨_, rfl, _, rfl, p, rfl, b3.2, fun m H4 m1 m2 b4 => ⟨_, rfl, (by show 4 ≤ sizeLine; decide), fun t ht => ?_⟩⟩
          have b5 := b4.trans (Bt.new (.tup [.str "tunnel", v, .int (m : Int), .str (WP.twS tw)]) b4.2 ht)
          refine kk (.tunnel wy m tw) _ _ (b1.trans (b2.trans (b3.trans b5))) ?_ ⟨by unfold M.Step.fine; exact ⟨sm.fine, m1, m2⟩, ?_, ?_⟩
          · unfold PlStep
            exact ⟨t, v, rfl, upd_same, (pl.keep (bt_keepT b3 b2.2)).keep (bt_keepT b5 b3.2)⟩
          · have := sm.dp
            show wy.depth ≤ d
            omega
          · have := sm.sz
            show wy.size ≤ M.bs d
            exact Nat.le_trans this (M.zs_bs c4 hd)
abbrev NPn : List Str := ["stream", "depth", "base", "head", "steps", "turn"]
theorem scPn : FnScope NPn ["stream", "depth", "base"] (defScope sLPlan) := ⟨rfl, rfl, rfl, by decide +kernel, rfl, by decide +kernel, by decide +kernel⟩
theorem ok_lplan {k n : Nat} {f : Addr} {fd : FuncData} (F : Fun K "_law_plan" "_law_plan" sLPlan f fd) (hk : 2 ≤ k) (B : Bn mg) (DD : Df P w K mg base 1 "_law_draw" ["stream", "size"] S.spDraw) (DP : Df P w K mg base 2 "_law_choose" ["stream", "items"] (S.spChoose K))
    (DS : Df P w K mg base k "_law_plan_step" ["stream", "depth", "base", "head"] (spLStep n)) : FnOk P w K mg base CX0 (k + 1) f fd ["stream", "depth", "base"] (spLPlan (n + 1)) := by
  obtain ⟨fD, fdD, GD, gD, kD, bD⟩ := DD.ex
  obtain ⟨fP, fdP, GP, gP, kP, bP⟩ := DP.ex
  obtain ⟨fS, fdS, GS, gS, kS, bS⟩ := DS.ex
  refine F.ok scPn (fun vs H Q E h => ?_) (fun cdv A outer s H vs Q E hr h => ?_)
  · obtain ⟨p, d, b, rfl, _⟩ := h
    rfl
  · obtain ⟨p, d, b, rfl, hp, hdn, hd, hb, kk⟩ := h
    refine ⟨_, pss_cons (ps_set (i := 3) scPn.nd rfl (Or.inr rfl) (pe_call GP (hr.mono (by omega)) rfl gP kP bP .nil pass0 (pa_cons (pv 0) (pa_cons (pe_lst (pa_cons (pe_int) (pa_cons (pe_int) (pa_cons (pe_int) (pa_cons (pe_int) (pa_cons (pe_int) (pa_cons (pe_op op_add (pe_int) (pe_call GD (hr.mono (by omega)) rfl gD kD bD .nil pass0 (pa_cons (pv 0) (pa_cons (pe_int) pa_nil)))) pa_nil))))))) pa_nil))))
      (pss_cons (ps_setLc (i := 4) (own := [("turn", 5)]) (g := gName 5) (tt := tYes) (te := tCall (spLStep n) [] E0 (tCons (tVar 0) (tCons (tVar 1) (tCons (tVar 2) (tCons (tVar 3) tNil))))) rfl scPn.nd rfl rfl (sw_true rfl rfl rfl (by decide +kernel)) (pi_range1 (by rfl) B.range (pa_cons (pe_op op_add (pe_int) (pe_call GD (hr.mono (by omega)) rfl gD kD bD .nil pass0 (pa_cons (pv 0) (pa_cons (pe_op op_add (pv 1) (pe_int)) pa_nil)))) pa_nil)) (blkOk_by (N := NPn) (sc := defScope sLPlan) (by decide +kernel))
          (fun _ _ _ _ _ => pg_name (i := 5) scPn.nd rfl (Or.inl rfl)) (fun _ _ _ _ _ => pts_nil) (fun _ _ _ _ _ => by exact pe_call GS (hr.mono (by omega)) rfl gS kS bS .nil pass0 (pa_cons (pv 0) (pa_cons (pv 1) (pa_cons (pv 2) (pa_cons (pv 3) pa_nil))))))
      (pss_one (ps_ret (pe_tup (pa_cons (pv 3) (pa_cons (pe_callTy call_tuple_of (by rfl) B.tuple (by decide +kernel) (pa_cons (pv 4) pa_nil)) pa_nil)))))), ?_⟩
    refine set_then (i := 3) ⟨_, rfl, draw_of rfl hp (by decide) (by decide +kernel) fun j H1 a0 a1 b1 => ⟨(by show 6 ≤ sizeLine; decide), fun l hl => ?_⟩⟩
    refine choose_new (E := E0) b1.2 hl (by show 1 ≤ 6; decide) (by show 6 ≤ 1000; decide) fun x H2 hx b2 => ?_
    obtain ⟨h, rfl, h1, h2⟩ : ∃ h : Nat, x = .int (h : Int) ∧ 1 ≤ h ∧ h ≤ 40 := by
      simp only [List.append_nil, List.cons_append, List.nil_append, List.mem_cons, List.mem_nil_iff, or_false] at hx
      rcases hx with e | e | e | e | e | e
      · exact ⟨1, e, by decide, by decide⟩
      · exact ⟨2, e, by decide, by decide⟩
      · exact ⟨5, e, by decide, by decide⟩
      · exact ⟨10, e, by decide, by decide⟩
      · exact ⟨3, e, by decide, by decide⟩
      · exact ⟨(1 + j).toNat, e.trans (congrArg V.int (by omega)), by omega, by omega⟩
    replace b2 := b1.trans b2
    have lg : ∀ z : Int, 1 ≤ z → z ≤ 3000 → z.natAbs.log2 < 9000 := fun z h1 h2 => PySem.Flt.log2_lt_of (k := 9000) (by decide) (Nat.lt_of_lt_of_le (by omega : _ < 2 ^ 60) (Nat.pow_le_pow_right (by decide) (by decide)))
    refine set_then (i := 4) (draw_te (n := (d : Int) + 2) rfl (fun Q2 q => ⟨_, rfl, _, _, rfl, rfl, q⟩) b2.2 (by omega) (lg _ (by omega) (by omega)) fun j3 H3 j0 j1 b3 => ⟨_, _, rfl, rfl, _, rfl, by omega, by omega, fun D0 nD => ?_⟩)
    replace b3 := b2.trans b3
    have ne := at_ne b3.2 nD
    refine lc_range (lo := 0) (n := (1 + j3).toNat) (fun i G => Bt p H3 G ∧ ∃ (xs : List V) (sts : List M.Step), G D0 = some (.lst xs) ∧ PlAll G sts xs ∧ sts.length = i ∧ ∀ y ∈ sts, M.SmStep d h y) ⟨Bt.new (.lst []) b3.2 nD, [], [], upd_same, by unfold PlAll; rfl, rfl, fun y hy => by cases hy⟩ ?_ ?_
    · rintro i G hi ⟨bG, xs, sts, hD, hP, hn, hS⟩
      have lx := hP.len
      refine ⟨rfl, _, rfl, _, rfl, _, rfl, _, rfl, p, d, b, h, rfl, bG.2, by omega, hd, hb, h1, h2, fun st v G1 b4 pl sm => ⟨xs, bt_lst b4 ne hD, small1000 (by omega), ?_, _, sts ++ [st], upd_same, ?_, by simp; exact hn, ?_⟩⟩
      · have b5 := bG.trans b4
        refine ⟨fun a o n e => ?_, ?_⟩
        · rw [upd_ne (fun z => by rw [z, nD] at e; cases e)]
          exact b5.1 a o n e
        · obtain ⟨r, m, e, f⟩ := b5.2
          exact ⟨r, m, by rw [upd_ne ne.symm]; exact e, f⟩
      · have kp := put_keepT (o := .lst (xs ++ [v])) (bt_lst b4 ne hD)
        exact ((hP.keep (bt_keepT b4 bG.2)).keep kp).snoc (pl.keep kp)
      · intro z hz
        rcases List.mem_append.mp hz with q | q
        · exact hS z q
        · rw [List.mem_singleton.mp q]
          exact sm
    · rintro G ⟨bG, xs, sts, hD, hP, hn, hS⟩
      refine ⟨_, rfl, _, rfl, D0, xs, rfl, .inl ⟨SqL.of hD, fun T hT => ⟨line2.1, fun t ht => ?_⟩⟩⟩
      have c1 := Bt.new (.tup xs) bG.2 hT
      have c2 := Bt.new (.tup [.int (h : Int), .ref T]) c1.2 ht
      refine kk (.mk h sts) _ _ ((b3.trans bG).trans (c1.trans c2)) ?_ (M.sm_way hd h1 h2 (by omega) (by omega) hS)
      unfold PlanAt
      exact ⟨t, T, xs, rfl, upd_same, of_upd ht _ _ upd_same, hP.keep (bt_keepT (c1.trans c2) bG.2)⟩
end
end CP

end
section
set_option autoImplicit false
set_option Elab.async false
set_option linter.all false
set_option maxRecDepth 100000
set_option maxHeartbeats 4000000
/-! ## texts of ways: their lines, and how they are read -/
namespace TX
open PySem hiding Step
open TL M
def S (l : List Nat) : Str := ⟨l.toArray⟩
theorem tl_S (l : List Nat) : tl (S l) = l := by simp [tl, S]
theorem S_tl (x : Str) : S (tl x) = x := ext_tl (tl_S _)
theorem S_app (a b : List Nat) : S a ++ S b = S (a ++ b) := ext_tl (by rw [tl_append, tl_S, tl_S, tl_S])
theorem S_len (l : List Nat) : (S l).length = l.length := by rw [len_tl, tl_S]
theorem S_of {x : Str} {l : List Nat} (h : tl x = l) : x = S l := by rw [← h, S_tl]
theorem S_inj {a b : List Nat} (h : S a = S b) : a = b := by rw [← tl_S a, h, tl_S]
def cHead : List Nat := [104, 101, 97, 100]
def cRoad : List Nat := [114, 111, 97, 100]
def cJoin : List Nat := [106, 111, 105, 110]
def cTun : List Nat := [116, 117, 110, 110, 101, 108]
def sd (b : Bool) : List Nat := tl (WP.sdS b)
def lw (l : LW) : List Nat := tl (WP.lwS l)
def tw (t : TW) : List Nat := tl (WP.twS t)
/-- the words of a line without an inner way -/
def plainW : Step → List (List Nat)
  | .road size ts l => [cRoad, numL size, sd ts, lw l]
  | .join most => [cJoin, numL most]
  | .tunnel _ most t => [cTun, numL most, tw t]
def headW (h : Nat) : List (List Nat) := [cHead, numL h]
/-- words put together by blanks -/
def wd (ws : List (List Nat)) : List Nat := joinL [32] ws
mutual
/-- the lines of a way, not indented -/
def Way.lines : Way → List (List Nat)
  | .mk h s => wd (headW h) :: Step.linesAll s
def Step.linesAll : List Step → List (List Nat)
  | [] => []
  | s :: r => Step.lines s ++ Step.linesAll r
def Step.lines : Step → List (List Nat)
  | .road size ts l => [wd (plainW (.road size ts l))]
  | .join most => [wd (plainW (.join most))]
  | .tunnel w most t => wd (plainW (.tunnel w most t)) :: (Way.lines w).map ([32, 32] ++ ·)
end
def text (w : Way) : List Nat := joinL [10] (Way.lines w)
theorem sd_cs (b : Bool) : sd b = [116, 101, 108, 108] ∨ sd b = [100, 114, 111, 112] := by cases b <;> decide +kernel
theorem lw_cs (l : LW) : lw l = [99, 117, 116] ∨ lw l = [116, 101, 108, 108] ∨ lw l = [100, 114, 111, 112] := by cases l <;> decide +kernel
theorem tw_cs (t : TW) : tw t = [116, 117, 114, 110] ∨ tw t = [107, 101, 101, 112] ∨ tw t = [108, 111, 115, 101] := by cases t <;> decide +kernel
/-- a word: not empty, short, of signs that are neither a blank nor a line's end -/
structure Wd (l : List Nat) : Prop where
  ne : l ≠ []
  len : l.length ≤ 13
  sp : ∀ c ∈ l, c ≠ 32 ∧ c ≠ 10
theorem wd_of {l : List Nat} (h : (!l.isEmpty && decide (l.length ≤ 13) && l.all fun c => decide (c ≠ 32 ∧ c ≠ 10)) = true) : Wd l := by
  rw [Bool.and_eq_true, Bool.and_eq_true] at h
  obtain ⟨⟨h1, h2⟩, h3⟩ := h
  refine ⟨fun e => ?_, of_decide_eq_true h2, fun c hc => of_decide_eq_true (List.all_eq_true.mp h3 c hc)⟩
  rw [e] at h1
  cases h1
theorem wd_head : Wd cHead := wd_of (by decide +kernel)
theorem wd_road : Wd cRoad := wd_of (by decide +kernel)
theorem wd_join : Wd cJoin := wd_of (by decide +kernel)
theorem wd_tun : Wd cTun := wd_of (by decide +kernel)
theorem wd_sd (b : Bool) : Wd (sd b) := by rcases sd_cs b with e | e <;> rw [e] <;> exact wd_of (by decide +kernel)
theorem wd_lw (b : LW) : Wd (lw b) := by rcases lw_cs b with e | e | e <;> rw [e] <;> exact wd_of (by decide +kernel)
theorem wd_tw (b : TW) : Wd (tw b) := by rcases tw_cs b with e | e | e <;> rw [e] <;> exact wd_of (by decide +kernel)
theorem wd_num {n : Nat} (h : n ≤ 1000000000000) : Wd (numL n) := by
  refine ⟨numL_ne n, numL_len (k := 13) (by decide) (Nat.lt_of_le_of_lt h (by decide)), fun c hc => ?_⟩
  have := numL_digits n c hc
  omega
theorem headW_wd {h : Nat} (hh : h ≤ 40) : ∀ w ∈ headW h, Wd w := fun w hw => by
  unfold headW at hw
  simp only [List.mem_cons, List.mem_nil_iff, or_false] at hw
  rcases hw with rfl | rfl
  · exact wd_head
  · exact wd_num (by omega)
theorem plainW_wd {h : Nat} {s : Step} (hf : s.fine h) : ∀ w ∈ plainW s, Wd w := fun w hw => by
  cases s with
  | road size ts l =>
    unfold Step.fine at hf
    simp only [plainW, List.mem_cons, List.mem_nil_iff, or_false] at hw
    rcases hw with rfl | rfl | rfl | rfl
    · exact wd_road
    · exact wd_num (by omega)
    · exact wd_sd _
    · exact wd_lw _
  | join most =>
    unfold Step.fine at hf
    simp only [plainW, List.mem_cons, List.mem_nil_iff, or_false] at hw
    rcases hw with rfl | rfl
    · exact wd_join
    · exact wd_num (by omega)
  | tunnel w most t =>
    unfold Step.fine at hf
    simp only [plainW, List.mem_cons, List.mem_nil_iff, or_false] at hw
    rcases hw with rfl | rfl | rfl
    · exact wd_tun
    · exact wd_num (by omega)
    · exact wd_tw _
theorem join_len {S : List Nat} (k m : Nat) (hS : S.length ≤ m) : ∀ {ps : List (List Nat)}, (∀ p ∈ ps, p.length ≤ k) → (joinL S ps).length ≤ ps.length * (k + m)
  | [], _ => Nat.zero_le _
  | [p], h => by
    have := h p List.mem_cons_self
    show p.length ≤ 1 * (k + m)
    omega
  | p :: q :: r, h => by
    have a := h p List.mem_cons_self
    have b := join_len k m hS (ps := q :: r) fun x hx => h x (List.mem_cons_of_mem _ hx)
    show (p ++ (S ++ joinL S (q :: r))).length ≤ _
    rw [List.length_append, List.length_append, List.length_cons (a := p), Nat.add_mul]
    omega
theorem join_mem {S : List Nat} {c : Nat} : ∀ {ps : List (List Nat)}, c ∈ joinL S ps → c ∈ S ∨ ∃ p ∈ ps, c ∈ p
  | [], h => by cases h
  | [p], h => .inr ⟨p, List.mem_cons_self, h⟩
  | p :: q :: r, h => by
    rcases List.mem_append.mp h with h | h
    · exact .inr ⟨p, List.mem_cons_self, h⟩
    · rcases List.mem_append.mp h with h | h
      · exact .inl h
      · rcases join_mem h with h | ⟨x, hx, hc⟩
        · exact .inl h
        · exact .inr ⟨x, List.mem_cons_of_mem _ hx, hc⟩
/-- a line: of words -/
structure Ln (l : List Nat) : Prop where
  len : l.length ≤ 60
  nl : (10 : Nat) ∉ l
theorem ln_wd {ws : List (List Nat)} (h : ∀ w ∈ ws, Wd w) (hl : ws.length ≤ 4) : (wd ws).length ≤ 56 ∧ (10 : Nat) ∉ wd ws := by
  refine ⟨?_, fun z => ?_⟩
  · have := join_len (S := [32]) 13 1 (by decide) (ps := ws) fun p hp => (h p hp).len
    unfold wd
    omega
  · rcases join_mem z with z | ⟨p, hp, hc⟩
    · exact absurd z (by decide)
    · exact ((h p hp).sp 10 hc).2 rfl
/-- words come back -/
theorem split_wd {ws : List (List Nat)} (h : ∀ w ∈ ws, Wd w) (hn : ws ≠ []) : Txt.split (S (wd ws)) (S [32]) = ws.map S := by
  have e : S (wd ws) = Txt.join (S [32]) (ws.map S) := by
    rw [join_eq]
    refine ext_tl ?_
    rw [tl_join, tl_S, tl_S, List.map_map]
    have : tl ∘ S = id := funext tl_S
    rw [this, List.map_id]
    rfl
  rw [e]
  refine split_join (s := 32) (S := []) (tl_S _) (by decide +kernel) (fun z => hn (List.map_eq_nil_iff.mp z)) fun p hp => ?_
  obtain ⟨w, hw, rfl⟩ := List.mem_map.mp hp
  rw [tl_S]
  exact fun z => ((h w hw).sp 32 z).1 rfl
theorem join_lines (ls : List (List Nat)) : Txt.join (S [10]) (ls.map S) = S (joinL [10] ls) := by
  rw [join_eq]
  refine ext_tl ?_
  rw [tl_join, tl_S, tl_S, List.map_map]
  have : tl ∘ S = id := funext tl_S
  rw [this, List.map_id]
theorem split_lines {ls : List (List Nat)} (h : ∀ l ∈ ls, (10 : Nat) ∉ l) (hn : ls ≠ []) : Txt.split (S (joinL [10] ls)) (S [10]) = ls.map S := by
  rw [← join_lines]
  refine split_join (s := 10) (S := []) (tl_S _) (by decide +kernel) (fun z => hn (List.map_eq_nil_iff.mp z)) fun p hp => ?_
  obtain ⟨w, hw, rfl⟩ := List.mem_map.mp hp
  rw [tl_S]
  exact h w hw
mutual
/-- lines are short, and so many -/
theorem way_lines : ∀ (w : Way) (d : Nat), w.fine → w.depth ≤ d → (∀ l ∈ Way.lines w, l.length ≤ 54 + 2 * d ∧ (10 : Nat) ∉ l) ∧ (Way.lines w).length ≤ 2 * w.size + 1
  | .mk h s, d, hf, hd => by
    unfold Way.fine at hf
    unfold Way.depth at hd
    unfold Way.lines Way.size
    obtain ⟨d, rfl⟩ : ∃ k, d = k + 1 := ⟨d - 1, by omega⟩
    obtain ⟨a, b⟩ := all_lines s h d hf.2.2.1 (by omega)
    refine ⟨fun l hl => ?_, by rw [List.length_cons]; omega⟩
    rcases List.mem_cons.mp hl with e | e
    · rw [e]
      have := ln_wd (headW_wd hf.1.2) (by show 2 ≤ 4; decide)
      exact ⟨by omega, this.2⟩
    · have := a l e
      exact ⟨by omega, this.2⟩
theorem all_lines : ∀ (s : List Step) (h d : Nat), Step.fineAll h s → Step.deepest s ≤ d → (∀ l ∈ Step.linesAll s, l.length ≤ 56 + 2 * d ∧ (10 : Nat) ∉ l) ∧ (Step.linesAll s).length ≤ 2 * (s.length + Step.inner s)
  | [], h, d, _, _ => by
    unfold Step.linesAll
    exact ⟨(fun l hl => by cases hl), Nat.zero_le _⟩
  | x :: r, h, d, hf, hd => by
    unfold Step.fineAll at hf
    rw [deep_cons] at hd
    obtain ⟨a, b⟩ := step_lines x h d hf.1 (by omega)
    obtain ⟨a2, b2⟩ := all_lines r h d hf.2 (by omega)
    unfold Step.linesAll
    refine ⟨fun l hl => ?_, ?_⟩
    · rcases List.mem_append.mp hl with e | e
      · exact a l e
      · exact a2 l e
    · rw [List.length_append, inner_cons, List.length_cons]
      omega
theorem step_lines : ∀ (x : Step) (h d : Nat), x.fine h → x.dep ≤ d → (∀ l ∈ Step.lines x, l.length ≤ 56 + 2 * d ∧ (10 : Nat) ∉ l) ∧ (Step.lines x).length ≤ 2 * (1 + isz x)
  | .road size ts l, h, d, hf, hd => by
    unfold Step.lines
    refine ⟨fun l hl => ?_, by rw [List.length_singleton]; omega⟩
    rw [List.mem_singleton.mp hl]
    have := ln_wd (plainW_wd hf) (by show 4 ≤ 4; decide)
    exact ⟨by omega, this.2⟩
  | .join most, h, d, hf, hd => by
    unfold Step.lines
    refine ⟨fun l hl => ?_, by rw [List.length_singleton]; omega⟩
    rw [List.mem_singleton.mp hl]
    have := ln_wd (plainW_wd hf) (by show 2 ≤ 4; decide)
    exact ⟨by omega, this.2⟩
  | .tunnel w most t, h, d, hf, hd => by
    have hf0 := hf
    unfold Step.fine at hf
    obtain ⟨a, b⟩ := way_lines w d hf.1 hd
    unfold Step.lines
    refine ⟨fun l hl => ?_, ?_⟩
    · rcases List.mem_cons.mp hl with e | e
      · rw [e]
        have := ln_wd (plainW_wd hf0) (by show 3 ≤ 4; decide)
        exact ⟨by omega, this.2⟩
      · obtain ⟨k, hk, rfl⟩ := List.mem_map.mp e
        have := a k hk
        rw [List.length_append]
        refine ⟨by show 2 + k.length ≤ _; omega, fun z => ?_⟩
        rcases List.mem_append.mp z with z | z
        · exact absurd z (by decide)
        · exact this.2 z
    · rw [List.length_cons, List.length_map]
      show _ ≤ 2 * (1 + w.size)
      omega
end
end TX

end
section
set_option autoImplicit false
set_option Elab.async false
set_option linter.all false
set_option maxRecDepth 100000
set_option maxHeartbeats 4000000
/-! ## how lines are read: a stack of ways that are begun -/
namespace TX
open PySem hiding Step
open TL M
/-- a way that is begun -/
structure Fr where
  out : Option (Nat × TW)
  head : Option Nat
  steps : List Step
inductive Li where
  | head (h : Nat)
  | plain (s : Step)
  | tun (most : Nat) (t : TW)
def liW : Li → List (List Nat)
  | .head h => headW h
  | .plain s => plainW s
  | .tun m t => [cTun, numL m, tw t]
def isTun : Step → Prop
  | .tunnel _ _ _ => True
  | .road _ _ _ => False
  | .join _ => False
mutual
/-- the lines with their levels -/
def wl : Nat → Way → List (Nat × Li)
  | lv, .mk h s => (lv, .head h) :: sls lv s
def sls : Nat → List Step → List (Nat × Li)
  | _, [] => []
  | lv, s :: r => sl lv s ++ sls lv r
def sl : Nat → Step → List (Nat × Li)
  | lv, .road a b c => [(lv, .plain (.road a b c))]
  | lv, .join a => [(lv, .plain (.join a))]
  | lv, .tunnel w m t => (lv, .tun m t) :: wl (lv + 1) w
end
def indL (lv : Nat) : List Nat := List.replicate (2 * lv) 32
def lineOf (x : Nat × Li) : List Nat := indL x.1 ++ wd (liW x.2)
theorem ind_succ (lv : Nat) : indL (lv + 1) = indL lv ++ [32, 32] := by
  unfold indL
  rw [show 2 * (lv + 1) = 2 * lv + 2 by omega]
  exact List.replicate_append_replicate.symm
mutual
theorem wl_lines : ∀ (w : Way) (lv : Nat), (wl lv w).map lineOf = (Way.lines w).map (indL lv ++ ·)
  | .mk h s, lv => by
    unfold wl Way.lines
    rw [List.map_cons, List.map_cons, sls_lines s lv]
    rfl
theorem sls_lines : ∀ (s : List Step) (lv : Nat), (sls lv s).map lineOf = (Step.linesAll s).map (indL lv ++ ·)
  | [], lv => by
    unfold sls Step.linesAll
    rfl
  | x :: r, lv => by
    unfold sls Step.linesAll
    rw [List.map_append, List.map_append, sl_lines x lv, sls_lines r lv]
theorem sl_lines : ∀ (s : Step) (lv : Nat), (sl lv s).map lineOf = (Step.lines s).map (indL lv ++ ·)
  | .road a b c, lv => by
    unfold sl Step.lines
    rfl
  | .join a, lv => by
    unfold sl Step.lines
    rfl
  | .tunnel w m t, lv => by
    unfold sl Step.lines
    rw [List.map_cons, List.map_cons, wl_lines w (lv + 1), List.map_map]
    show lineOf (lv, .tun m t) :: _ = _
    refine List.cons_eq_cons.mpr ⟨rfl, List.map_congr_left fun l _ => ?_⟩
    show indL (lv + 1) ++ l = indL lv ++ ([32, 32] ++ l)
    rw [ind_succ, List.append_assoc]
end
theorem text_lines (w : Way) : (Way.lines w) = (wl 0 w).map lineOf := by
  rw [wl_lines]
  show _ = (Way.lines w).map fun l => [] ++ l
  simp
/-- inner ways ended, down to a level; the stack's top stands first -/
inductive Closes (lv : Nat) : List Fr → List Fr → Prop
  | done {st : List Fr} : st.length = lv + 1 → Closes lv st st
  | close {b a : Fr} {r st : List Fr} {h m : Nat} {t : TW} : lv + 1 < (b :: a :: r).length → b.out = some (m, t) → b.head = some h → Way.fine (.mk h b.steps) → Closes lv ({ a with steps := a.steps ++ [.tunnel (.mk h b.steps) m t] } :: r) st → Closes lv (b :: a :: r) st
theorem Closes.len {lv : Nat} {st st' : List Fr} (c : Closes lv st st') : st'.length = lv + 1 := by
  induction c with
  | done h => exact h
  | close _ _ _ _ _ ih => exact ih
theorem Closes.trans {lv lu : Nat} {st s1 s2 : List Fr} (c : Closes lv st s1) (hl : lu ≤ lv) (d : Closes lu s1 s2) : Closes lu st s2 := by
  induction c with
  | done h => exact d
  | close hl2 h1 h2 h3 _ ih => exact .close (by omega) h1 h2 h3 (ih d)
/-- a stack that goes on at a level -/
structure Rdy (lv : Nat) (st st' : List Fr) : Prop where
  cl : Closes lv st st'
  top : ∃ b r, st = b :: r ∧ (∃ h, b.head = some h) ∧ (b.steps ≠ [] ∨ st.length = lv + 1)
/-- a line is taken -/
inductive Feed : List Fr × Nat → Nat × Li → List Fr × Nat → Prop
  | head {f : Fr} {r : List Fr} {n h : Nat} : f.head = none → 1 ≤ h → h ≤ 40 → Feed (f :: r, n) (r.length, .head h) ({ f with head := some h } :: r, n)
  | plain {st : List Fr} {f : Fr} {r : List Fr} {n h lv : Nat} {s : Step} : Rdy lv st (f :: r) → f.head = some h → ¬ isTun s → s.fine h → h ≤ 40 → f.steps.length < 12 → n < 40 → Feed (st, n) (lv, .plain s) ({ f with steps := f.steps ++ [s] } :: r, n + 1)
  | tun {st : List Fr} {f : Fr} {r : List Fr} {n lv m : Nat} {t : TW} : Rdy lv st (f :: r) → 1 ≤ m → m ≤ 1000000000000 → f.steps.length < 12 → n + 1 < 40 → r.length + 2 ≤ 3 → Feed (st, n) (lv, .tun m t) (⟨some (m, t), none, []⟩ :: f :: r, n + 1)
inductive Runs : List Fr × Nat → List (Nat × Li) → List Fr × Nat → Prop
  | nil {x : List Fr × Nat} : Runs x [] x
  | cons {x y z : List Fr × Nat} {l : Nat × Li} {ls : List (Nat × Li)} : Feed x l y → Runs y ls z → Runs x (l :: ls) z
theorem Runs.app {x y z : List Fr × Nat} {ls ms : List (Nat × Li)} (a : Runs x ls y) (b : Runs y ms z) : Runs x (ls ++ ms) z := by
  induction a with
  | nil => exact b
  | cons f _ ih => exact .cons f (ih b)
mutual
theorem runs_way : ∀ (w : Way) (f : Fr) (r : List Fr) (n : Nat), w.fine → f.head = none → f.steps = [] → r.length + w.depth ≤ 3 → n + w.size ≤ 40 →
    ∃ st, Runs (f :: r, n) (wl r.length w) (st, n + w.size) ∧ Rdy r.length st ({ f with head := some w.head, steps := w.steps } :: r) ∧ (∃ b q, st = b :: q ∧ b.steps ≠ [])
  | .mk h s, f, r, n, hf, h1, h2, hd, hn => by
    unfold Way.fine at hf
    unfold Way.depth at hd
    unfold Way.size at hn ⊢
    unfold wl
    have e : f.steps ++ s = s := by rw [h2]; rfl
    obtain ⟨st, a, b, c⟩ := runs_all s { f with head := some h } r ({ f with head := some h } :: r) n h (lv := r.length) ⟨.done (by rw [List.length_cons]), _, _, rfl, ⟨h, rfl⟩, .inr (by rw [List.length_cons])⟩ rfl hf.2.2.1 hf.1.2 (by show f.steps.length + s.length ≤ 12; rw [h2]; simp; omega) rfl (by omega) hn
    refine ⟨st, .cons (.head h1 hf.1.1 hf.1.2) a, ?_, ?_⟩
    · have := b
      dsimp only at this
      rw [e] at this
      exact this
    · exact c (fun z => by rw [z] at hf; simp at hf)
theorem runs_all : ∀ (s : List Step) (f : Fr) (r st : List Fr) (n h : Nat) {lv : Nat}, Rdy lv st (f :: r) → f.head = some h → Step.fineAll h s → h ≤ 40 → f.steps.length + s.length ≤ 12 → r.length = lv → lv + 1 + Step.deepest s ≤ 3 → n + (s.length + Step.inner s) ≤ 40 →
    ∃ st', Runs (st, n) (sls lv s) (st', n + (s.length + Step.inner s)) ∧ Rdy lv st' ({ f with steps := f.steps ++ s } :: r) ∧ (s ≠ [] → ∃ b q, st' = b :: q ∧ b.steps ≠ [])
  | [], f, r, st, n, h, lv, hr, hh, _, _, _, hl, _, _ => by
    unfold sls
    refine ⟨st, ?_, ?_, fun z => absurd rfl z⟩
    · show Runs (st, n) [] (st, n + (0 + Step.inner []))
      unfold Step.inner
      exact .nil
    · rw [List.append_nil]
      exact hr
  | x :: s, f, r, st, n, h, lv, hr, hh, hf, h40, hl, hl2, hd, hn => by
    unfold Step.fineAll at hf
    rw [deep_cons] at hd
    rw [inner_cons, List.length_cons] at hn ⊢
    rw [List.length_cons] at hl
    obtain ⟨s1, a1, b1, c1⟩ := runs_step x f r st n h hr hh hf.1 h40 (by omega) hl2 (by omega) (by omega)
    obtain ⟨b0, q0, e0, n0⟩ := c1
    obtain ⟨s2, a2, b2, c2⟩ := runs_all s { f with steps := f.steps ++ [x] } r s1 (n + (1 + isz x)) h b1 hh hf.2 h40 (by show (f.steps ++ [x]).length + s.length ≤ 12; rw [List.length_append, List.length_singleton]; omega) hl2 (by omega) (by omega)
    refine ⟨s2, ?_, ?_, fun _ => ?_⟩
    · unfold sls
      have := a1.app a2
      rw [show n + (s.length + 1 + (isz x + Step.inner s)) = n + (1 + isz x) + (s.length + Step.inner s) by omega]
      exact this
    · have e : (f.steps ++ [x]) ++ s = f.steps ++ x :: s := by rw [List.append_assoc]; rfl
      have := b2
      dsimp only at this
      rw [e] at this
      exact this
    · by_cases z : s = []
      · subst z
        unfold sls at a2
        cases a2
        exact ⟨b0, q0, e0, n0⟩
      · exact c2 z
theorem runs_step : ∀ (x : Step) (f : Fr) (r st : List Fr) (n h : Nat) {lv : Nat}, Rdy lv st (f :: r) → f.head = some h → x.fine h → h ≤ 40 → f.steps.length < 12 → r.length = lv → lv + 1 + x.dep ≤ 3 → n + (1 + isz x) ≤ 40 →
    ∃ st', Runs (st, n) (sl lv x) (st', n + (1 + isz x)) ∧ Rdy lv st' ({ f with steps := f.steps ++ [x] } :: r) ∧ ∃ b q, st' = b :: q ∧ b.steps ≠ []
  | .road a b c, f, r, st, n, h, lv, hr, hh, hf, h40, hl, hl2, hd, hn => by
    unfold sl
    refine ⟨_, .cons (.plain hr hh (fun z => z) hf h40 hl (by omega)) .nil, ⟨.done (by rw [List.length_cons, hl2]), _, _, rfl, ⟨h, hh⟩, .inl (by simp)⟩, _, _, rfl, by simp⟩
  | .join a, f, r, st, n, h, lv, hr, hh, hf, h40, hl, hl2, hd, hn => by
    unfold sl
    refine ⟨_, .cons (.plain hr hh (fun z => z) hf h40 hl (by omega)) .nil, ⟨.done (by rw [List.length_cons, hl2]), _, _, rfl, ⟨h, hh⟩, .inl (by simp)⟩, _, _, rfl, by simp⟩
  | .tunnel w m t, f, r, st, n, h, lv, hr, hh, hf, h40, hl, hl2, hd, hn => by
    unfold Step.fine at hf
    have hd2 : lv + 1 + w.depth ≤ 3 := hd
    have hn2 : n + (1 + w.size) ≤ 40 := hn
    have dp : 1 ≤ w.depth := by
      obtain ⟨wh, ws⟩ := w
      unfold Way.depth
      omega
    have sp : 1 ≤ w.size := by
      obtain ⟨wh, ws⟩ := w
      have := hf.1
      unfold Way.fine at this
      unfold Way.size
      omega
    obtain ⟨st', a1, b1, b0, q0, e0, n0⟩ := runs_way w ⟨some (m, t), none, []⟩ (f :: r) (n + 1) hf.1 rfl rfl (by rw [List.length_cons, hl2]; omega) (by omega)
    rw [List.length_cons, hl2] at a1 b1
    unfold sl
    refine ⟨st', ?_, ⟨?_, b0, q0, e0, ?_, .inl n0⟩, b0, q0, e0, n0⟩
    · rw [show n + (1 + isz (.tunnel w m t)) = n + 1 + w.size by show n + (1 + w.size) = _; omega]
      exact .cons (.tun hr hf.2.1 hf.2.2 hl (by omega) (by omega)) a1
    · obtain ⟨wh, ws⟩ := w
      refine b1.cl.trans (Nat.le_succ lv) (.close (h := wh) (m := m) (t := t) ?_ rfl rfl hf.1 (.done ?_))
      · rw [List.length_cons, List.length_cons, hl2]
        omega
      · rw [List.length_cons, hl2]
    · obtain ⟨b2, q2, e2, h2, _⟩ := b1.top
      rw [e0] at e2
      cases e2
      exact h2
end
theorem runs_text {w : Way} (h : w.fine) : ∃ st, Runs ([⟨none, none, []⟩], 0) (wl 0 w) (st, w.size) ∧ Closes 0 st [⟨none, some w.head, w.steps⟩] ∧ ∃ b q, st = b :: q ∧ b.steps ≠ [] := by
  have f := h
  obtain ⟨wh, ws⟩ := w
  unfold Way.fine at f
  obtain ⟨st, a, b, c⟩ := runs_way (.mk wh ws) ⟨none, none, []⟩ [] 0 h rfl rfl (by unfold Way.depth; simp; omega) (by unfold Way.size; omega)
  rw [Nat.zero_add] at a
  exact ⟨st, a, b.cl, c⟩
end TX

end
section
set_option autoImplicit false
set_option Elab.async false
set_option linter.all false
set_option maxRecDepth 100000
set_option maxHeartbeats 4000000
/-! ## ways of plans -/
namespace WP
open PySem L2 G
variable {C : Addr}
open CP (KeepT)
mutual
theorem WayAt.keep {C : Addr} {H H' : Hp} (s : CP.KeepT H H') : ∀ {w : M.Way} {a : Addr}, WayAt C H w a → WayAt C H' w a
  | .mk h st, a, x => by
    unfold WayAt at x ⊢
    obtain ⟨dx, t, xs, h1, h2, h3⟩ := x
    exact ⟨dx, t, xs, s _ _ (fun _ z => by cases z) h1, CP.KeepT.tup s h2, StepsAt.keep s h3⟩
theorem StepsAt.keep {C : Addr} {H H' : Hp} (s : CP.KeepT H H') : ∀ {st : List M.Step} {xs : List V}, StepsAt C H st xs → StepsAt C H' st xs
  | [], xs, x => by
    unfold StepsAt at x ⊢
    exact x
  | y :: r, xs, x => by
    unfold StepsAt at x ⊢
    obtain ⟨u, ys, e, h1, h2⟩ := x
    exact ⟨u, ys, e, StepAt.keep s h1, StepsAt.keep s h2⟩
theorem StepAt.keep {C : Addr} {H H' : Hp} (s : CP.KeepT H H') : ∀ {st : M.Step} {x : V}, StepAt C H st x → StepAt C H' st x
  | .road size ts lw, v, x => by
    unfold StepAt at x ⊢
    obtain ⟨t, e, h⟩ := x
    exact ⟨t, e, CP.KeepT.tup s h⟩
  | .join most, v, x => by
    unfold StepAt at x ⊢
    obtain ⟨t, e, h⟩ := x
    exact ⟨t, e, CP.KeepT.tup s h⟩
  | .tunnel w most tw, v, x => by
    unfold StepAt at x ⊢
    obtain ⟨t, a, e, h, h2⟩ := x
    exact ⟨t, a, e, CP.KeepT.tup s h, WayAt.keep s h2⟩
end
theorem StepsAt.snoc {C : Addr} {H : Hp} : ∀ {s : List M.Step} {xs : List V} {y : M.Step} {x : V}, StepsAt C H s xs → StepAt C H y x → StepsAt C H (s ++ [y]) (xs ++ [x])
  | [], xs, y, x, h, h2 => by
    unfold StepsAt at h
    subst h
    show StepsAt C H [y] [x]
    unfold StepsAt
    exact ⟨x, [], rfl, h2, by unfold StepsAt; rfl⟩
  | z :: s, xs, y, x, h, h2 => by
    unfold StepsAt at h
    obtain ⟨u, ys, rfl, h3, h4⟩ := h
    show StepsAt C H (z :: (s ++ [y])) (u :: (ys ++ [x]))
    unfold StepsAt
    exact ⟨u, ys ++ [x], rfl, h3, StepsAt.snoc h4 h2⟩
structure Mw (P : Program) (w : World) (K : PySem.W.Frag) (mg : Str → Option Value) (base : Heap) (C : Addr) : Prop where
  ex : ∃ (f : Addr) (fd : FuncData), FnOk P w K mg base CX0 6 f fd ["self", "head", "steps"] (spInit C) ∧ Mk K C f ∧ Binds K fd ["self", "head", "steps"] []
theorem made_way {H : Hp} {Q : VK} {E : XK} {l : Addr} {h : Nat} {xs : List V} {st : List M.Step} (hl : SAt H l xs) (hs : StepsAt C H st xs) (hf : M.Way.fine (.mk h st)) (k : ∀ x H', Same H H' → WayAt C H' (.mk h st) x → Q (.ref x) H') :
    ∀ x dx, H x = none → H dx = none → dx ≠ x → spInit C (.ref x :: ([.int (h : Int), .ref l] ++ [])) (upd (upd H dx (.own x)) x (.ins C dx [])) (fun v H2 => v = .non ∧ Q (.ref x) H2) E := fun x dx hx hdx ne =>
  ⟨x, l, dx, h, xs, st, H, rfl, upd_same, hx, (Same.of_upd hdx).trans (Same.of_upd (by rw [upd_ne ne.symm]; exact hx)), hl, hs, hf, fun H' s wa => ⟨rfl, k x H' s wa⟩⟩
end WP
namespace CP
open PySem L2 G Y
theorem PlStep.kind {H : Hp} : ∀ {s : M.Step} {x : V}, PlStep H s x → ∃ t, x = .ref t
  | .road _ _ _, x, h => by unfold PlStep at h; obtain ⟨t, e, h⟩ := h; exact ⟨t, e⟩
  | .join _, x, h => by unfold PlStep at h; obtain ⟨t, e, h⟩ := h; exact ⟨t, e⟩
  | .tunnel _ _ _, x, h => by unfold PlStep at h; obtain ⟨t, v, e, h, _⟩ := h; exact ⟨t, e⟩
section
variable {P : Program} {w : World} {K : PySem.W.Frag} {mg : Str → Option Value} {base : Heap} {C CW : Addr}
def spLWay (C : Addr) (n : Nat) : Sp := fun vs H Q _ => ∃ v wy, vs = [v] ∧ PlanAt H wy v ∧ M.Way.fine wy ∧ wy.depth ≤ n ∧ ∀ a H', Same H H' → WP.WayAt C H' wy a → Q (.ref a) H'
theorem scLw : FnScope ["plan", "head", "steps", "found", "step"] ["plan"] (defScope sLWay) := ⟨rfl, rfl, rfl, by decide +kernel, rfl, by decide +kernel, by decide +kernel⟩
theorem ok_lway {k n : Nat} {f : Addr} {fd : FuncData} (F : Fun K "_law_way" "_law_way" sLWay f fd) (T : WP.Wt K mg CW) (MW : WP.Mw P w K mg base CW) (hk : 7 ≤ k) (DW : Df P w K mg base k "_law_way" ["plan"] (spLWay CW n)) : FnOk P w K mg base CX0 (k + 1) f fd ["plan"] (spLWay CW (n + 1)) := by
  obtain ⟨fI, fdI, GI, MK, bI⟩ := MW.ex
  obtain ⟨fW, fdW, GW, gW, kW, bW⟩ := DW.ex
  refine F.ok scLw (fun vs H Q E h => ?_) (fun cdv A outer s H vs Q E hr h => ?_)
  · obtain ⟨v, wy, rfl, _⟩ := h
    rfl
  · obtain ⟨v, wy, rfl, hR, hf, hd, kk⟩ := h
    refine ⟨_, pss_cons (ps_asg (pv 0) (pg_tup (by rfl) (pgs_cons (pg_name (i := 1) scLw.nd rfl (Or.inl rfl)) (pgs_cons (pg_name (i := 2) scLw.nd rfl (Or.inl rfl)) pgs_nil))))
      (pss_cons (ps_set (i := 3) scLw.nd rfl (Or.inl rfl) (pe_lst pa_nil))
      (pss_cons (ps_for PassesOwn.never rfl (pi_tup (pv 2)) (pg_name (i := 4) scLw.nd rfl (Or.inl rfl)) (pss_one (ps_expr (pe_bm PySem.F.plainAttrs_list PySem.F.slot_list_append PySem.F.type_list_append mt_append (pv 3) (pa_cons (pe_ifExp (pt_cmpR (op_eq) (pe_ix ix_tup (pv 4) (pe_int) (fun _ _ => rfl)) (pe_str) (nomark _)) (pe_tup (pa_cons (pe_str) (pa_cons (pe_call GW (hr.mono (by omega)) rfl gW kW bW .nil pass0 (pa_cons (pe_ix ix_tup (pv 4) (pe_int) (fun _ _ => rfl)) pa_nil)) (pa_cons (pe_ix ix_tup (pv 4) (pe_int) (fun _ _ => rfl)) (pa_cons (pe_ix ix_tup (pv 4) (pe_int) (fun _ _ => rfl)) pa_nil))))) (pv 4)) pa_nil)))))
      (pss_one (ps_ret (pe_make MK GI (hr.mono (by omega)) rfl T.g bI .nil pass0 (pa_cons (pv 1) (pa_cons (pv 3) pa_nil))))))), ?_⟩
    obtain ⟨h, st⟩ := wy
    unfold PlanAt at hR
    obtain ⟨t, L, xs, rfl, ht, hL, hA⟩ := hR
    have hf0 := hf
    unfold M.Way.fine at hf
    obtain ⟨hh, hl, hall, hdd, hzz⟩ := hf
    unfold M.Way.depth at hd
    have lx := hA.len
    have z0 : ∀ {y0 : V} {ys : List V}, atI (y0 :: ys) (0 : Int) = some y0 := fun {y0 ys} => by exact atI_nat (xs := y0 :: ys) (j := 0) rfl
    refine ⟨_, rfl, t, _, rfl, SqT.of ht, rfl, _, _, rfl, _, _, rfl, rfl, ?_⟩
    dsimp only
    refine set_then (i := 3) ⟨line2.2.2.2, fun D hD => ?_⟩
    have s0 : Same H (upd H D (.lst [])) := of_upd hD
    refine ⟨_, rfl, L, rfl, ⟨_, SqT.of (s0 _ _ hL)⟩, ?_⟩
    refine for_it walk_tup (fun i σ G => Same H G ∧ ∃ acc q, σ = [some (.ref t), some (.int (h : Int)), some (.ref L), some (.ref D), q] ∧ G D = some (.lst acc) ∧ WP.StepsAt CW G (st.take i) acc)
      ⟨s0, [], _, rfl, upd_same, by unfold WP.StepsAt; rfl⟩ (fun i σ G _ z => SqT.of (z.1 _ _ hL)) ?_ ?_
    · rintro i x σ G G' hi ⟨s1, acc, q, rfl, hAc, hSt⟩ ⟨rfl, hx⟩
      obtain ⟨y, hy, hat⟩ := hA.get hx
      have la := hSt.len
      have et := take_snoc hy
      have lt : acc.length < sizeLine := small1000 (by rw [la, List.length_take]; omega)
      have fin : ∀ (G2 : Hp) (u : V), Same G' G2 → WP.StepAt CW G2 y u → Same H (upd G2 D (.lst (acc ++ [u]))) ∧ ∃ acc2 q, [some (V.ref t), some (.int (h : Int)), some (.ref L), some (.ref D), some x] = [some (.ref t), some (.int (h : Int)), some (.ref L), some (.ref D), q] ∧ (upd G2 D (.lst (acc ++ [u]))) D = some (.lst acc2) ∧ WP.StepsAt CW (upd G2 D (.lst (acc ++ [u]))) (st.take (i + 1)) acc2 := fun G2 u s2 hu => by
        refine ⟨add_upd hD (s1.trans s2), _, _, rfl, upd_same, ?_⟩
        rw [et]
        have kp : KeepT G2 (upd G2 D (.lst (acc ++ [u]))) := put_keepT (s2 _ _ hAc)
        exact ((hSt.mono s2).keep kp).snoc (hu.keep kp)
      dsimp only
      refine ⟨_, rfl, .inl ⟨rfl, _, SqL.of hAc⟩, ?_⟩
      cases y with
      | road size ts lw =>
        unfold PlStep at hat
        obtain ⟨t2, rfl, h2⟩ := hat
        refine ⟨_, rfl, t2, _, _, _, rfl, rfl, SqT.of (s1 _ _ h2), z0, rfl, _, rfl, ?_⟩
        refine iteN (fun z => absurd (V.str.inj z) (by decide +kernel)) ⟨_, rfl, D, acc, _, rfl, rfl, hAc, lt, fin G' _ (Same.refl _) ?_⟩
        unfold WP.StepAt
        exact ⟨t2, rfl, s1 _ _ h2⟩
      | join most =>
        unfold PlStep at hat
        obtain ⟨t2, rfl, h2⟩ := hat
        refine ⟨_, rfl, t2, _, _, _, rfl, rfl, SqT.of (s1 _ _ h2), z0, rfl, _, rfl, ?_⟩
        refine iteN (fun z => absurd (V.str.inj z) (by decide +kernel)) ⟨_, rfl, D, acc, _, rfl, rfl, hAc, lt, fin G' _ (Same.refl _) ?_⟩
        unfold WP.StepAt
        exact ⟨t2, rfl, s1 _ _ h2⟩
      | tunnel wi most tw =>
        unfold PlStep at hat
        obtain ⟨tx, v2, rfl, h2, hin⟩ := hat
        have fi := WP.fine_get hall hy
        unfold M.Step.fine at fi
        have di := M.dep_le hy
        have h3 := SqT.of (K := K) (s1 _ _ h2)
        have z1 : atI [V.str "tunnel", v2, .int (most : Int), .str (WP.twS tw)] (1 : Int) = some v2 := by exact atI_nat (j := 1) rfl
        have z2 : atI [V.str "tunnel", v2, .int (most : Int), .str (WP.twS tw)] (2 : Int) = some (.int (most : Int)) := by exact atI_nat (j := 2) rfl
        have z3 : atI [V.str "tunnel", v2, .int (most : Int), .str (WP.twS tw)] (3 : Int) = some (.str (WP.twS tw)) := by exact atI_nat (j := 3) rfl
        refine ⟨_, rfl, tx, _, _, _, rfl, rfl, h3, z0, rfl, _, rfl, ?_⟩
        refine iteP rfl ⟨_, rfl, tx, _, _, _, rfl, rfl, h3, z1, v2, wi, rfl, hin.keep (same_keepT s1), fi.1, ?_, fun a G2 s2 hwa => ?_⟩
        · have e : M.Step.dep (.tunnel wi most tw) = wi.depth := rfl
          omega
        have h4 := SqT.of (K := K) (s2 _ _ (s1 _ _ h2))
        refine ⟨_, rfl, tx, _, _, _, rfl, rfl, h4, z2, _, rfl, tx, _, _, _, rfl, rfl, h4, z3, (by show 4 ≤ sizeLine; decide), fun u hu => ?_⟩
        have s3 : Same G2 (upd G2 u (.tup [.str "tunnel", .ref a, .int (most : Int), .str (WP.twS tw)])) := of_upd hu
        refine ⟨D, acc, _, rfl, rfl, s3 _ _ (s2 _ _ hAc), lt, fin _ _ (s2.trans s3) ?_⟩
        unfold WP.StepAt
        exact ⟨u, a, rfl, upd_same, hwa.mono s3⟩
    · rintro σ G ⟨s1, acc, q, rfl, hAc, hSt⟩
      have e : st.take xs.length = st := by rw [lx]; exact List.take_length
      rw [e] at hSt
      refine ⟨_, rfl, _, rfl, ?_⟩
      exact WP.made_way (.inl hAc) hSt hf0 fun x H' s2 wa => kk x H' (s1.trans s2) wa
end
end CP

end
section
set_option autoImplicit false
set_option Elab.async false
set_option linter.all false
set_option maxRecDepth 100000
set_option maxHeartbeats 4000000
/-! ## how great gates are; gates and fates as data -/
namespace N
theorem B_top {cs : List Nat} : (∀ c ∈ cs, c ≤ 1000) → ∀ n, B cs n ≤ 1000 * n := by
  induction cs with
  | nil => intro _ n; exact Nat.zero_le _
  | cons c r ih =>
    intro h n
    rw [B_cons]
    have h1 := h c List.mem_cons_self
    have h2 := ih (fun d hd => h d (List.mem_cons_of_mem _ hd)) (n % L r c)
    have h3 := Nat.div_add_mod n (L r c)
    have h4 : n / L r c ≤ L r c * (n / L r c) := by
      rcases Nat.eq_zero_or_pos (L r c) with z | z
      · rw [z, Nat.div_zero]
        omega
      · exact Nat.le_mul_of_pos_left _ z
    have h5 : n / L r c * c ≤ n / L r c * 1000 := Nat.mul_le_mul_left _ h1
    omega
end N
namespace M
structure GB (D : Nat) (g : Gate) : Prop where
  lo : -1 ≤ g.thr
  hi : g.thr ≤ 1000000000000000
  an : ∀ z, g.ans = some z → -(40 * (D : Int)) ≤ z ∧ z ≤ 1000
  pl : ∀ i ∈ g.place, i < 12
theorem GB.up {D D' : Nat} {g : Gate} (b : GB D g) (h : D ≤ D') : GB D' g := ⟨b.lo, b.hi, fun z e => by have := b.an z e; omega, b.pl⟩
theorem most_gb {D m : Nat} {cs : List Nat} (c : Ck cs) (hm : m ≤ 1000000000000) {g : Gate} (h : g ∈ mostG m cs) : GB D g := by
  unfold mostG at h
  split at h
  · cases h
  · rw [List.mem_singleton.mp h]
    have := N.B_top c.le m
    refine ⟨?_, ?_, (fun z e => by cases e), (fun i hi => by cases hi)⟩
    · show (-1 : Int) ≤ ((N.B cs m : Nat) : Int)
      omega
    · show ((N.B cs m : Nat) : Int) ≤ 1000000000000000
      omega
theorem road_gb {D : Nat} {se : Bool} {h size : Nat} {ts : Bool} {lw : LW} {cs : List Nat} (h1 : h < size) (h2 : size ≤ 1000) {g : Gate} (m : g ∈ roadG se h size ts lw cs) : GB D g := by
  unfold roadG at m
  split at m
  · cases m
  · rw [List.mem_singleton.mp m]
    refine ⟨?_, ?_, fun z e => ?_, (fun i hi => by cases hi)⟩
    · show (-1 : Int) ≤ (size : Int) - (h : Int)
      omega
    · show (size : Int) - (h : Int) ≤ 1000000000000000
      omega
    · dsimp only at e
      split at e
      · cases e
        omega
      · cases e
theorem tun_gb {D h ih : Nat} {t : TW} {cs : List Nat} {l : List Gate} (hi : ih ≤ 40) (q : ∀ g ∈ l, GB D g) {g : Gate} (m : g ∈ tunG h ih t cs l) : GB (D + 1) g := by
  unfold tunG at m
  obtain ⟨g0, h0, h1⟩ := List.mem_flatMap.mp m
  have b := q g0 h0
  unfold tunG1 at h1
  split at h1
  · rw [List.mem_singleton.mp h1]
    have b1 := b.lo
    have b2 := b.hi
    refine ⟨?_, ?_, fun z e => ?_, b.pl⟩
    · show (-1 : Int) ≤ max (g0.thr - (h : Int)) (-1)
      omega
    · show max (g0.thr - (h : Int)) (-1) ≤ 1000000000000000
      omega
    · have e : turnG g0.ans ih t = some z := e
      unfold turnG at e
      cases ea : g0.ans with
      | none =>
        rw [ea] at e
        cases e
      | some y =>
        rw [ea] at e
        dsimp only at e
        split at e
        · cases e
          have := b.an y ea
          omega
        · cases e
  · cases h1
mutual
theorem Way.gb (se : Bool) : ∀ (w : Way), w.fine → ∀ g ∈ Way.gates se w, GB w.depth g
  | .mk h s, f, g, m => by
    unfold Way.gates at m
    unfold Way.fine at f
    unfold Way.depth
    exact Step.gbAll se h s 0 [] f.2.2.1 (by omega) ck_nil g m
theorem Step.gbAll (se : Bool) (h : Nat) : ∀ (s : List Step) (i : Nat) (cs : List Nat), Step.fineAll h s → i + s.length ≤ 12 → Ck cs → ∀ g ∈ Step.gatesAll se h s i cs, GB (1 + Step.deepest s) g
  | [], i, cs, f, hi, c, g, m => by
    unfold Step.gatesAll at m
    cases m
  | s :: r, i, cs, f, hi, c, g, m => by
    rw [gatesAll_cons] at m
    rw [deep_cons]
    unfold Step.fineAll at f
    rw [List.length_cons] at hi
    rcases List.mem_append.mp m with m | m
    · obtain ⟨g0, m0, rfl⟩ := List.mem_map.mp m
      have b := Step.gb se h s cs f.1 c g0 m0
      refine ⟨b.lo, b.hi, fun z e => ?_, fun j hj => ?_⟩
      · have := b.an z e
        omega
      · rcases List.mem_cons.mp hj with e | e
        · omega
        · exact b.pl j e
    · exact (Step.gbAll se h r (i + 1) _ f.2 (by omega) (ck_nx c f.1) g m).up (by omega)
theorem Step.gb (se : Bool) (h : Nat) : ∀ (s : Step) (cs : List Nat), Step.fine h s → Ck cs → ∀ g ∈ Step.gates se h s cs, GB (Step.dep s + 1) g
  | .road size ts lw, cs, f, c, g, m => by
    unfold Step.gates at m
    unfold Step.fine at f
    exact road_gb f.1 f.2 m
  | .join most, cs, f, c, g, m => by
    unfold Step.gates at m
    unfold Step.fine at f
    exact most_gb c f.2 m
  | .tunnel w most t, cs, f, c, g, m => by
    unfold Step.gates at m
    unfold Step.fine at f
    have f1 := f.1
    have hh : w.head ≤ 40 ∧ Step.fineAll w.head w.steps := by
      obtain ⟨wh, ws⟩ := w
      unfold Way.fine at f1
      exact ⟨f1.1.2, f1.2.2.1⟩
    refine tun_gb (D := w.depth) hh.1 (fun g0 m0 => ?_) m
    rcases List.mem_append.mp m0 with m0 | m0
    · exact Way.gb se w f1 g0 m0
    · exact most_gb (ck_all ck_nil hh.2) f.2.2 m0
end
end M
namespace CP
open PySem L2 G Y
/-- data that can be shown, with its depth and bulk -/
structure Nd (d : PyData) (k b : Nat) : Prop where
  sh : d.showable = true
  ls : d.leavesShort 20 = true
  dp : d.depth ≤ k
  bk : d.bulk ≤ b
theorem Nd.up {d : PyData} {k b k' b' : Nat} (h : Nd d k b) (h1 : k ≤ k') (h2 : b ≤ b') : Nd d k' b' := ⟨h.sh, h.ls, Nat.le_trans h.dp h1, Nat.le_trans h.bk h2⟩
theorem nd_int {z : Int} (h : z.natAbs < 10 ^ 18) (k b : Nat) : Nd (.int z) k b := by
  refine ⟨?_, ?_, by simp only [PyData.depth]; omega, by simp only [PyData.bulk]; omega⟩
  · simp only [PyData.showable]
    exact decide_eq_true (Nat.lt_of_lt_of_le (PySem.Flt.log2_lt_of (k := 60) (by decide) (Nat.lt_of_lt_of_le h (by decide))) (by decide))
  · simp only [PyData.leavesShort]
    refine decide_eq_true ?_
    have e := int_text_length_le10 (k := 18) (by decide) h
    show (Str.ofString (toString z)).length ≤ 20
    rw [ofString_length]
    omega
theorem nd_all {k b : Nat} : ∀ {ds : List PyData}, (∀ d ∈ ds, Nd d k b) → PyData.showableAll ds = true ∧ PyData.leavesShortAll 20 ds = true ∧ PyData.depthAll ds ≤ k ∧ PyData.bulkAll ds ≤ ds.length * (b + 1)
  | [], _ => ⟨rfl, rfl, by simp only [PyData.depthAll]; omega, by simp only [PyData.bulkAll]; omega⟩
  | d :: ds, h => by
    have a := h d List.mem_cons_self
    obtain ⟨b1, b2, b3, b4⟩ := nd_all (ds := ds) fun x hx => h x (List.mem_cons_of_mem _ hx)
    refine ⟨by simp only [PyData.showableAll, a.sh, b1, Bool.and_true], by simp only [PyData.leavesShortAll, a.ls, b2, Bool.and_true], ?_, ?_⟩
    · have := a.dp
      simp only [PyData.depthAll]
      omega
    · have := a.bk
      simp only [PyData.bulkAll]
      rw [List.length_cons, Nat.add_mul]
      omega
theorem nd_tup {k b n : Nat} {ds : List PyData} (h : ∀ d ∈ ds, Nd d k b) (hn : ds.length ≤ n) : Nd (.tuple ds) (k + 1) (n * (b + 1)) := by
  obtain ⟨b1, b2, b3, b4⟩ := nd_all h
  have b5 : ds.length * (b + 1) ≤ n * (b + 1) := Nat.mul_le_mul_right _ hn
  refine ⟨by simp only [PyData.showable, b1], by simp only [PyData.leavesShort, b2], ?_, ?_⟩
  · simp only [PyData.depth]
    omega
  · simp only [PyData.bulk]
    omega
theorem nd_lst {k b n : Nat} {ds : List PyData} (h : ∀ d ∈ ds, Nd d k b) (hn : ds.length ≤ n) : Nd (.list ds) (k + 1) (n * (b + 1)) := by
  obtain ⟨b1, b2, b3, b4⟩ := nd_all h
  have b5 : ds.length * (b + 1) ≤ n * (b + 1) := Nat.mul_le_mul_right _ hn
  refine ⟨by simp only [PyData.showable, b1], by simp only [PyData.leavesShort, b2], ?_, ?_⟩
  · simp only [PyData.depth]
    omega
  · simp only [PyData.bulk]
    omega
def dAns : Option Int → PyData
  | none => .none
  | some z => .int z
def dPl (p : List Nat) : PyData := .tuple (p.map fun n => .int ((n : Nat) : Int))
def dGate (g : M.Gate) : PyData := .tuple [dPl g.place, .int g.thr, dAns g.ans]
theorem nd_pl {p : List Nat} (h : ∀ i ∈ p, i < 12) (hl : p.length ≤ 3) : Nd (dPl p) 1 3 :=
  nd_tup (k := 0) (b := 0) (n := 3) (fun d hd => by
    obtain ⟨n, hn, rfl⟩ := List.mem_map.mp hd
    exact nd_int (Nat.lt_of_lt_of_le (by have := h n hn; omega : ((n : Nat) : Int).natAbs < 12) (by decide)) _ _) (by rw [List.length_map]; exact hl)
theorem nd_gate {D : Nat} {g : M.Gate} (b : M.GB D g) (hd : D ≤ 3) (hp : g.place.length ≤ 3) : Nd (dGate g) 2 12 := by
  refine nd_tup (k := 1) (b := 3) (n := 3) (fun d hd => ?_) (Nat.le_refl 3)
  have b1 := b.lo
  have b2 := b.hi
  simp only [List.mem_cons, List.mem_nil_iff, or_false] at hd
  rcases hd with rfl | rfl | rfl
  · exact nd_pl b.pl hp
  · exact nd_int (Nat.lt_of_lt_of_le (by omega : g.thr.natAbs < 1000000000000001) (by decide)) _ _
  · cases e : g.ans with
    | none => exact ⟨rfl, rfl, by decide, by decide⟩
    | some z =>
      have := b.an z e
      exact nd_int (Nat.lt_of_lt_of_le (by omega : z.natAbs < 2000) (by decide)) _ _
theorem dr_ints {K : PySem.W.Frag} {H : Hp} {m : Bool} : ∀ p : List Nat, DrA K H m (ni p) (p.map fun n => .int ((n : Nat) : Int))
  | [] => .nil
  | n :: p => .cons (.int _) (dr_ints p)
theorem dr_ans {K : PySem.W.Frag} {H : Hp} {m : Bool} : ∀ o : Option Int, Dr K H m (ansV o) (dAns o)
  | none => .non
  | some z => .int z
theorem dr_gate {K : PySem.W.Frag} {H : Hp} {m : Bool} {g : M.Gate} {v : V} (h : GAt H g v) : Dr K H m v (dGate g) := by
  obtain ⟨t, q, rfl, h1, h2⟩ := h
  exact .tup (SqT.of h1) (.cons (.tup (SqT.of h2) (dr_ints _)) (.cons (.int _) (.cons (dr_ans _) .nil)))
theorem dr_gates {K : PySem.W.Frag} {H : Hp} {m : Bool} {l : List M.Gate} {xs : List V} (h : GsAt H l xs) : DrA K H m xs (l.map dGate) := by
  induction h with
  | nil => exact .nil
  | cons e _ ih => exact .cons (dr_gate e) ih
def dFate : M.FateA → PyData
  | .silent p => .tuple [.str "silent", dPl p]
  | .told z p => .tuple [.str "told", .int z, dPl p]
  | .comes n l => .tuple [.str "comes", .int ((n : Nat) : Int), .int l]
theorem dr_fate {K : PySem.W.Frag} {H : Hp} {m : Bool} {fa : M.FateA} {v : V} (h : FAt H fa v) : Dr K H m v (dFate fa) := by
  cases fa with
  | silent p =>
    obtain ⟨t, q, rfl, h1, h2⟩ := h
    exact .tup (SqT.of h1) (.cons (.str _) (.cons (.tup (SqT.of h2) (dr_ints _)) .nil))
  | told z p =>
    obtain ⟨t, q, rfl, h1, h2⟩ := h
    exact .tup (SqT.of h1) (.cons (.str _) (.cons (.int _) (.cons (.tup (SqT.of h2) (dr_ints _)) .nil)))
  | comes n l =>
    obtain ⟨t, rfl, h1⟩ := h
    exact .tup (SqT.of h1) (.cons (.str _) (.cons (.int _) (.cons (.int _) .nil)))
def FB : M.FateA → Prop
  | .silent p => (∀ i ∈ p, i < 12) ∧ p.length ≤ 3
  | .told z p => z.natAbs < 2000 ∧ (∀ i ∈ p, i < 12) ∧ p.length ≤ 3
  | .comes n l => n < 1000000 ∧ l.natAbs < 1000000000000
theorem nd_words : Nd (.str "silent") 1 10 ∧ Nd (.str "told") 1 10 ∧ Nd (.str "comes") 1 10 := by
  refine ⟨⟨by decide +kernel, by decide +kernel, by decide +kernel, by decide +kernel⟩, ⟨by decide +kernel, by decide +kernel, by decide +kernel, by decide +kernel⟩, ⟨by decide +kernel, by decide +kernel, by decide +kernel, by decide +kernel⟩⟩
theorem nd_fate {fa : M.FateA} (h : FB fa) : Nd (dFate fa) 2 33 := by
  cases fa with
  | silent p =>
    refine nd_tup (k := 1) (b := 10) (n := 3) (fun d hd => ?_) (by show 2 ≤ 3; decide)
    simp only [List.mem_cons, List.mem_nil_iff, or_false] at hd
    rcases hd with rfl | rfl
    · exact nd_words.1
    · exact (nd_pl h.1 h.2).up (by decide) (by decide)
  | told z p =>
    refine nd_tup (k := 1) (b := 10) (n := 3) (fun d hd => ?_) (Nat.le_refl 3)
    simp only [List.mem_cons, List.mem_nil_iff, or_false] at hd
    rcases hd with rfl | rfl | rfl
    · exact nd_words.2.1
    · exact nd_int (Nat.lt_of_lt_of_le h.1 (by decide)) _ _
    · exact (nd_pl h.2.1 h.2.2).up (by decide) (by decide)
  | comes n l =>
    refine nd_tup (k := 1) (b := 10) (n := 3) (fun d hd => ?_) (Nat.le_refl 3)
    simp only [List.mem_cons, List.mem_nil_iff, or_false] at hd
    obtain ⟨h1, h2⟩ := h
    rcases hd with rfl | rfl | rfl
    · exact nd_words.2.2
    · exact nd_int (Nat.lt_of_lt_of_le (by omega : ((n : Nat) : Int).natAbs < 1000000) (by decide)) _ _
    · exact nd_int (Nat.lt_of_lt_of_le h2 (by decide)) _ _
theorem fine_dep {wy : M.Way} (h : wy.fine) : wy.depth ≤ 3 := by
  obtain ⟨wh, s⟩ := wy
  unfold M.Way.fine at h
  unfold M.Way.depth
  exact h.2.2.2.1
/-- what the law shows: a fate, and gates -/
theorem sh_told {K : PySem.W.Frag} {H : Hp} {fa : M.FateA} {v : V} {se : Bool} {wy : M.Way} {xs : List V} {D G : Addr} (hf : wy.fine) (hb : FB fa) (h1 : FAt H fa v) (h2 : H G = some (.lst xs)) (h3 : GsAt H (M.Way.gates se wy) xs) (hD : H D = some (.lst [v, .ref G])) :
    QR.Sh K H (.ref D) (PyData.list [dFate fa, .list ((M.Way.gates se wy).map dGate)]).shown := by
  have hd := fine_dep hf
  have ll := M.Way.gates_len se wy
  have lz := (fine_all hf).2.2
  have nG : Nd (.list ((M.Way.gates se wy).map dGate)) 3 1040 := nd_lst (k := 2) (b := 12) (n := 80) (fun d hd2 => by
    obtain ⟨g, hg, rfl⟩ := List.mem_map.mp hd2
    exact nd_gate (M.Way.gb se wy hf g hg) hd (Nat.le_trans (M.Way.plen se wy g hg) hd)) (by rw [List.length_map]; omega)
  have nn : Nd (.list [dFate fa, .list ((M.Way.gates se wy).map dGate)]) 4 2082 := nd_lst (k := 3) (b := 1040) (n := 2) (fun d hd2 => by
    simp only [List.mem_cons, List.mem_nil_iff, or_false] at hd2
    rcases hd2 with rfl | rfl
    · exact (nd_fate hb).up (by decide) (by decide)
    · exact nG) (Nat.le_refl 2)
  exact .ref (.lst (SqL.of hD) (.cons (dr_fate h1) (.cons (.lst (SqL.of h2) (dr_gates h3)) .nil))) nn.sh (Nat.le_trans nn.dp (by decide)) nn.ls (Nat.le_trans nn.bk (by decide))
theorem PC_le {cs : List Nat} (f : N.Fall cs) (b : Nat) : N.PC cs b ≤ b + 1 := by
  unfold N.PC
  split
  · omega
  · exact Nat.le_trans (N.L_le f (by omega)) (by omega)
theorem fate_fb {se : Bool} {wy : M.Way} {b : Nat} (hf : wy.fine) (hb : b ≤ 60) : FB (fateOf (M.Way.lows se wy) b (M.chE se wy.head wy.steps [])) := by
  unfold fateOf
  have hd := fine_dep hf
  cases e : (M.Way.lows se wy).find? (fun g => decide (g.thr < (b : Int))) with
  | some g =>
    have hg := M.Way.lows_mem (List.mem_of_find?_eq_some e)
    have gb := M.Way.gb se wy hf g hg
    have gp := Nat.le_trans (M.Way.plen se wy g hg) hd
    show FB (fateG g)
    unfold fateG
    cases ea : g.ans with
    | none => exact ⟨gb.pl, gp⟩
    | some z =>
      have := gb.an z ea
      exact ⟨by omega, gb.pl, gp⟩
  | none =>
    have ckE : M.Ck (M.chE se wy.head wy.steps []) := M.ck_all M.ck_nil (fine_all hf).1
    have h1 := PC_le ckE.fall b
    have h2 := N.B_top ckE.le (N.PC (M.chE se wy.head wy.steps []) b - 1)
    show N.PC (M.chE se wy.head wy.steps []) b < 1000000 ∧ (stretchZ (M.chE se wy.head wy.steps []) b (N.PC (M.chE se wy.head wy.steps []) b)).natAbs < 1000000000000
    refine ⟨by omega, ?_⟩
    unfold stretchZ
    rw [if_pos rfl]
    omega
end CP

end
section
set_option autoImplicit false
set_option Elab.async false
set_option linter.all false
set_option maxRecDepth 100000
set_option maxHeartbeats 4000000
/-! ## the lines of a way: the program's and the law's -/
namespace CP
open PySem L2 G Y
open TL TX
abbrev sTLines : Stmt := S.top 43
abbrev sWText : Stmt := S.top 41
abbrev sLLines : Stmt := S.top 51
/-- texts as values -/
def sv (ls : List (List Nat)) : List V := ls.map fun l => V.str (TX.S l)
theorem sv_app (a b : List (List Nat)) : sv (a ++ b) = sv a ++ sv b := List.map_append
theorem sv_len (a : List (List Nat)) : (sv a).length = a.length := List.length_map ..
theorem sv_strs (a : List (List Nat)) : sv a = (a.map TX.S).map V.str := by
  unfold sv
  rw [List.map_map]
  rfl
theorem sv_get {a : List (List Nat)} {i : Nat} {x : V} (h : (sv a)[i]? = some x) : ∃ l, a[i]? = some l ∧ x = .str (TX.S l) := by
  unfold sv at h
  rw [List.getElem?_map] at h
  cases e : a[i]? with
  | none => rw [e] at h; cases h
  | some l => rw [e] at h; cases h; exact ⟨l, rfl, rfl⟩
def rStr : List V → Hp → VK → Prop := fun xs H Q => (∃ a, xs = [.str a] ∧ Q (.str a) H) ∨ ∃ i : Int, xs = [.int i] ∧ i.natAbs.log2 < 1920 ∧ Q (.str (toString i)) H
theorem cr_str {X : Cx} : CallR X (.type "str") rStr := fun pins s σ H xs us Q I r h => h.elim (SkE.call_str_str pins s σ H xs us Q I r) (call_str_int pins s σ H xs us Q I r)
def rAdS : R2 := fun x y H Q => ∃ i j, x = .str i ∧ y = .str j ∧ i.length + j.length ≤ sizeLine ∧ Q (.str (i ++ j)) H
theorem op_adS {X : Cx} : OpR X (binaryOp .Add) rAdS := op_add_str
theorem lg_nat {n : Nat} (h : n ≤ 1000000000000) : ((n : Nat) : Int).natAbs.log2 < 1920 := PySem.Flt.log2_lt_of (k := 1920) (by decide) (Nat.lt_of_lt_of_le (by omega : _ < 2 ^ 60) (Nat.pow_le_pow_right (by decide) (by decide)))
theorem num_S (n : Nat) : Str.ofString (toString ((n : Nat) : Int)) = TX.S (numL n) := S_of (tl_num n)
/-- a value and its word -/
inductive Wv : V → List Nat → Prop
  | s {x : Str} {l : List Nat} : x = TX.S l → Wv (.str x) l
  | n {n : Nat} : n ≤ 1000000000000 → Wv (.int (n : Int)) (numL n)
inductive WvA : List V → List (List Nat) → Prop
  | nil : WvA [] []
  | cons {x : V} {l : List Nat} {xs : List V} {ls : List (List Nat)} : Wv x l → WvA xs ls → WvA (x :: xs) (l :: ls)
theorem WvA.get {xs : List V} {ls : List (List Nat)} (h : WvA xs ls) : ∀ {i : Nat} {x : V}, xs[i]? = some x → ∃ l, ls[i]? = some l ∧ Wv x l := by
  induction h with
  | nil => intro i x e; cases e
  | cons a _ ih =>
    intro i x e
    cases i with
    | zero => cases e; exact ⟨_, rfl, a⟩
    | succ i => exact ih (i := i) e
theorem WvA.len {xs : List V} {ls : List (List Nat)} (h : WvA xs ls) : xs.length = ls.length := by
  induction h with
  | nil => rfl
  | cons a _ ih => rw [List.length_cons, List.length_cons, ih]
theorem k_road : ("road" : Str) = TX.S cRoad := S_of (by decide +kernel)
theorem k_join : ("join" : Str) = TX.S cJoin := S_of (by decide +kernel)
theorem k_tun : ("tunnel" : Str) = TX.S cTun := S_of (by decide +kernel)
theorem k_head : ("head" : Str) = TX.S cHead := S_of (by decide +kernel)
theorem k_sd (b : Bool) : WP.sdS b = TX.S (sd b) := S_of rfl
theorem k_lw (b : M.LW) : WP.lwS b = TX.S (lw b) := S_of rfl
theorem k_tw (b : M.TW) : WP.twS b = TX.S (tw b) := S_of rfl
theorem k_sp : (" " : Str) = TX.S [32] := S_of (by decide +kernel)
theorem k_nl : ("\n" : Str) = TX.S [10] := S_of (by decide +kernel)
theorem k_ind : ("  " : Str) = TX.S [32, 32] := S_of (by decide +kernel)
theorem t_sp : tl (" " : Str) = [32] := by rw [k_sp, tl_S]
theorem t_head : tl ("head " : Str) = cHead ++ [32] := by decide +kernel
theorem t_road : tl ("road " : Str) = cRoad ++ [32] := by decide +kernel
theorem t_join : tl ("join " : Str) = cJoin ++ [32] := by decide +kernel
theorem t_tun : tl ("tunnel " : Str) = cTun ++ [32] := by decide +kernel
theorem t_emp : tl Str.empty = [] := rfl
theorem t_num (n : Nat) : tl (Str.ofString (toString ((n : Nat) : Int))) = numL n := tl_num n
theorem sum_len {k : Nat} : ∀ {ws : List (List Nat)}, (∀ w ∈ ws, w.length ≤ k) → ((ws.map TX.S).map (·.length)).sum ≤ ws.length * k
  | [], _ => Nat.zero_le _
  | w :: r, h => by
    have a := h w List.mem_cons_self
    have b := sum_len (ws := r) fun x hx => h x (List.mem_cons_of_mem _ hx)
    rw [List.map_cons, List.map_cons, List.sum_cons, List.length_cons, Nat.add_mul, S_len]
    omega
theorem join_wd (ws : List (List Nat)) : Txt.join (" " : Str) (ws.map TX.S) = TX.S (wd ws) := by
  rw [k_sp, join_eq]
  refine ext_tl ?_
  rw [tl_join, tl_S, tl_S, List.map_map]
  have : tl ∘ TX.S = id := funext tl_S
  rw [this, List.map_id]
  rfl
theorem join_nl (ls : List (List Nat)) : Txt.join ("\n" : Str) (ls.map TX.S) = TX.S (joinL [10] ls) := by
  rw [k_nl]
  exact join_lines ls
theorem lines_len {w : M.Way} (h : w.fine) : (∀ l ∈ Way.lines w, l.length ≤ 60) ∧ (Way.lines w).length ≤ 81 := by
  obtain ⟨a, b⟩ := way_lines w 3 h (fine_dep h)
  have := (fine_all h).2.2
  exact ⟨fun l hl => (a l hl).1, by omega⟩
theorem plain_vals {C : Addr} {H : Hp} {s : M.Step} {v : V} {h : Nat} (hs : WP.StepAt C H s v) (hf : s.fine h) (hn : ¬ isTun s) : ∃ t xs, v = .ref t ∧ H t = some (.tup xs) ∧ WvA xs (plainW s) ∧ (∃ k r, xs = .str k :: r ∧ k ≠ "tunnel") ∧ xs.length ≤ 4 := by
  cases s with
  | road size ts l =>
    unfold WP.StepAt at hs
    unfold M.Step.fine at hf
    obtain ⟨t, e, ht⟩ := hs
    exact ⟨t, _, e, ht, .cons (.s k_road) (.cons (.n (by omega)) (.cons (.s (k_sd _)) (.cons (.s (k_lw _)) .nil))), ⟨_, _, rfl, by decide +kernel⟩, by show 4 ≤ 4; decide⟩
  | join most =>
    unfold WP.StepAt at hs
    unfold M.Step.fine at hf
    obtain ⟨t, e, ht⟩ := hs
    exact ⟨t, _, e, ht, .cons (.s k_join) (.cons (.n (by omega)) .nil), ⟨_, _, rfl, by decide +kernel⟩, by show 2 ≤ 4; decide⟩
  | tunnel w m t => exact absurd trivial hn
theorem la_nil : Step.linesAll [] = [] := by unfold Step.linesAll; rfl
theorem la_cons (x : M.Step) (r : List M.Step) : Step.linesAll (x :: r) = Step.lines x ++ Step.linesAll r := by
  conv => lhs; unfold Step.linesAll
theorem la_app : ∀ (a b : List M.Step), Step.linesAll (a ++ b) = Step.linesAll a ++ Step.linesAll b
  | [], b => by rw [la_nil]; rfl
  | x :: r, b => by
    show Step.linesAll (x :: (r ++ b)) = _
    rw [la_cons, la_cons, la_app r b, List.append_assoc]
theorem lines_app (s : List M.Step) (x : M.Step) : Step.linesAll (s ++ [x]) = Step.linesAll s ++ Step.lines x := by
  rw [la_app, la_cons, la_nil, List.append_nil]
theorem take_lines {s : List M.Step} (i : Nat) : ∃ r, Step.linesAll s = Step.linesAll (s.take i) ++ r := ⟨Step.linesAll (s.drop i), by rw [← la_app, List.take_append_drop]⟩
/-- lines that a list holds, while it is filled -/
theorem few_lines {h : Nat} {s : List M.Step} (hf : M.Way.fine (.mk h s)) (i : Nat) : (wd (headW h) :: Step.linesAll (s.take i)).length ≤ 81 := by
  have := (lines_len hf).2
  unfold Way.lines at this
  obtain ⟨r, e⟩ := take_lines (s := s) i
  rw [e] at this
  rw [List.length_cons] at this ⊢
  rw [List.length_append] at this
  omega
section
variable {P : Program} {w : World} {K : PySem.W.Frag} {mg : Str → Option Value} {base : Heap} {C CW : Addr}
def spTLines (CW : Addr) (n : Nat) : Sp := fun vs H Q _ => ∃ (a : Addr) (wy : M.Way), vs = [.ref a] ∧ WP.WayAt CW H wy a ∧ M.Way.fine wy ∧ wy.depth ≤ n ∧ ∀ D H', Same H H' → H D = none → H' D = some (.lst (sv (Way.lines wy))) → Q (.ref D) H'
abbrev NTl : List Str := ["way", "lines", "step", "_", "inner", "most", "tells", "line", "word"]
theorem scTl : FnScope NTl ["way"] (defScope sTLines) := ⟨rfl, rfl, rfl, by decide +kernel, rfl, by decide +kernel, by decide +kernel⟩
theorem ok_tlines {k n : Nat} {f : Addr} {fd : FuncData} (F : Fun K "_lines" "_lines" sTLines f fd) (B : Bn mg) (hstr : mg "str" = none) (gI : ∃ t, mg "INDENTATION" = some (.str "  " t)) (T : WP.Wt K mg CW) (hk : 1 ≤ k) (DL : Df P w K mg base k "_lines" ["way"] (spTLines CW n)) : FnOk P w K mg base CX0 (k + 1) f fd ["way"] (spTLines CW (n + 1)) := by
  obtain ⟨fL, fdL, GL, gL, kL, bL⟩ := DL.ex
  obtain ⟨tI, gI⟩ := gI
  refine F.ok scTl (fun vs H Q E h => ?_) (fun cdv A outer s H vs Q E hr h => ?_)
  · obtain ⟨a, wy, rfl, _⟩ := h
    rfl
  · obtain ⟨a, wy, rfl, hw, hf, hd, kk⟩ := h
    refine ⟨_, pss_cons (ps_set (i := 1) scTl.nd rfl (Or.inl rfl) (pe_lst (pa_cons (pe_joined (.cons (pe_str) (.cons (pe_fmt (pe_fld (pv 0) rfl)) .nil))) pa_nil)))
      (pss_cons (ps_for PassesOwn.never rfl (pi_tup (pe_fld (pv 0) rfl)) (pg_name (i := 2) scTl.nd rfl (Or.inl rfl)) (pss_one (ps_if (pt_cmpR (op_eq) (pe_ix ix_tup (pv 2) (pe_int) (fun _ _ => rfl)) (pe_str) (nomark _)) (pss_cons (ps_asg (pv 2) (pg_tup (by rfl) (pgs_cons (pg_name (i := 3) scTl.nd rfl (Or.inl rfl)) (pgs_cons (pg_name (i := 4) scTl.nd rfl (Or.inl rfl)) (pgs_cons (pg_name (i := 5) scTl.nd rfl (Or.inl rfl)) (pgs_cons (pg_name (i := 6) scTl.nd rfl (Or.inl rfl)) pgs_nil))))))
      (pss_cons (ps_expr (pe_bm PySem.F.plainAttrs_list PySem.F.slot_list_append PySem.F.type_list_append mt_append (pv 1) (pa_cons (pe_joined (.cons (pe_str) (.cons (pe_fmt (pv 5)) (.cons (pe_str) (.cons (pe_fmt (pv 6)) .nil))))) pa_nil)))
      (pss_one (ps_expr (pe_bm PySem.F.plainAttrs_list PySem.F.slot_list_extend PySem.F.type_list_extend mt_extend (pv 1) (pa_cons (pe_lc (own := [("line", 7)]) (g := gName 7) (tt := tYes) (te := tOp rAdS (tC (.str "  ")) (tVar 7)) rfl scTl.nd (pi_list (pe_call GL (hr.mono (by omega)) rfl gL kL bL .nil pass0 (pa_cons (pv 4) pa_nil))) (blkOk_by (N := NTl) (sc := defScope sTLines) (by decide +kernel))
          (fun _ _ _ _ _ => by exact pg_name (i := 7) scTl.nd rfl (Or.inl rfl)) (fun _ _ _ _ _ => pts_nil) (fun _ _ _ _ _ => by exact pe_op (op_adS) (pe_glob (v := .str "  ") rfl gI ⟨_, rfl⟩) (pv 7))) pa_nil)))))) (pss_one (ps_expr (pe_bm PySem.F.plainAttrs_list PySem.F.slot_list_append PySem.F.type_list_append mt_append (pv 1) (pa_cons (pe_join (pe_str) (pe_lc (own := [("word", 8)]) (g := gName 8) (tt := tYes) (te := tCB rStr (tCons (tVar 8) tNil)) rfl scTl.nd (pi_tup (pv 2)) (blkOk_by (N := NTl) (sc := defScope sTLines) (by decide +kernel))
          (fun _ _ _ _ _ => by exact pg_name (i := 8) scTl.nd rfl (Or.inl rfl)) (fun _ _ _ _ _ => pts_nil) (fun _ _ _ _ _ => by exact pe_callTy cr_str (by rfl) hstr (by decide +kernel) (pa_cons (pv 8) pa_nil)))) pa_nil)))))))
      (pss_one (ps_ret (pv 1)))), ?_⟩
    obtain ⟨h, st⟩ := wy
    have hf0 := hf
    unfold M.Way.fine at hf
    unfold M.Way.depth at hd
    obtain ⟨dxh, fh, a1, a2⟩ := WP.head_fld hw
    obtain ⟨dxs, fs, t, xs, b1, b2, b3, b4⟩ := WP.steps_fld hw
    have hst : WP.StepsAt CW H st xs := b4
    have a2 : fh.lookup ("head" : Str) = some (.int (h : Int)) := a2
    have z0 : ∀ {y0 : V} {ys : List V}, atI (y0 :: ys) (0 : Int) = some y0 := fun {y0 ys} => by exact atI_nat (xs := y0 :: ys) (j := 0) rfl
    refine set_then (i := 1) ⟨_, rfl, by decide +kernel, ?_⟩
    refine ⟨_, rfl, a, CW, dxh, fh, _, rfl, a1, T.cl, T.nH, a2, .inr ⟨_, rfl, lg_nat (show h ≤ 1000000000000 by omega), _, rfl, ?_, ?_⟩⟩
    · rw [len_tl, tl_append, tl_append, t_head, t_emp]
      show _ ≤ sizeLine
      have e5 : (TX.cHead ++ [32] : List Nat).length = 5 := rfl
      rw [t_num, List.length_append, List.nil_append, e5]
      have := (wd_num (show h ≤ 1000000000000 by omega)).len
      exact Nat.le_trans (show _ ≤ 18 by omega) (by decide)
    have e0 : ((Str.empty ++ ("head " : Str)) ++ Str.ofString (toString ((h : Nat) : Int))) = TX.S (wd (headW h)) := S_of (by
      rw [tl_append, tl_append, t_head, t_emp, t_num]
      unfold wd headW joinL joinL
      simp)
    refine ⟨line2.2.2.1, fun D hD => ?_⟩
    have s0 := of_upd (o := .lst [V.str ((Str.empty ++ ("head " : Str)) ++ Str.ofString (toString ((h : Nat) : Int)))]) hD
    have eD : upd H D (.lst [V.str ((Str.empty ++ ("head " : Str)) ++ Str.ofString (toString ((h : Nat) : Int)))]) D = some (.lst (sv [wd (headW h)])) := by
      rw [upd_same, e0]
      rfl
    generalize upd H D (.lst [V.str ((Str.empty ++ ("head " : Str)) ++ Str.ofString (toString ((h : Nat) : Int)))]) = G0 at s0 eD ⊢
    refine ⟨_, rfl, a, CW, dxs, fs, _, rfl, s0 _ _ b1, T.cl, T.nS, b2, t, rfl, ⟨_, SqT.of (s0 _ _ b3)⟩, ?_⟩
    have hst0 := hst.mono s0
    have b30 := s0 _ _ b3
    have lx : xs.length = st.length := hst.len
    refine for_it walk_tup (fun i σ G => Same G0 G ∨ True → Same H G ∧ G D = some (.lst (sv (wd (headW h) :: Step.linesAll (st.take i)))) ∧ G t = some (.tup xs) ∧ ∃ q2 q3 q4 q5 q6, σ = [some (.ref a), some (.ref D), q2, q3, q4, q5, q6, none, none])
      (fun _ => ⟨s0, by rw [List.take_zero]; unfold Step.linesAll; exact eD, b30, _, _, _, _, _, rfl⟩) (fun i σ G _ z => SqT.of (z (.inr trivial)).2.2.1) ?_ ?_
    · rintro i x σ G G' hi z ⟨rfl, hx⟩
      obtain ⟨s1, hA, hT, q2, q3, q4, q5, q6, rfl⟩ := z (.inr trivial)
      obtain ⟨y, hy, hat⟩ := hst.get hx
      have hat := hat.mono s1
      have fy := WP.fine_get hf.2.2.1 hy
      have et := take_snoc hy
      have fin : ∀ (G2 : Hp) (l : List V) (q2 q3 q4 q5 q6 : Option V), Same H G2 → G2 t = some (.tup xs) → G2 D = some (.lst (sv (wd (headW h) :: Step.linesAll (st.take i)) ++ l)) → l = sv (Step.lines y) →
          (Same G0 G2 ∨ True → Same H G2 ∧ G2 D = some (.lst (sv (wd (headW h) :: Step.linesAll (st.take (i + 1))))) ∧ G2 t = some (.tup xs) ∧ ∃ r2 r3 r4 r5 r6, [some (V.ref a), some (.ref D), q2, q3, q4, q5, q6, none, none] = [some (.ref a), some (.ref D), r2, r3, r4, r5, r6, none, none]) := fun G2 l q2 q3 q4 q5 q6 s2 h2 h3 el _ => by
        refine ⟨s2, ?_, h2, _, _, _, _, _, rfl⟩
        rw [h3, et, lines_app, el, ← sv_app]
        rfl
      have lA := few_lines hf0 i
      dsimp only
      by_cases ht : isTun y
      · cases y with
        | road _ _ _ => exact ht.elim
        | join _ => exact ht.elim
        | tunnel wi most tw =>
          unfold WP.StepAt at hat
          obtain ⟨t2, ai, rfl, h2, hwi⟩ := hat
          have fi := fy
          unfold M.Step.fine at fi
          have di := M.dep_le hy
          have di2 : wi.depth ≤ n := by
            have e : M.Step.dep (.tunnel wi most tw) = wi.depth := rfl
            omega
          refine ⟨_, rfl, t2, _, _, _, rfl, rfl, SqT.of h2, z0, rfl, _, rfl, ?_⟩
          refine iteP rfl ?_
          refine ⟨_, rfl, t2, _, rfl, SqT.of h2, rfl, _, _, rfl, _, _, rfl, _, _, rfl, _, _, rfl, rfl, ?_⟩
          dsimp only
          have lm := (wd_num (show most ≤ 1000000000000 by omega)).len
          have lt2 := (wd_tw tw).len
          have t1 : tl (("tunnel " : Str)) = cTun ++ [32] := t_tun
          have t2e : tl ((Str.empty ++ ("tunnel " : Str)) ++ Str.ofString (toString ((most : Nat) : Int))) = cTun ++ [32] ++ numL most := by rw [tl_append, tl_append, t_tun, t_emp, t_num]; rfl
          have t3e : tl (((Str.empty ++ ("tunnel " : Str)) ++ Str.ofString (toString ((most : Nat) : Int))) ++ (" " : Str)) = cTun ++ [32] ++ numL most ++ [32] := by rw [tl_append, t2e, t_sp]
          have t4e : tl ((((Str.empty ++ ("tunnel " : Str)) ++ Str.ofString (toString ((most : Nat) : Int))) ++ (" " : Str)) ++ WP.twS tw) = cTun ++ [32] ++ numL most ++ [32] ++ TX.tw tw := by rw [tl_append, t3e]; rfl
          have lc : (cTun ++ [32]).length = 7 := rfl
          refine ⟨_, rfl, .inl ⟨rfl, _, SqL.of hA⟩, ?_⟩
          refine ⟨_, rfl, by decide +kernel, _, rfl, .inr ⟨_, rfl, lg_nat (show most ≤ 1000000000000 by omega), _, rfl, ?_, _, rfl, ?_, _, rfl, .inl ⟨_, rfl, ?_, _, rfl, ?_, ?_⟩⟩⟩
          · rw [len_tl, t2e, List.length_append, lc]
            exact Nat.le_trans (show _ ≤ 20 by omega) (by decide)
          · rw [len_tl, t3e, List.length_append, List.length_append, lc]
            exact Nat.le_trans (show _ ≤ 21 by show 7 + _ + 1 ≤ 21; omega) (by decide)
          · rw [len_tl]
            exact Nat.le_trans lt2 (by decide)
          · rw [len_tl, t4e, List.length_append, List.length_append, List.length_append, lc]
            exact Nat.le_trans (show _ ≤ 34 by show 7 + _ + 1 + _ ≤ 34; omega) (by decide)
          have e4 : ((((Str.empty ++ ("tunnel " : Str)) ++ Str.ofString (toString ((most : Nat) : Int))) ++ (" " : Str)) ++ WP.twS tw) = TX.S (wd (plainW (.tunnel wi most tw))) := S_of (by
            rw [t4e]
            unfold wd plainW joinL joinL joinL
            simp)
          rw [e4]
          refine ⟨D, _, _, rfl, rfl, hA, small1000 (by rw [sv_len]; omega), ?_⟩
          have nD2 : ∀ o, H D = some o → False := fun o z => by rw [hD] at z; cases z
          have s2 := add_upd (o := .lst (sv (wd (headW h) :: Step.linesAll (st.take i)) ++ [V.str (TX.S (wd (plainW (.tunnel wi most tw))))])) hD s1
          have kp := put_keepT (o := .lst (sv (wd (headW h) :: Step.linesAll (st.take i)) ++ [V.str (TX.S (wd (plainW (.tunnel wi most tw))))])) hA
          have hT2 := kp.tup hT
          have hwi2 := hwi.keep kp
          have hA2 : upd G' D (.lst (sv (wd (headW h) :: Step.linesAll (st.take i)) ++ [V.str (TX.S (wd (plainW (.tunnel wi most tw))))])) D = some (.lst (sv (wd (headW h) :: Step.linesAll (st.take i)) ++ [V.str (TX.S (wd (plainW (.tunnel wi most tw))))])) := upd_same
          generalize upd G' D (.lst (sv (wd (headW h) :: Step.linesAll (st.take i)) ++ [V.str (TX.S (wd (plainW (.tunnel wi most tw))))])) = G2 at s2 hT2 hwi2 hA2 ⊢
          refine ⟨_, rfl, .inl ⟨rfl, _, SqL.of hA2⟩, ?_⟩
          refine ⟨_, rfl, ai, wi, rfl, hwi2, fi.1, di2, fun D2 G3 s3 n2 e2 => ?_⟩
          refine ⟨D2, rfl, ⟨_, SqL.of e2⟩, fun D3 n3 => ?_⟩
          obtain ⟨len1, len2⟩ := lines_len fi.1
          refine lc_list (K := K) (a := D2) (xs := sv (Way.lines wi)) (fun i G => Same G3 G ∧ G D3 = some (.lst (sv (((Way.lines wi).take i).map ([32, 32] ++ ·))))) ⟨of_upd n3, by rw [upd_same, List.take_zero]; rfl⟩ (fun i G _ z => SqL.of (z.1 _ _ e2)) ?_ ?_
          · rintro i2 x2 G4 hx2 ⟨s4, e5⟩
            obtain ⟨l, hl, rfl⟩ := sv_get hx2
            have ll := len1 l (List.mem_of_getElem? hl)
            refine ⟨rfl, _, rfl, _, _, rfl, rfl, ?_, _, e5, small1000 (by rw [sv_len, List.length_map, List.length_take]; omega), add_upd n3 s4, ?_⟩
            · rw [S_len, len_tl, k_ind, tl_S]
              exact Nat.le_trans (show _ ≤ 62 by show 2 + _ ≤ 62; omega) (by decide)
            · rw [upd_same, take_snoc hl, List.map_append, sv_app, k_ind, S_app]
              rfl
          · rintro G4 ⟨s4, e5⟩
            rw [sv_len, List.take_length] at e5
            refine ⟨D, D3, _, _, rfl, rfl, s4 _ _ (s3 _ _ hA2), e5, ?_, ?_⟩
            · have l5 := (way_lines (.mk h st) 3 hf0 (fine_dep hf0)).2
              refine Nat.le_trans (show _ ≤ 1000 from ?_) (by decide)
              rw [List.length_append, sv_len, sv_len, List.length_map, List.length_singleton]
              omega
            · exact fin _ _ _ _ _ _ _ (add_upd hD ((s2.trans s3).trans s4)) ((put_keepT (s4 _ _ (s3 _ _ hA2))).tup (s4 _ _ (s3 _ _ hT2))) (by rw [upd_same, List.append_assoc]) (by
                unfold Step.lines
                rfl)
      · obtain ⟨t2, ys, rfl, h2, hW, ⟨k0, r0, rfl, nk⟩, l4⟩ := plain_vals hat fy ht
        refine ⟨_, rfl, t2, _, _, _, rfl, rfl, SqT.of h2, z0, rfl, _, rfl, ?_⟩
        refine iteN (fun z => nk (V.str.inj z)) ?_
        have ww := plainW_wd fy
        have lw := hW.len
        refine ⟨_, rfl, .inl ⟨rfl, _, SqL.of hA⟩, ⟨_, rfl⟩, _, rfl, t2, rfl, ⟨_, SqT.of h2⟩, fun D3 n3 => ?_⟩
        refine lc_tup (K := K) (a := t2) (xs := .str k0 :: r0) (fun i G => Same G' G ∧ G D3 = some (.lst (sv ((plainW y).take i)))) ⟨of_upd n3, by rw [upd_same, List.take_zero]; rfl⟩ (fun i G _ z => SqT.of (z.1 _ _ h2)) ?_ ?_
        · rintro i2 x2 G4 hx2 ⟨s4, e5⟩
          obtain ⟨l, hl, hv⟩ := hW.get hx2
          have la : (sv ((plainW y).take i2)).length < sizeLine := small1000 (by rw [sv_len, List.length_take, ← lw]; omega)
          have nx : ∀ u, u = TX.S l → Same G' (upd G4 D3 (.lst (sv ((plainW y).take i2) ++ [V.str u]))) ∧ upd G4 D3 (.lst (sv ((plainW y).take i2) ++ [V.str u])) D3 = some (.lst (sv ((plainW y).take (i2 + 1)))) := fun u e => by
            refine ⟨add_upd n3 s4, ?_⟩
            rw [upd_same, take_snoc hl, sv_app, e]
            rfl
          cases hv with
          | s e => exact ⟨rfl, _, rfl, .inl ⟨_, rfl, _, e5, la, nx _ e⟩⟩
          | n hn => exact ⟨rfl, _, rfl, .inr ⟨_, rfl, lg_nat hn, _, e5, la, nx _ (num_S _)⟩⟩
        · rintro G4 ⟨s4, e5⟩
          rw [lw, List.take_length] at e5
          refine ⟨_, D3, (plainW y).map TX.S, rfl, rfl, .inl (SqL.of (by rw [e5, sv_strs])), ?_, D, _, _, rfl, rfl, s4 _ _ hA, small1000 (by rw [sv_len]; omega), ?_⟩
          · have := sum_len (k := 13) (fun w hw => (ww w hw).len)
            rw [List.length_map, show (" " : Str).length = 1 from by rw [len_tl, t_sp]; rfl]
            have l5 : (plainW y).length ≤ 4 := by rw [← lw]; exact l4
            omega
          · refine fin _ _ _ _ _ _ _ (add_upd hD (s1.trans s4)) ((put_keepT (s4 _ _ hA)).tup (s4 _ _ hT)) upd_same ?_
            rw [join_wd]
            cases y with
            | road _ _ _ => unfold Step.lines; rfl
            | join _ => unfold Step.lines; rfl
            | tunnel _ _ _ => exact absurd trivial ht
    · rintro σ G z
      obtain ⟨s1, hA, hT, q2, q3, q4, q5, q6, rfl⟩ := z (.inr trivial)
      rw [lx, List.take_length] at hA
      refine ⟨_, rfl, kk D G s1 hD ?_⟩
      unfold Way.lines
      exact hA
end
end CP

end
section
set_option autoImplicit false
set_option Elab.async false
set_option linter.all false
set_option maxRecDepth 100000
set_option maxHeartbeats 4000000
/-! ## way_text; the law's lines -/
namespace CP
open PySem L2 G Y
open TL TX
section
variable {P : Program} {w : World} {K : PySem.W.Frag} {mg : Str → Option Value} {base : Heap} {C CW : Addr}
def spWText (CW : Addr) : Sp := fun vs H Q _ => ∃ (a : Addr) (wy : M.Way), vs = [.ref a] ∧ WP.WayAt CW H wy a ∧ M.Way.fine wy ∧ ∀ H', Same H H' → Q (.str (TX.S (text wy))) H'
theorem scWt : FnScope ["way"] ["way"] (defScope sWText) := ⟨rfl, rfl, rfl, by decide +kernel, rfl, by decide +kernel, by decide +kernel⟩
theorem ok_wtext {k : Nat} {f : Addr} {fd : FuncData} (F : Fun K "way_text" "way_text" sWText f fd) (DL : Df P w K mg base k "_lines" ["way"] (spTLines CW 3)) : FnOk P w K mg base CX0 (k + 1) f fd ["way"] (spWText CW) := by
  obtain ⟨fL, fdL, GL, gL, kL, bL⟩ := DL.ex
  refine F.ok scWt (fun vs H Q E h => ?_) (fun cdv A outer s H vs Q E hr h => ?_)
  · obtain ⟨a, wy, rfl, _⟩ := h
    rfl
  · obtain ⟨a, wy, rfl, hw, hf, kk⟩ := h
    refine ⟨_, pss_one (ps_ret (pe_join (pe_str) (pe_call GL (hr.mono (by omega)) rfl gL kL bL .nil pass0 (pa_cons (pv 0) pa_nil)))), ?_⟩
    obtain ⟨l1, l2⟩ := lines_len hf
    refine ⟨⟨_, rfl⟩, _, rfl, a, wy, rfl, hw, hf, fine_dep hf, fun D G s1 n1 e1 => ?_⟩
    refine ⟨_, D, (Way.lines wy).map TX.S, rfl, rfl, .inl (SqL.of (by rw [e1, sv_strs])), ?_, ?_⟩
    · have := sum_len (k := 60) l1
      rw [List.length_map, show ("\n" : Str).length = 1 from by rw [len_tl, k_nl, tl_S]; rfl]
      omega
    · rw [join_nl]
      exact kk G s1
end
end CP

end
section
set_option autoImplicit false
set_option Elab.async false
set_option linter.all false
set_option maxRecDepth 100000
set_option maxHeartbeats 4000000
/-! ## a reader on the heap -/
namespace CP
open PySem L2 G Y
open TL TX
def outM : Option (Nat × M.TW) → V
  | none => .non
  | some (m, _) => .int (m : Int)
def outT : Option (Nat × M.TW) → V
  | none => .non
  | some (_, t) => .str (WP.twS t)
def hdV : Option Nat → V
  | none => .non
  | some h => .int (h : Int)
theorem nkb : ¬ (("most" : Str) = "tells") ∧ ¬ (("most" : Str) = "head") ∧ ¬ (("most" : Str) = "steps") ∧ ¬ (("tells" : Str) = "head") ∧ ¬ (("tells" : Str) = "steps") ∧ ¬ (("head" : Str) = "steps") ∧ ¬ (("_begun" : Str) = "_size") := by decide +kernel
def bf (o : Option (Nat × M.TW)) (h : V) (s : Addr) : List (Str × V) := putF "steps" (.ref s) (putF "head" h (putF "tells" (outT o) (putF "most" (outM o) [])))
def rf (b : Addr) (n : Int) : List (Str × V) := putF "_size" (.int n) (putF "_begun" (.ref b) [])
theorem bf_eq (o : Option (Nat × M.TW)) (h : V) (s : Addr) : bf o h s = ([(("most" : Str), outM o), (("tells" : Str), outT o), (("head" : Str), h), (("steps" : Str), V.ref s)] : List (Str × V)) := by
  unfold bf
  simp [putF, nkb.1, nkb.2.1, nkb.2.2.1, nkb.2.2.2.1, nkb.2.2.2.2.1, nkb.2.2.2.2.2.1]
theorem rf_eq (b : Addr) (n : Int) : rf b n = ([(("_begun" : Str), V.ref b), (("_size" : Str), V.int n)] : List (Str × V)) := by
  unfold rf
  simp [putF, nkb.2.2.2.2.2.2]
theorem bf_head (o : Option (Nat × M.TW)) (h g : V) (s : Addr) : putF "head" g (bf o h s) = bf o g s := by
  rw [bf_eq, bf_eq]
  simp [putF, nkb.2.1, nkb.2.2.2.1]
theorem rf_size (b : Addr) (n m : Int) : putF "_size" (.int m) (rf b n) = rf b m := by
  rw [rf_eq, rf_eq]
  simp [putF, nkb.2.2.2.2.2.2]
theorem bf_look {o : Option (Nat × M.TW)} {h : V} {s : Addr} : (bf o h s).lookup ("most" : Str) = some (outM o) ∧ (bf o h s).lookup ("tells" : Str) = some (outT o) ∧ (bf o h s).lookup ("head" : Str) = some h ∧ (bf o h s).lookup ("steps" : Str) = some (.ref s) := by
  unfold bf
  refine ⟨?_, ?_, ?_, ?_⟩
  · rw [lookup_putF, if_neg nkb.2.2.1, lookup_putF, if_neg nkb.2.1, lookup_putF, if_neg nkb.1, lookup_putF, if_pos rfl]
  · rw [lookup_putF, if_neg nkb.2.2.2.2.1, lookup_putF, if_neg nkb.2.2.2.1, lookup_putF, if_pos rfl]
  · rw [lookup_putF, if_neg nkb.2.2.2.2.2.1, lookup_putF, if_pos rfl]
  · rw [lookup_putF, if_pos rfl]
theorem rf_look {b : Addr} {n : Int} : (rf b n).lookup ("_begun" : Str) = some (.ref b) ∧ (rf b n).lookup ("_size" : Str) = some (.int n) := by
  unfold rf
  refine ⟨?_, ?_⟩
  · rw [lookup_putF, if_neg nkb.2.2.2.2.2.2, lookup_putF, if_pos rfl]
  · rw [lookup_putF, if_pos rfl]
theorem rf_no {b : Addr} {n : Int} {m : Str} (h1 : ¬ m = "_begun") (h2 : ¬ m = "_size") : (rf b n).lookup m = none := by
  unfold rf
  rw [lookup_putF, if_neg h2, lookup_putF, if_neg h1]
  rfl
theorem bf_len (o : Option (Nat × M.TW)) (h : V) (s : Addr) : (bf o h s).length < 1000 := by
  rw [bf_eq]
  show 4 < 1000
  decide
theorem rf_len (b : Addr) (n : Int) : (rf b n).length < 1000 := by
  rw [rf_eq]
  show 2 < 1000
  decide
/-- all but lists and readers' objects stays -/
def KeepW (CB CR : Addr) (H H' : Hp) : Prop := ∀ a o, (∀ xs, o ≠ .lst xs) → (∀ dx fs, o ≠ .ins CB dx fs) → (∀ dx fs, o ≠ .ins CR dx fs) → H a = some o → H' a = some o
section
variable {CW CB CR : Addr}
theorem KeepW.tup {H H' : Hp} {t : Addr} {xs : List V} (k : KeepW CB CR H H') (h : H t = some (.tup xs)) : H' t = some (.tup xs) := k _ _ (fun _ z => by cases z) (fun _ _ z => by cases z) (fun _ _ z => by cases z) h
theorem KeepW.trans {H H1 H2 : Hp} (a : KeepW CB CR H H1) (b : KeepW CB CR H1 H2) : KeepW CB CR H H2 := fun x o n1 n2 n3 e => b x o n1 n2 n3 (a x o n1 n2 n3 e)
theorem keepW_same {H H' : Hp} (s : Same H H') : KeepW CB CR H H' := fun a o _ _ _ e => s a o e
theorem keepW_lst {H : Hp} {l : Addr} {xs : List V} {o : HO} (h : H l = some (.lst xs)) : KeepW CB CR H (upd H l o) := fun a u n _ _ e => by
  rw [upd_ne]
  · exact e
  · intro z
    rw [z, h] at e
    cases e
    exact n _ rfl
theorem keepW_b {H : Hp} {a dx : Addr} {fs : List (Str × V)} {o : HO} (h : H a = some (.ins CB dx fs)) : KeepW CB CR H (upd H a o) := fun b u _ n _ e => by
  rw [upd_ne]
  · exact e
  · intro z
    rw [z, h] at e
    cases e
    exact n _ _ rfl
theorem keepW_r {H : Hp} {a dx : Addr} {fs : List (Str × V)} {o : HO} (h : H a = some (.ins CR dx fs)) : KeepW CB CR H (upd H a o) := fun b u _ _ n e => by
  rw [upd_ne]
  · exact e
  · intro z
    rw [z, h] at e
    cases e
    exact n _ _ rfl
mutual
theorem way_keepW (n1 : CW ≠ CB) (n2 : CW ≠ CR) {H H' : Hp} (s : KeepW CB CR H H') : ∀ {w : M.Way} {a : Addr}, WP.WayAt CW H w a → WP.WayAt CW H' w a
  | .mk h st, a, x => by
    unfold WP.WayAt at x ⊢
    obtain ⟨dx, t, xs, h1, h2, h3⟩ := x
    exact ⟨dx, t, xs, s _ _ (fun _ z => by cases z) (fun _ _ z => by cases z; exact n1 rfl) (fun _ _ z => by cases z; exact n2 rfl) h1, s.tup h2, steps_keepW n1 n2 s h3⟩
theorem steps_keepW (n1 : CW ≠ CB) (n2 : CW ≠ CR) {H H' : Hp} (s : KeepW CB CR H H') : ∀ {st : List M.Step} {xs : List V}, WP.StepsAt CW H st xs → WP.StepsAt CW H' st xs
  | [], xs, x => by
    unfold WP.StepsAt at x ⊢
    exact x
  | y :: r, xs, x => by
    unfold WP.StepsAt at x ⊢
    obtain ⟨u, ys, e, h1, h2⟩ := x
    exact ⟨u, ys, e, step_keepW n1 n2 s h1, steps_keepW n1 n2 s h2⟩
theorem step_keepW (n1 : CW ≠ CB) (n2 : CW ≠ CR) {H H' : Hp} (s : KeepW CB CR H H') : ∀ {st : M.Step} {x : V}, WP.StepAt CW H st x → WP.StepAt CW H' st x
  | .road size ts lw, v, x => by
    unfold WP.StepAt at x ⊢
    obtain ⟨t, e, h⟩ := x
    exact ⟨t, e, s.tup h⟩
  | .join most, v, x => by
    unfold WP.StepAt at x ⊢
    obtain ⟨t, e, h⟩ := x
    exact ⟨t, e, s.tup h⟩
  | .tunnel w most tw, v, x => by
    unfold WP.StepAt at x ⊢
    obtain ⟨t, a, e, h, h2⟩ := x
    exact ⟨t, a, e, s.tup h, way_keepW n1 n2 s h2⟩
end
/-- a way that is begun, at a; its steps' list at s -/
structure FrAt (CB CW : Addr) (H : Hp) (f : Fr) (a s : Addr) : Prop where
  ex : ∃ dx xs, H a = some (.ins CB dx (bf f.out (hdV f.head) s)) ∧ H s = some (.lst xs) ∧ WP.StepsAt CW H f.steps xs
/-- the stack, its top first -/
def StkAt (CB CW : Addr) (H : Hp) : List Fr → List (Addr × Addr) → Prop
  | [], ps => ps = []
  | f :: r, ps => ∃ p qs, ps = p :: qs ∧ FrAt CB CW H f p.1 p.2 ∧ StkAt CB CW H r qs
theorem FrAt.move (n1 : CW ≠ CB) (n2 : CW ≠ CR) {H H' : Hp} {f : Fr} {a s : Addr} (k : KeepW CB CR H H') (e1 : H' a = H a) (e2 : H' s = H s) (h : FrAt CB CW H f a s) : FrAt CB CW H' f a s := by
  obtain ⟨dx, xs, h1, h2, h3⟩ := h.ex
  exact ⟨dx, xs, e1.trans h1, e2.trans h2, steps_keepW n1 n2 k h3⟩
theorem StkAt.move (n1 : CW ≠ CB) (n2 : CW ≠ CR) {H H' : Hp} (k : KeepW CB CR H H') : ∀ {st : List Fr} {ps : List (Addr × Addr)}, (∀ p ∈ ps, H' p.1 = H p.1 ∧ H' p.2 = H p.2) → StkAt CB CW H st ps → StkAt CB CW H' st ps
  | [], ps, _, h => h
  | f :: r, ps, e, h => by
    obtain ⟨p, qs, rfl, h1, h2⟩ := h
    have a := e p List.mem_cons_self
    exact ⟨p, qs, rfl, h1.move n1 n2 k a.1 a.2, StkAt.move n1 n2 k (fun q hq => e q (List.mem_cons_of_mem _ hq)) h2⟩
theorem FrAt.same {H H' : Hp} {f : Fr} {a s : Addr} (k : Same H H') (h : FrAt CB CW H f a s) : FrAt CB CW H' f a s := by
  obtain ⟨dx, xs, h1, h2, h3⟩ := h.ex
  exact ⟨dx, xs, k _ _ h1, k _ _ h2, h3.mono k⟩
theorem StkAt.same {H H' : Hp} (k : Same H H') : ∀ {st : List Fr} {ps : List (Addr × Addr)}, StkAt CB CW H st ps → StkAt CB CW H' st ps
  | [], ps, h => h
  | f :: r, ps, h => by
    obtain ⟨p, qs, rfl, h1, h2⟩ := h
    exact ⟨p, qs, rfl, h1.same k, h2.same k⟩
theorem StkAt.len {H : Hp} : ∀ {st : List Fr} {ps : List (Addr × Addr)}, StkAt CB CW H st ps → ps.length = st.length
  | [], ps, h => by
    have e : ps = [] := h
    rw [e]
    rfl
  | f :: r, ps, h => by
    obtain ⟨p, qs, rfl, h1, h2⟩ := h
    rw [List.length_cons, List.length_cons, h2.len]
/-- what the reader's list holds: the stack from the bottom -/
def bgV (ps : List (Addr × Addr)) : List V := (ps.map fun p => V.ref p.1).reverse
/-- a reader at x with its parts -/
structure RdP (CR CB CW : Addr) (H0 H : Hp) (st : List Fr) (n : Nat) (x dx b : Addr) (ps : List (Addr × Addr)) : Prop where
  hx : H x = some (.ins CR dx (rf b (n : Int)))
  hb : H b = some (.lst (bgV ps))
  stk : StkAt CB CW H st ps
  nd : (b :: ps.map Prod.snd).Nodup
  nf : (x :: ps.map Prod.fst).Nodup
  fx : H0 x = none
  fb : H0 b = none
  fp : ∀ p ∈ ps, H0 p.1 = none ∧ H0 p.2 = none
  sm : Same H0 H
def RdAt (CR CB CW : Addr) (H0 H : Hp) (st : List Fr) (n : Nat) (x : Addr) : Prop := ∃ dx b ps, RdP CR CB CW H0 H st n x dx b ps
theorem RdP.same {H0 H H' : Hp} {st : List Fr} {n : Nat} {x dx b : Addr} {ps : List (Addr × Addr)} (k : Same H H') (h : RdP CR CB CW H0 H st n x dx b ps) : RdP CR CB CW H0 H' st n x dx b ps :=
  ⟨k _ _ h.hx, k _ _ h.hb, h.stk.same k, h.nd, h.nf, h.fx, h.fb, h.fp, h.sm.trans k⟩
theorem RdAt.same {H0 H H' : Hp} {st : List Fr} {n : Nat} {x : Addr} (k : Same H H') (h : RdAt CR CB CW H0 H st n x) : RdAt CR CB CW H0 H' st n x := by
  obtain ⟨dx, b, ps, h⟩ := h
  exact ⟨dx, b, ps, h.same k⟩
theorem bg_len (ps : List (Addr × Addr)) : (bgV ps).length = ps.length := by
  unfold bgV
  rw [List.length_reverse, List.length_map]
theorem bg_cons (p : Addr × Addr) (ps : List (Addr × Addr)) : bgV (p :: ps) = bgV ps ++ [.ref p.1] := by
  unfold bgV
  rw [List.map_cons, List.reverse_cons]
/-- the stack's top, read at [-1] -/
theorem bg_top (p : Addr × Addr) (ps : List (Addr × Addr)) : atI (bgV (p :: ps)) (-1) = some (.ref p.1) := by
  rw [bg_cons]
  exact atI_last _ _
/-- the addresses of a reader's parts are told apart by their kinds -/
theorem RdP.apart {H0 H : Hp} {st : List Fr} {n : Nat} {x dx b : Addr} {ps : List (Addr × Addr)} (h : RdP CR CB CW H0 H st n x dx b ps) : b ≠ x ∧ ∀ p ∈ ps, p.1 ≠ b ∧ p.2 ≠ x ∧ p.2 ≠ b ∧ p.1 ≠ x ∧ ∀ q ∈ ps, p.1 ≠ q.2 := by
  have kd : ∀ {st : List Fr} {ps : List (Addr × Addr)}, StkAt CB CW H st ps → ∀ p ∈ ps, (∃ dx fs, H p.1 = some (.ins CB dx fs)) ∧ ∃ xs, H p.2 = some (.lst xs) := fun {st} => by
    induction st with
    | nil =>
      intro ps h p hp
      have e : ps = [] := h
      rw [e] at hp
      cases hp
    | cons f r ih =>
      intro ps h p hp
      obtain ⟨q, qs, rfl, h1, h2⟩ := h
      rcases List.mem_cons.mp hp with e | e
      · rw [e]
        obtain ⟨dx, xs, a1, a2, _⟩ := h1.ex
        exact ⟨⟨_, _, a1⟩, _, a2⟩
      · exact ih h2 p e
  refine ⟨fun z => ?_, fun p hp => ?_⟩
  · have := h.hb
    rw [z, h.hx] at this
    cases this
  · obtain ⟨⟨d1, f1, e1⟩, xs, e2⟩ := kd h.stk p hp
    refine ⟨fun z => ?_, fun z => ?_, fun z => ?_, fun z => ?_, fun q hq z => ?_⟩
    · rw [z, h.hb] at e1
      cases e1
    · rw [z, h.hx] at e2
      cases e2
    · exact (List.nodup_cons.mp h.nd).1 (z ▸ List.mem_map.mpr ⟨p, hp, rfl⟩)
    · exact (List.nodup_cons.mp h.nf).1 (z ▸ List.mem_map.mpr ⟨p, hp, rfl⟩)
    · obtain ⟨_, ys, e3⟩ := kd h.stk q hq
      rw [z, e3] at e1
      cases e1
end
end CP

end
section
set_option autoImplicit false
set_option Elab.async false
set_option linter.all false
set_option maxRecDepth 100000
set_option maxHeartbeats 4000000
/-! ## written_integer, _step; a reader's parts -/
namespace TX
open PySem hiding Step
open TL M
theorem num_first (n : Nat) : 1 ≤ n → ∃ c r, numL n = c :: r ∧ c ≠ 48 := by
  induction n using Nat.strongRecOn with
  | _ n ih =>
    intro h
    by_cases h2 : n < 10
    · rw [numL_lt h2]
      exact ⟨_, _, rfl, by omega⟩
    · obtain ⟨c, r, e, nc⟩ := ih (n / 10) (by omega) (by omega)
      rw [numL_step (by omega), e]
      exact ⟨c, _, rfl, nc⟩
theorem drop_rep : ∀ (k : Nat) (c : List Nat), (List.replicate k 32 ++ c).drop k = c
  | 0, c => rfl
  | k + 1, c => drop_rep k c
theorem strip_ind {x : Str} {k : Nat} {c : List Nat} (h : tl x = List.replicate k 32 ++ c) (hc : ∀ d r, c = d :: r → d ≠ 32) : Txt.lstripChars x (" " : Str) = S c := by
  refine S_of ?_
  unfold Txt.lstripChars
  rw [PyProof.Rows.stripBy_eq]
  have e1 : stripLo (" " : Str).cps.contains true x = k := by
    show (if true then (x.cps.toList.takeWhile _).length else 0) = k
    rw [if_pos rfl, show x.cps.toList = List.replicate k 32 ++ c from h]
    have g32 : (" " : Str).cps.contains 32 = true := by decide +kernel
    have gn : ∀ d : Nat, d ≠ 32 → (" " : Str).cps.contains d = false := fun d hd => by
      rw [show (" " : Str).cps = #[32] by decide +kernel]
      simp [hd]
    generalize (" " : Str).cps.contains = g at g32 gn
    have key : ∀ k : Nat, ((List.replicate k 32 ++ c).takeWhile g).length = k := fun k => by
      induction k with
      | zero =>
        cases c with
        | nil => rfl
        | cons d r =>
          show ((d :: r).takeWhile g).length = 0
          rw [List.takeWhile_cons, gn d (hc d r rfl)]
          rfl
      | succ k ih =>
        show ((32 :: (List.replicate k 32 ++ c)).takeWhile g).length = k + 1
        rw [List.takeWhile_cons, g32]
        show ((List.replicate k 32 ++ c).takeWhile g).length + 1 = k + 1
        rw [ih]
    exact key k
  rw [e1]
  show tl (Builtin.Str.strSub x k (stripHi _ false x k)) = c
  have e2 : ∀ g, stripHi g false x k = x.length := fun g => rfl
  rw [e2, tl_strSub_end, h]
  exact drop_rep k c
/-- what is left behind an indentation -/
theorem cut_ind {x : Str} {k : Nat} {c : List Nat} (h : tl x = List.replicate k 32 ++ c) : L2.cutS x (some (k : Int)) none = S c := by
  refine S_of ?_
  have hl : x.length = k + c.length := by rw [len_tl, h]; simp
  show ((tl x).drop (HT.sIx x.length 0 (some (k : Int)))).take (HT.sIx x.length x.length none - HT.sIx x.length 0 (some (k : Int))) = c
  rw [HT.sIx_nat, HT.sIx_none, h, Nat.min_eq_left (by omega), drop_rep]
  exact List.take_of_length_le (by omega)
end TX
namespace CP
open PySem L2 G Y
open TL TX
abbrev sWritten : Stmt := S.top 7
def rSg : R2 := fun x y H Q => ∃ (c : Nat) (z : Str), x = .str ⟨#[c]⟩ ∧ y = .str z ∧ Q (.bl (decide (c ∈ z.cps.toList))) H
theorem op_sg {X : Cx} : OpR X (compareOp .In) rSg := op_in_sign
theorem dig_in {c : Nat} (h : 48 ≤ c ∧ c ≤ 57) : decide (c ∈ ("0123456789" : Str).cps.toList) = true := by
  rw [show ("0123456789" : Str).cps.toList = [48, 49, 50, 51, 52, 53, 54, 55, 56, 57] by decide +kernel]
  simp only [List.mem_cons, List.mem_nil_iff, or_false]
  exact decide_eq_true (by omega)
section
variable {P : Program} {w : World} {K : PySem.W.Frag} {mg : Str → Option Value} {base : Heap} {C CW : Addr}
def spWritten : Sp := fun vs H Q _ => ∃ (x : Str) (n : Nat), vs = [.str x] ∧ tl x = numL n ∧ 1 ≤ n ∧ n ≤ 1000000000000 ∧ ∀ H', Same H H' → Q (.int (n : Int)) H'
abbrev NWr : List Str := ["word", "digit"]
theorem scWr : FnScope NWr ["word"] (defScope sWritten) := ⟨rfl, rfl, rfl, by decide +kernel, rfl, by decide +kernel, by decide +kernel⟩
theorem ok_written {f : Addr} {fd : FuncData} (F : Fun K "written_integer" "written_integer" sWritten f fd) (B : Bn mg) (hall : mg "all" = none) (gD : ∃ t, mg "DIGITS" = some (.str "0123456789" t)) (gM : ∃ t, mg "MOST_DIGITS" = some (.int 60 t)) : FnOk P w K mg base CX0 1 f fd ["word"] spWritten := by
  obtain ⟨tD, gD⟩ := gD
  obtain ⟨tM, gM⟩ := gM
  refine F.ok scWr (fun vs H Q E h => ?_) (fun cdv A outer s H vs Q E hr h => ?_)
  · obtain ⟨x, n, rfl, _⟩ := h
    rfl
  · obtain ⟨x, n, rfl, hx, h1, h2, kk⟩ := h
    refine ⟨_, pss_cons (ps_if (PW.pt (pw_or (pt_not (pt_chain op_le op_le (pe_int) (pe_callB call_len_str (by rfl) B.len PySem.boot_len (pa_cons (pv 0) pa_nil)) (pe_glob (v := .int 60) rfl gM ⟨_, rfl⟩))) (pw_or1 (pt_not (pt_val (pe_callB (cr_all rfl) (by rfl) hall (by decide +kernel) (pa_cons (pe_lc (own := [("digit", 1)]) (g := gName 1) (tt := tYes) (te := tOp rSg (tVar 1) (tC (.str "0123456789"))) rfl scWr.nd (pi_str (pv 0)) (blkOk_by (N := NWr) (sc := defScope sWritten) (by decide +kernel))
          (fun _ _ _ _ _ => by exact pg_name (i := 1) scWr.nd rfl (Or.inl rfl)) (fun _ _ _ _ _ => pts_nil) (fun _ _ _ _ _ => by exact pe_cmpR (op_sg) (pv 1) (pe_glob (v := .str "0123456789") rfl gD ⟨_, rfl⟩) (by rfl))) pa_nil))))))) (pss_one (ps_ret (pe_non))) (pss_nil))
      (pss_cons (ps_if (PW.pt (pw_and (pt_cmpR (op_eq) (pe_ix ix_str (pv 0) (pe_int) (fun _ _ => rfl)) (pe_str) (nomark _)) (pw_and1 (pt_cmpR (op_gt) (pe_callB call_len_str (by rfl) B.len PySem.boot_len (pa_cons (pv 0) pa_nil)) (pe_int) (nomark _))))) (pss_one (ps_ret (pe_non))) (pss_nil))
      (pss_one (ps_ret (pe_callTy call_int_str (by rfl) B.int (by decide +kernel) (pa_cons (pv 0) pa_nil))))), ?_⟩
    have wn := wd_num h2
    have lx : x.length = (numL n).length := by rw [len_tl, hx]
    have l13 := wn.len
    have l1 : 1 ≤ (numL n).length := List.length_pos_iff.mpr wn.ne
    have big : x.length ≤ sizeLine := Nat.le_of_lt (small1000 (by omega))
    refine ⟨_, rfl, x, rfl, big, _, _, rfl, rfl, _, rfl, ?_⟩
    rw [decide_eq_true (show (1 : Int) ≤ ((x.length : Nat) : Int) by omega)]
    refine iteT ⟨_, _, rfl, rfl, _, rfl, ?_⟩
    rw [decide_eq_true (show ((x.length : Nat) : Int) ≤ 60 by omega)]
    refine iteF ?_
    refine ⟨_, rfl, x, rfl, fun D hD => ?_⟩
    have cx : x.cps.size = (numL n).length := lx
    have gt : ∀ {i c : Nat}, x.cps[i]? = some c → c ∈ numL n := fun {i c} e => by
      rw [← hx]
      exact List.mem_of_getElem? (i := i) (by rw [Array.getElem?_toList]; exact e)
    refine lc_it walk_str (fun i G => Same H G ∧ G D = some (.lst ((List.replicate i true).map V.bl))) ⟨of_upd hD, upd_same⟩ (fun i G _ z => trivial) ?_ ?_
    · rintro i v G G' hi ⟨s1, e1⟩ ⟨rfl, c, hc, rfl⟩
      have dg := numL_digits n c (gt hc)
      refine ⟨rfl, _, rfl, c, _, rfl, rfl, ?_⟩
      rw [dig_in dg]
      refine ⟨_, e1, small1000 (by rw [List.length_map, List.length_replicate]; omega), add_upd hD s1, ?_⟩
      rw [upd_same, ← List.replicate_append_replicate (n := i) (m := 1), List.map_append]
      rfl
    · rintro G ⟨s1, e1⟩
      refine ⟨D, _, rfl, SqL.of e1, ?_⟩
      rw [show (List.replicate x.cps.size true).all id = true by simp]
      refine ⟨_, rfl, iteF ?_⟩
      obtain ⟨c0, r0, e0, n0⟩ := num_first n h1
      have t0 : x.cps.toList = c0 :: r0 := hx.trans e0
      refine ⟨_, rfl, x, _, c0, rfl, rfl, big, by rw [t0]; exact atI_nat (xs := c0 :: r0) (j := 0) rfl, rfl, _, rfl, ?_⟩
      refine iteN (fun z => n0 ?_) ?_
      · have z := V.str.inj z
        have e : tl (⟨#[c0]⟩ : Str) = tl ("0" : Str) := congrArg tl z
        rw [show tl ("0" : Str) = [48] by decide +kernel] at e
        exact (List.cons.inj e).1
      · refine iteF ?_
        refine ⟨_, rfl, x, (n : Int), rfl, ?_, by omega, kk G s1⟩
        rw [show x = Str.ofString (toString ((n : Nat) : Int)) from ext_tl (by rw [hx, t_num])]
        exact int_num (by omega)
end
end CP

end
section
set_option autoImplicit false
set_option Elab.async false
set_option linter.all false
set_option maxRecDepth 100000
set_option maxHeartbeats 4000000
/-! ## _step; BegunWay, Reader: made; a reader's methods -/
namespace CP
open PySem L2 G Y
open TL TX
abbrev sTStep : Stmt := S.top 46
abbrev sBInit : Stmt := inClass (S.top 44) 0
abbrev sRInit : Stmt := inClass (S.top 45) 0
abbrev sRWhole : Stmt := inClass (S.top 45) 2
abbrev sRLevel : Stmt := inClass (S.top 45) 4
/-- the class BegunWay -/
structure Bt (K : PySem.W.Frag) (mg : Str → Option Value) (C : Addr) : Prop where
  g : mg "BegunWay" = some (.ref C)
  cl : Cls K C
  nM : NoAttr K C "most"
  nT : NoAttr K C "tells"
  nH : NoAttr K C "head"
  nS : NoAttr K C "steps"
/-- the class Reader -/
structure Rt (K : PySem.W.Frag) (mg : Str → Option Value) (C : Addr) : Prop where
  g : mg "Reader" = some (.ref C)
  cl : Cls K C
  nB : NoAttr K C "_begun"
  nS : NoAttr K C "_size"
structure Mr (P : Program) (w : World) (K : PySem.W.Frag) (mg : Str → Option Value) (base : Heap) (C : Addr) (k : Nat) (m : Str) (ps : List Str) (sp : Sp) : Prop where
  ex : ∃ (f : Addr) (fd : FuncData), FnOk P w K mg base CX0 k f fd ps sp ∧ Meth K C m f ∧ Binds K fd ps []
structure Mn (P : Program) (w : World) (K : PySem.W.Frag) (mg : Str → Option Value) (base : Heap) (C : Addr) (k : Nat) (ps : List Str) (sp : Sp) : Prop where
  ex : ∃ (f : Addr) (fd : FuncData), FnOk P w K mg base CX0 k f fd ps sp ∧ L2.Mk K C f ∧ Binds K fd ps []
theorem at_k0 {y0 : V} {ys : List V} : atI (y0 :: ys) (0 : Int) = some y0 := by exact atI_nat (xs := y0 :: ys) (j := 0) rfl
theorem at_k1 {y0 y1 : V} {ys : List V} : atI (y0 :: y1 :: ys) (1 : Int) = some y1 := by exact atI_nat (xs := y0 :: y1 :: ys) (j := 1) rfl
theorem at_k2 {y0 y1 y2 : V} {ys : List V} : atI (y0 :: y1 :: y2 :: ys) (2 : Int) = some y2 := by exact atI_nat (xs := y0 :: y1 :: y2 :: ys) (j := 2) rfl
theorem at_k3 {y0 y1 y2 y3 : V} {ys : List V} : atI (y0 :: y1 :: y2 :: y3 :: ys) (3 : Int) = some y3 := by exact atI_nat (xs := y0 :: y1 :: y2 :: y3 :: ys) (j := 3) rfl
theorem S_ne {a b : List Nat} (h : a ≠ b) : ¬ V.str (TX.S a) = V.str (TX.S b) := fun z => h (S_inj (V.str.inj z))
section
variable {P : Program} {w : World} {K : PySem.W.Frag} {mg : Str → Option Value} {base : Heap} {CR CB CW : Addr}
def spTStep (CW : Addr) : Sp := fun vs H Q _ => ∃ (l : Addr) (h : Nat) (s : M.Step), vs = [.ref l, .int (h : Int)] ∧ H l = some (.lst (sv (plainW s))) ∧ ¬ isTun s ∧ s.fine h ∧ ∀ t H', Same H H' → WP.StepAt CW H' s (.ref t) → Q (.ref t) H'
theorem scTs : FnScope ["words", "head", "most", "size"] ["words", "head"] (defScope sTStep) := ⟨rfl, rfl, rfl, by decide +kernel, rfl, by decide +kernel, by decide +kernel⟩
theorem ok_tstep {f : Addr} {fd : FuncData} (F : Fun K "_step" "_step" sTStep f fd) (B : Bn mg) (DW : Df P w K mg base 1 "written_integer" ["word"] spWritten) (DM : Df P w K mg base 3 "is_most" ["value"] (WP.spIn1 1 1000000000000)) (DR : Df P w K mg base 3 "is_road" ["size", "sealed", "loose", "least"] WP.spRoad) : FnOk P w K mg base CX0 4 f fd ["words", "head"] (spTStep CW) := by
  obtain ⟨fW, fdW, GW, gW, kW, bW⟩ := DW.ex
  obtain ⟨fM, fdM, GM, gM, kM, bM⟩ := DM.ex
  obtain ⟨fR, fdR, GR, gR, kR, bR⟩ := DR.ex
  refine F.ok scTs (fun vs H Q E h => ?_) (fun cdv A outer s H vs Q E hr h => ?_)
  · obtain ⟨l, h, s, rfl, _⟩ := h
    rfl
  · obtain ⟨l, h, st, rfl, hl, hn, hf, kk⟩ := h
    refine ⟨_, pss_cons (ps_if (PW.pt (pw_and (pt_cmpR (op_eq) (pe_ix ix_list (pv 0) (pe_int) (fun _ _ => rfl)) (pe_str) (nomark _)) (pw_and1 (pt_cmpR (op_eq) (pe_callB call_len_seq (by rfl) B.len PySem.boot_len (pa_cons (pv 0) pa_nil)) (pe_int) (nomark _))))) (pss_cons (ps_set (i := 2) scTs.nd rfl (Or.inl rfl) (pe_call GW (hr.mono (by omega)) rfl gW kW bW .nil pass0 (pa_cons (pe_ix ix_list (pv 0) (pe_int) (fun _ _ => rfl)) pa_nil)))
      (pss_one (ps_ret (pe_ifExp (pt_val (pe_call GM (hr.mono (by omega)) rfl gM kM bM .nil pass0 (pa_cons (pv 2) pa_nil))) (pe_tup (pa_cons (pe_str) (pa_cons (pv 2) pa_nil))) (pe_non))))) (pss_nil))
      (pss_cons (ps_if (PW.pt (pw_and (pt_cmpR (op_eq) (pe_ix ix_list (pv 0) (pe_int) (fun _ _ => rfl)) (pe_str) (nomark _)) (pw_and1 (pt_cmpR (op_eq) (pe_callB call_len_seq (by rfl) B.len PySem.boot_len (pa_cons (pv 0) pa_nil)) (pe_int) (nomark _))))) (pss_cons (ps_set (i := 3) scTs.nd rfl (Or.inl rfl) (pe_call GW (hr.mono (by omega)) rfl gW kW bW .nil pass0 (pa_cons (pe_ix ix_list (pv 0) (pe_int) (fun _ _ => rfl)) pa_nil)))
      (pss_one (ps_ret (pe_ifExp (pt_val (pe_call GR (hr.mono (by omega)) rfl gR kR bR .nil pass0 (pa_cons (pv 3) (pa_cons (pe_ix ix_list (pv 0) (pe_int) (fun _ _ => rfl)) (pa_cons (pe_ix ix_list (pv 0) (pe_int) (fun _ _ => rfl)) (pa_cons (pe_op (op_add) (pv 1) (pe_int)) pa_nil)))))) (pe_tup (pa_cons (pe_str) (pa_cons (pv 3) (pa_cons (pe_ix ix_list (pv 0) (pe_int) (fun _ _ => rfl)) (pa_cons (pe_ix ix_list (pv 0) (pe_int) (fun _ _ => rfl)) pa_nil))))) (pe_non))))) (pss_nil))
      (pss_one (ps_ret (pe_non)))), ?_⟩
    have hq := SqL.of (K := K) hl
    cases st with
    | road size ts lw =>
      unfold M.Step.fine at hf
      refine ⟨_, rfl, l, _, _, _, rfl, rfl, hq, at_k0, rfl, _, rfl, ?_⟩
      rw [k_join]
      refine iteN (S_ne (by decide)) (iteF ?_)
      refine ⟨_, rfl, l, _, _, _, rfl, rfl, hq, at_k0, rfl, _, rfl, ?_⟩
      rw [k_road]
      refine iteP rfl ⟨_, rfl, l, _, rfl, .inl hq, rfl, _, rfl, iteP rfl ?_⟩
      refine set_then (i := 3) ⟨_, rfl, l, _, _, _, rfl, rfl, hq, at_k1, TX.S (numL size), size, rfl, tl_S _, by omega, by omega, fun H1 s1 => ?_⟩
      have hq1 := SqL.of (K := K) (s1 _ _ hl)
      refine ⟨_, rfl, _, rfl, l, _, _, _, rfl, rfl, hq1, at_k2, _, rfl, l, _, _, _, rfl, rfl, hq1, at_k3, _, rfl, _, _, rfl, rfl, size, (h : Int) + 1, ts, lw, ?_, by omega, by omega, _, rfl, ?_⟩
      · rw [k_sd, k_lw]
        rfl
      refine iteT ⟨_, rfl, _, rfl, l, _, _, _, rfl, rfl, hq1, at_k2, _, rfl, l, _, _, _, rfl, rfl, hq1, at_k3, (by show 4 ≤ sizeLine; decide), fun t ht => ?_⟩
      refine kk t _ (s1.trans (of_upd ht)) ?_
      unfold WP.StepAt
      refine ⟨t, rfl, ?_⟩
      rw [k_sd, k_lw]
      exact upd_same
    | join most =>
      unfold M.Step.fine at hf
      refine ⟨_, rfl, l, _, _, _, rfl, rfl, hq, at_k0, rfl, _, rfl, ?_⟩
      rw [k_join]
      refine iteP rfl ⟨_, rfl, l, _, rfl, .inl hq, rfl, _, rfl, iteP rfl ?_⟩
      refine set_then (i := 2) ⟨_, rfl, l, _, _, _, rfl, rfl, hq, at_k1, TX.S (numL most), most, rfl, tl_S _, by omega, by omega, fun H1 s1 => ?_⟩
      refine ⟨_, rfl, (most : Int), rfl, _, rfl, ?_⟩
      rw [decide_eq_true (by omega)]
      refine iteT ⟨_, rfl, line2.1, fun t ht => ?_⟩
      refine kk t _ (s1.trans (of_upd ht)) ?_
      unfold WP.StepAt
      exact ⟨t, rfl, upd_same⟩
    | tunnel w m t => exact absurd trivial hn
/-- BegunWay.__init__ at a new instance -/
def spBInit (CB CW : Addr) : Sp := fun vs H Q _ => ∃ (x dx : Addr) (o : Option (Nat × M.TW)) (H0 : Hp), vs = [.ref x, outM o, outT o] ∧ H x = some (.ins CB dx []) ∧ H0 x = none ∧ Same H0 H ∧
  ∀ s H', Same H0 H' → H0 s = none → FrAt CB CW H' ⟨o, none, []⟩ x s → Q .non H'
theorem scBi : FnScope ["self", "most", "tells"] ["self", "most", "tells"] (defScope sBInit) := ⟨rfl, rfl, rfl, by decide +kernel, rfl, by decide +kernel, by decide +kernel⟩
theorem ok_binit {f : Addr} {fd : FuncData} (F : Fun K "__init__" "BegunWay.__init__" sBInit f fd) (T : Bt K mg CB) : FnOk P w K mg base CX0 1 f fd ["self", "most", "tells"] (spBInit CB CW) := by
  refine F.ok scBi (fun vs H Q E h => ?_) (fun cdv A outer s H vs Q E hr h => ?_)
  · obtain ⟨x, dx, o, H0, rfl, _⟩ := h
    rfl
  · obtain ⟨x, dx, o, H0, rfl, hx, hx0, s0, kk⟩ := h
    refine ⟨_, pss_cons (ps_fld (pv 0) (pv 1) rfl)
      (pss_cons (ps_fld (pv 0) (pv 2) rfl)
      (pss_cons (ps_fld (pv 0) (pe_non) rfl)
      (pss_one (ps_fld (pv 0) (pe_lst pa_nil) rfl)))), ?_⟩
    have g0 : ([] : List (Str × V)).length < 996 := by decide
    refine ⟨_, rfl, _, rfl, x, CB, dx, _, rfl, hx, T.cl, T.nM, by decide, ?_⟩
    refine ⟨_, rfl, _, rfl, x, CB, dx, _, rfl, upd_same, T.cl, T.nT, Nat.lt_of_lt_of_le (len_put g0) (by decide), ?_⟩
    refine ⟨_, rfl, x, CB, dx, _, rfl, upd_same, T.cl, T.nH, Nat.lt_of_lt_of_le (len_put (len_put g0)) (by decide), ?_⟩
    refine ⟨line2.2.2.2, fun s hs => ?_⟩
    have hxs : x ≠ s := fun z => by
      rw [← z, upd_same] at hs
      cases hs
    refine ⟨_, rfl, x, CB, dx, _, rfl, by rw [upd_ne hxs]; exact upd_same, T.cl, T.nS, Nat.lt_of_lt_of_le (len_put (len_put (len_put g0))) (by decide), ?_⟩
    have q1 := add_upd (o := .ins CB dx (putF "most" (outM o) [])) hx0 s0
    have q2 := add_upd (o := .ins CB dx (putF "tells" (outT o) (putF "most" (outM o) []))) hx0 q1
    have q3 := add_upd (o := .ins CB dx (putF "head" .non (putF "tells" (outT o) (putF "most" (outM o) [])))) hx0 q2
    have hs0 : H0 s = none := q3.free hs
    have q4 := q3.trans (of_upd (o := .lst []) hs)
    refine kk s _ (add_upd hx0 q4) hs0 ⟨dx, [], upd_same, ?_, ?_⟩
    · rw [upd_ne hxs.symm]
      exact upd_same
    · unfold WP.StepsAt
      rfl
/-- Reader.__init__ at a new instance -/
def spRInit (CR CB CW : Addr) : Sp := fun vs H Q _ => ∃ (x dx : Addr) (H0 : Hp), vs = [.ref x] ∧ H x = some (.ins CR dx []) ∧ H0 x = none ∧ Same H0 H ∧
  ∀ H', RdAt CR CB CW H0 H' [⟨none, none, []⟩] 0 x → Q .non H'
theorem scRi : FnScope ["self"] ["self"] (defScope sRInit) := ⟨rfl, rfl, rfl, by decide +kernel, rfl, by decide +kernel, by decide +kernel⟩
theorem ok_rinit {f : Addr} {fd : FuncData} (F : Fun K "__init__" "Reader.__init__" sRInit f fd) (T : Rt K mg CR) (TB : Bt K mg CB) (MB : Mn P w K mg base CB 1 ["self", "most", "tells"] (spBInit CB CW)) : FnOk P w K mg base CX0 3 f fd ["self"] (spRInit CR CB CW) := by
  obtain ⟨fB, fdB, GB, MB, bB⟩ := MB.ex
  have gB := TB.g
  refine F.ok scRi (fun vs H Q E h => ?_) (fun cdv A outer s H vs Q E hr h => ?_)
  · obtain ⟨x, dx, H0, rfl, _⟩ := h
    rfl
  · obtain ⟨x, dx, H0, rfl, hx, hx0, s0, kk⟩ := h
    refine ⟨_, pss_cons (ps_fld (pv 0) (pe_lst (pa_cons (pe_make MB GB (hr.mono (by omega)) rfl gB bB .nil pass0 (pa_cons (pe_non) (pa_cons (pe_non) pa_nil))) pa_nil)) rfl)
      (pss_one (ps_fld (pv 0) (pe_int) rfl)), ?_⟩
    intro a dxa ha hdxa nea
    refine ⟨a, dxa, none, H, rfl, upd_same, ha, (of_upd hdxa).trans (of_upd (by rw [upd_ne nea.symm]; exact ha)), fun s1 H1 g1 hs wa => ⟨rfl, ?_⟩⟩
    refine ⟨line2.2.2.1, fun b hb => ?_⟩
    have hx1 := g1 _ _ hx
    have hxb : x ≠ b := fun z => by
      rw [z, hb] at hx1
      cases hx1
    refine ⟨_, rfl, x, CR, dx, _, rfl, by rw [upd_ne hxb]; exact hx1, T.cl, T.nB, by decide, ?_⟩
    refine ⟨_, rfl, x, CR, dx, _, rfl, upd_same, T.cl, T.nS, Nat.lt_of_lt_of_le (len_put (show ([] : List (Str × V)).length < 998 by decide)) (by decide), ?_⟩
    have xa : x ≠ a := fun z => by
      rw [z, ha] at hx
      cases hx
    obtain ⟨dxa, xs, w1, w2, w3⟩ := wa.ex
    have xs1 : x ≠ s1 := fun z => by
      rw [z, hs] at hx
      cases hx
    have ab : a ≠ b := fun z => by
      rw [z, hb] at w1
      cases w1
    have sb : s1 ≠ b := fun z => by
      rw [z, hb] at w2
      cases w2
    have e0 : xs = [] := by
      unfold WP.StepsAt at w3
      exact w3
    subst e0
    have sm := add_upd (o := .ins CR dx (rf b 0)) hx0 (add_upd (o := .ins CR dx (putF "_begun" (.ref b) [])) hx0 ((s0.trans g1).trans (of_upd (o := .lst [V.ref a]) hb)))
    refine kk _ ⟨dx, b, [(a, s1)], upd_same, ?_, ⟨(a, s1), [], rfl, ⟨dxa, [], ?_, ?_, by unfold WP.StepsAt; rfl⟩, rfl⟩, ?_, ?_, hx0, (s0.trans g1).free hb, ?_, sm⟩
    · rw [upd_ne hxb.symm, upd_ne hxb.symm]
      exact upd_same
    · rw [upd_ne xa.symm, upd_ne xa.symm, upd_ne ab]
      exact w1
    · rw [upd_ne xs1.symm, upd_ne xs1.symm, upd_ne sb]
      exact w2
    · exact List.nodup_cons.mpr ⟨fun z => sb (List.mem_singleton.mp z).symm, List.nodup_cons.mpr ⟨List.not_mem_nil, List.nodup_nil⟩⟩
    · exact List.nodup_cons.mpr ⟨fun z => xa (List.mem_singleton.mp z), List.nodup_cons.mpr ⟨List.not_mem_nil, List.nodup_nil⟩⟩
    · intro p hp
      rw [List.mem_singleton.mp hp]
      exact ⟨s0.free ha, s0.free hs⟩
/-! ### what is read of a reader -/
theorem rd_begun (T : Rt K mg CR) {σ : L2.St} {H0 H : Hp} {Q : VK} {st : List Fr} {n : Nat} {x dx b : Addr} {ps : List (Addr × Addr)} (h0 : σ[0]? = some (some (.ref x))) (h : RdP CR CB CW H0 H st n x dx b ps) (q : Q (.ref b) H) : tFld K (tVar 0) "_begun" σ H Q :=
  ⟨_, h0, x, CR, dx, _, _, rfl, h.hx, T.cl, T.nB, rf_look.1, q⟩
theorem rd_top (T : Rt K mg CR) {σ : L2.St} {H0 H : Hp} {Q : VK} {f : Fr} {r : List Fr} {n : Nat} {x dx b : Addr} {p : Addr × Addr} {ps : List (Addr × Addr)} (h0 : σ[0]? = some (some (.ref x))) (h : RdP CR CB CW H0 H (f :: r) n x dx b (p :: ps)) (q : Q (.ref p.1) H) :
    tOp (rIxL K) (tFld K (tVar 0) "_begun") (tUn (rU fun i => .int (-i)) (tC (.int 1))) σ H Q :=
  rd_begun T h0 h ⟨_, rfl, b, _, _, _, rfl, rfl, SqL.of h.hb, bg_top p ps, q⟩
theorem rd_len (T : Rt K mg CR) {σ : L2.St} {H0 H : Hp} {Q : VK} {st : List Fr} {n : Nat} {x dx b : Addr} {ps : List (Addr × Addr)} (h0 : σ[0]? = some (some (.ref x))) (h : RdP CR CB CW H0 H st n x dx b ps) (q : Q (.int ((st.length : Nat) : Int)) H) :
    tCB (fun zs H Q => ∃ p ys, zs = [.ref p] ∧ (SqL K H p ys ∨ SqT K H p ys) ∧ Q (.int ys.length) H) (tCons (tFld K (tVar 0) "_begun") tNil) σ H Q :=
  rd_begun T h0 h ⟨b, _, rfl, .inl (SqL.of h.hb), by rw [bg_len, h.stk.len]; exact q⟩
theorem stk_cons {H : Hp} {f : Fr} {r : List Fr} {ps : List (Addr × Addr)} (h : StkAt CB CW H (f :: r) ps) : ∃ p qs, ps = p :: qs ∧ FrAt CB CW H f p.1 p.2 ∧ StkAt CB CW H r qs := h
/-- Reader.is_whole -/
def spWhole (CR CB CW : Addr) : Sp := fun vs H Q _ => ∃ (x : Addr) (f : Fr) (r : List Fr) (n : Nat) (H0 : Hp), vs = [.ref x] ∧ RdAt CR CB CW H0 H (f :: r) n x ∧ Q (.bl (decide (0 < f.steps.length))) H
theorem scRw : FnScope ["self"] ["self"] (defScope sRWhole) := ⟨rfl, rfl, rfl, by decide +kernel, rfl, by decide +kernel, by decide +kernel⟩
theorem ok_whole {f : Addr} {fd : FuncData} (F : Fun K "is_whole" "Reader.is_whole" sRWhole f fd) (B : Bn mg) (T : Rt K mg CR) (TB : Bt K mg CB) : FnOk P w K mg base CX0 1 f fd ["self"] (spWhole CR CB CW) := by
  refine F.ok scRw (fun vs H Q E h => ?_) (fun cdv A outer s H vs Q E hr h => ?_)
  · obtain ⟨x, f, r, n, H0, rfl, _⟩ := h
    rfl
  · obtain ⟨x, f, r, n, H0, rfl, ⟨dx, b, ps, h⟩, k⟩ := h
    refine ⟨_, pss_one (ps_ret (pe_cmpR (op_gt) (pe_callB call_len_seq (by rfl) B.len PySem.boot_len (pa_cons (pe_fld (pe_ix ix_list (pe_fld (pv 0) rfl) (pe_un un_neg (pe_int)) (fun _ _ => rfl)) rfl) pa_nil)) (pe_int) (nomark _))), ?_⟩
    obtain ⟨p, qs, rfl, h1, h2⟩ := stk_cons h.stk
    obtain ⟨dxf, xs, w1, w2, w3⟩ := h1.ex
    refine rd_top T rfl h ⟨p.1, CB, dxf, _, _, rfl, w1, TB.cl, TB.nS, bf_look.2.2.2, p.2, xs, rfl, .inl (SqL.of w2), _, _, rfl, rfl, ?_⟩
    rw [w3.len]
    have e : decide ((0 : Int) < ((f.steps.length : Nat) : Int)) = decide (0 < f.steps.length) := decide_eq_decide.mpr (by omega)
    show Q (.bl (decide ((0 : Int) < ((f.steps.length : Nat) : Int)))) H
    rw [e]
    exact k
/-- Reader._level -/
def spLevel (CR CB CW : Addr) : Sp := fun vs H Q _ => ∃ (x : Addr) (l : Str) (f : Fr) (r : List Fr) (n lv : Nat) (c : List Nat) (H0 : Hp), vs = [.ref x, .str l] ∧ RdAt CR CB CW H0 H (f :: r) n x ∧ tl l = indL lv ++ c ∧ (∀ d q, c = d :: q → d ≠ 32) ∧ l.length ≤ 1000 ∧
  lv ≤ r.length ∧ (lv = r.length ∨ f.steps ≠ []) ∧ Q (.int (lv : Int)) H
theorem scRl : FnScope ["self", "line", "spaces", "level", "inmost"] ["self", "line"] (defScope sRLevel) := ⟨rfl, rfl, rfl, by decide +kernel, rfl, by decide +kernel, by decide +kernel⟩
theorem ok_level {f : Addr} {fd : FuncData} (F : Fun K "_level" "Reader._level" sRLevel f fd) (B : Bn mg) (T : Rt K mg CR) (gI : ∃ t, mg "INDENTATION" = some (.str "  " t)) (MW : Mr P w K mg base CR 1 "is_whole" ["self"] (spWhole CR CB CW)) : FnOk P w K mg base CX0 2 f fd ["self", "line"] (spLevel CR CB CW) := by
  obtain ⟨fW, fdW, GW, mW, bW⟩ := MW.ex
  obtain ⟨tI, gI⟩ := gI
  refine F.ok scRl (fun vs H Q E h => ?_) (fun cdv A outer s H vs Q E hr h => ?_)
  · obtain ⟨x, l, f, r, n, lv, c, H0, rfl, _⟩ := h
    rfl
  · obtain ⟨x, l, f, r, n, lv, c, H0, rfl, ⟨dx, b, ps, h⟩, hl, hc, l1, v1, v2, k⟩ := h
    refine ⟨_, pss_cons (ps_set (i := 2) scRl.nd rfl (Or.inl rfl) (pe_op (op_sub) (pe_callB call_len_str (by rfl) B.len PySem.boot_len (pa_cons (pv 1) pa_nil)) (pe_callB call_len_str (by rfl) B.len PySem.boot_len (pa_cons (pe_bm PySem.F.plainAttrs_str PySem.F.slot_str_lstrip PySem.F.type_str_lstrip mt_lstripChars (pv 1) (pa_cons (pe_str) pa_nil)) pa_nil))))
      (pss_cons (ps_set (i := 3) scRl.nd rfl (Or.inl rfl) (pe_op (op_fdiv) (pv 2) (pe_callB call_len_str (by rfl) B.len PySem.boot_len (pa_cons (pe_glob (v := .str "  ") rfl gI ⟨_, rfl⟩) pa_nil))))
      (pss_cons (ps_set (i := 4) scRl.nd rfl (Or.inl rfl) (pe_op (op_sub) (pe_callB call_len_seq (by rfl) B.len PySem.boot_len (pa_cons (pe_fld (pv 0) rfl) pa_nil)) (pe_int)))
      (pss_cons (ps_if (PW.pt (pw_or (pt_cmpR (op_ne) (pv 2) (pe_op (op_mul) (pv 3) (pe_callB call_len_str (by rfl) B.len PySem.boot_len (pa_cons (pe_glob (v := .str "  ") rfl gI ⟨_, rfl⟩) pa_nil))) (nomark _)) (pw_or1 (pt_cmpR (op_gt) (pv 3) (pv 4) (nomark _))))) (pss_one (ps_ret (pe_non))) (pss_nil))
      (pss_one (ps_ret (pe_ifExp (PW.pt (pw_or (pt_cmpR (op_eq) (pv 3) (pv 4) (nomark _)) (pw_or1 (pt_val (pe_meth0 (pv 0) T.cl mW GW (hr.mono (by omega)) bW .nil pass0))))) (pv 3) (pe_non))))))), ?_⟩
    have big : ∀ {n : Nat}, n ≤ 1000 → n ≤ sizeLine := fun h => Nat.le_of_lt (small1000 h)
    have ll : l.length = 2 * lv + c.length := by rw [len_tl, hl]; unfold indL; simp
    have lc : (TX.S c).length = c.length := S_len c
    have l2 : ("  " : Str).length = 2 := by rw [len_tl, k_ind, tl_S]; rfl
    refine set_then (i := 2) ⟨_, rfl, l, rfl, big l1, _, rfl, rfl, l, _, rfl, rfl, big l1, ?_⟩
    rw [strip_ind hl hc]
    refine ⟨_, rfl, by rw [lc]; exact big (by omega), _, _, rfl, rfl, ?_⟩
    dsimp only
    rw [lc, show ((l.length : Nat) : Int) - ((c.length : Nat) : Int) = ((2 * lv : Nat) : Int) by omega]
    refine set_then (i := 3) ⟨_, rfl, _, rfl, by decide +kernel, _, _, rfl, rfl, ?_, ?_⟩
    · rw [l2]
      exact ⟨by decide, by decide⟩
    dsimp only
    rw [l2, show ((2 * lv : Nat) : Int) / ((2 : Nat) : Int) = (lv : Int) by omega]
    have hst := h.stk
    obtain ⟨p, qs, rfl, g1, g2⟩ := stk_cons hst
    refine set_then (i := 4) (rd_len T rfl h ⟨_, _, rfl, rfl, ?_⟩)
    dsimp only
    rw [show (((f :: r).length : Nat) : Int) - 1 = ((r.length : Nat) : Int) by rw [List.length_cons]; omega]
    refine ⟨_, rfl, _, rfl, _, rfl, by decide +kernel, _, _, rfl, rfl, ?_, rfl, _, rfl, ?_⟩
    · exact .inl ⟨by omega, by omega⟩
    rw [l2]
    refine iteNS (congrArg V.int (show ((2 * lv : Nat) : Int) = (lv : Int) * ((2 : Nat) : Int) by omega)) ?_
    refine ⟨_, rfl, _, rfl, _, _, rfl, rfl, _, rfl, ?_⟩
    rw [decide_eq_false (show ¬ (lv : Int) > ((r.length : Nat) : Int) by omega)]
    refine iteF ⟨_, rfl, _, rfl, rfl, _, rfl, ite2 (fun c2 => ⟨_, rfl, k⟩) fun c2 => ?_⟩
    have ne : lv ≠ r.length := fun z => c2 (decide_eq_true (by rw [z]))
    rcases v2 with e | e
    · exact absurd e ne
    refine ⟨_, rfl, x, dx, _, rfl, h.hx, rf_no (by decide +kernel) (by decide +kernel), x, f, r, n, H0, rfl, ⟨dx, b, p :: qs, h⟩, _, rfl, ?_⟩
    rw [decide_eq_true (List.length_pos_iff.mpr e)]
    exact iteT ⟨_, rfl, k⟩
end
end CP

end
section
set_option autoImplicit false
set_option Elab.async false
set_option linter.all false
set_option maxRecDepth 100000
set_option maxHeartbeats 4000000
/-! ## a reader's methods that change it -/
namespace CP
open PySem L2 G Y
open TL TX
abbrev sRHead : Stmt := inClass (S.top 45) 5
abbrev sRTun : Stmt := inClass (S.top 45) 7
abbrev sREnd : Stmt := inClass (S.top 45) 8
section
variable {CR CB CW : Addr}
theorem frs_ne {H0 H : Hp} {st : List Fr} {n : Nat} {x dx b : Addr} {p : Addr × Addr} {ps : List (Addr × Addr)} (h : RdP CR CB CW H0 H st n x dx b (p :: ps)) : ∀ q ∈ ps, q.1 ≠ p.1 ∧ q.2 ≠ p.2 := fun q hq => by
  have a := List.nodup_cons.mp (List.nodup_cons.mp h.nf).2
  have c := List.nodup_cons.mp (List.nodup_cons.mp h.nd).2
  exact ⟨fun z => a.1 (z ▸ List.mem_map.mpr ⟨q, hq, rfl⟩), fun z => c.1 (z ▸ List.mem_map.mpr ⟨q, hq, rfl⟩)⟩
/-- the top's object is written -/
theorem rd_obj (n1 : CW ≠ CB) (n2 : CW ≠ CR) {H0 H : Hp} {f g : Fr} {r : List Fr} {n : Nat} {x dx b dxf : Addr} {p : Addr × Addr} {ps : List (Addr × Addr)} (h : RdP CR CB CW H0 H (f :: r) n x dx b (p :: ps)) (e : g.out = f.out) (e2 : g.steps = f.steps)
    (hp : ∃ fs, H p.1 = some (.ins CB dxf fs)) : RdP CR CB CW H0 (upd H p.1 (.ins CB dxf (bf g.out (hdV g.head) p.2))) (g :: r) n x dx b (p :: ps) := by
  obtain ⟨fs, hp⟩ := hp
  obtain ⟨a1, a2⟩ := h.apart
  obtain ⟨c1, c2, c3, c4, c5⟩ := a2 p List.mem_cons_self
  obtain ⟨p', qs, e0, g1, g2⟩ := stk_cons h.stk
  cases e0
  obtain ⟨dxg, xs, w1, w2, w3⟩ := g1.ex
  have kp : KeepW CB CR H (upd H p.1 (.ins CB dxf (bf g.out (hdV g.head) p.2))) := keepW_b hp
  refine ⟨by rw [upd_ne c4.symm]; exact h.hx, by rw [upd_ne c1.symm]; exact h.hb, ⟨p, ps, rfl, ⟨dxf, xs, upd_same, ?_, ?_⟩, g2.move n1 n2 kp fun q hq => ⟨upd_ne (frs_ne h q hq).1, upd_ne (c5 q (List.mem_cons_of_mem _ hq)).symm⟩⟩, h.nd, h.nf, h.fx, h.fb, h.fp, add_upd (h.fp p List.mem_cons_self).1 h.sm⟩
  · rw [upd_ne (c5 p List.mem_cons_self).symm]
    exact w2
  · rw [e2]
    exact steps_keepW n1 n2 kp w3
/-- a step behind the top's steps -/
theorem rd_put (n1 : CW ≠ CB) (n2 : CW ≠ CR) {H0 H : Hp} {f : Fr} {r : List Fr} {n : Nat} {x dx b : Addr} {p : Addr × Addr} {ps : List (Addr × Addr)} {xs : List V} {s : M.Step} {v : V} (h : RdP CR CB CW H0 H (f :: r) n x dx b (p :: ps)) (hl : H p.2 = some (.lst xs)) (hs : WP.StepAt CW H s v) :
    RdP CR CB CW H0 (upd H p.2 (.lst (xs ++ [v]))) ({ f with steps := f.steps ++ [s] } :: r) n x dx b (p :: ps) := by
  obtain ⟨a1, a2⟩ := h.apart
  obtain ⟨c1, c2, c3, c4, c5⟩ := a2 p List.mem_cons_self
  obtain ⟨p', qs, e0, g1, g2⟩ := stk_cons h.stk
  cases e0
  obtain ⟨dxg, ys, w1, w2, w3⟩ := g1.ex
  rw [hl] at w2
  cases w2
  have kp : KeepW CB CR H (upd H p.2 (.lst (xs ++ [v]))) := keepW_lst hl
  refine ⟨by rw [upd_ne c2.symm]; exact h.hx, by rw [upd_ne c3.symm]; exact h.hb, ⟨p, ps, rfl, ⟨dxg, xs ++ [v], ?_, upd_same, (steps_keepW n1 n2 kp w3).snoc (step_keepW n1 n2 kp hs)⟩, g2.move n1 n2 kp fun q hq => ⟨upd_ne ?_, upd_ne (frs_ne h q hq).2⟩⟩, h.nd, h.nf, h.fx, h.fb, h.fp, add_upd (h.fp p List.mem_cons_self).2 h.sm⟩
  · rw [upd_ne (c5 p List.mem_cons_self)]
    exact w1
  · exact (a2 q (List.mem_cons_of_mem _ hq)).2.2.2.2 p List.mem_cons_self
theorem rd_size (n1 : CW ≠ CB) (n2 : CW ≠ CR) {H0 H : Hp} {st : List Fr} {n m : Nat} {x dx b : Addr} {ps : List (Addr × Addr)} (h : RdP CR CB CW H0 H st n x dx b ps) : RdP CR CB CW H0 (upd H x (.ins CR dx (rf b (m : Int)))) st m x dx b ps := by
  obtain ⟨a1, a2⟩ := h.apart
  refine ⟨upd_same, by rw [upd_ne a1]; exact h.hb, h.stk.move n1 n2 (keepW_r h.hx) fun q hq => ⟨upd_ne (a2 q hq).2.2.2.1, upd_ne (a2 q hq).2.1⟩, h.nd, h.nf, h.fx, h.fb, h.fp, add_upd h.fx h.sm⟩
/-- a new way on the stack -/
theorem rd_push (n1 : CW ≠ CB) (n2 : CW ≠ CR) {H0 H : Hp} {st : List Fr} {g : Fr} {n : Nat} {x dx b a s : Addr} {ps : List (Addr × Addr)} (h : RdP CR CB CW H0 H st n x dx b ps) (hg : FrAt CB CW H g a s) (na : H0 a = none) (ns : H0 s = none)
    (fa : a ∉ ps.map Prod.fst) (fs : s ∉ ps.map Prod.snd) (hsb : s ≠ b) (hax : a ≠ x) : RdP CR CB CW H0 (upd H b (.lst (bgV ps ++ [.ref a]))) (g :: st) n x dx b ((a, s) :: ps) := by
  obtain ⟨a1, a2⟩ := h.apart
  obtain ⟨dxg, xs, w1, w2, w3⟩ := hg.ex
  have kp : KeepW CB CR H (upd H b (.lst (bgV ps ++ [.ref a]))) := keepW_lst h.hb
  have ab : a ≠ b := fun z => by rw [z, h.hb] at w1; cases w1
  have sx : s ≠ x := fun z => by rw [z, h.hx] at w2; cases w2
  have sb : s ≠ b := fun z => hsb z
  have ax : a ≠ x := fun z => hax z
  refine ⟨by rw [upd_ne a1.symm]; exact h.hx, by rw [upd_same, bg_cons], ⟨(a, s), ps, rfl, ⟨dxg, xs, by rw [upd_ne ab]; exact w1, by rw [upd_ne sb]; exact w2, steps_keepW n1 n2 kp w3⟩, h.stk.move n1 n2 kp fun q hq => ⟨upd_ne (a2 q hq).1, upd_ne (a2 q hq).2.2.1⟩⟩, ?_, ?_, h.fx, h.fb, fun q hq => ?_, add_upd h.fb h.sm⟩
  · have d := List.nodup_cons.mp h.nd
    refine List.nodup_cons.mpr ⟨fun z => ?_, List.nodup_cons.mpr ⟨fs, d.2⟩⟩
    rcases List.mem_cons.mp z with e | e
    · exact sb e.symm
    · exact d.1 e
  · have d := List.nodup_cons.mp h.nf
    refine List.nodup_cons.mpr ⟨fun z => ?_, List.nodup_cons.mpr ⟨fa, d.2⟩⟩
    rcases List.mem_cons.mp z with e | e
    · exact ax e.symm
    · exact d.1 e
  · rcases List.mem_cons.mp hq with e | e
    · rw [e]
      exact ⟨na, ns⟩
    · exact h.fp q e
theorem bg_last (p : Addr × Addr) (ps : List (Addr × Addr)) : (bgV (p :: ps))[(bgV (p :: ps)).length - 1]? = some (.ref p.1) ∧ (bgV (p :: ps)).dropLast = bgV ps := by
  rw [bg_cons]
  refine ⟨by simp, by simp⟩
theorem rd_pop (n1 : CW ≠ CB) (n2 : CW ≠ CR) {H0 H : Hp} {f : Fr} {r : List Fr} {n : Nat} {x dx b : Addr} {p : Addr × Addr} {ps : List (Addr × Addr)} (h : RdP CR CB CW H0 H (f :: r) n x dx b (p :: ps)) : RdP CR CB CW H0 (upd H b (.lst (bgV ps))) r n x dx b ps := by
  obtain ⟨a1, a2⟩ := h.apart
  obtain ⟨p', qs, e0, g1, g2⟩ := stk_cons h.stk
  cases e0
  have c := List.nodup_cons.mp h.nf
  have d := List.nodup_cons.mp h.nd
  refine ⟨by rw [upd_ne a1.symm]; exact h.hx, upd_same, g2.move n1 n2 (keepW_lst h.hb) fun q hq => ⟨upd_ne (a2 q (List.mem_cons_of_mem _ hq)).1, upd_ne (a2 q (List.mem_cons_of_mem _ hq)).2.2.1⟩, ?_, ?_, h.fx, h.fb, fun q hq => h.fp q (List.mem_cons_of_mem _ hq), add_upd h.fb h.sm⟩
  · exact List.nodup_cons.mpr ⟨fun z => d.1 (List.mem_cons_of_mem _ z), (List.nodup_cons.mp d.2).2⟩
  · exact List.nodup_cons.mpr ⟨fun z => c.1 (List.mem_cons_of_mem _ z), (List.nodup_cons.mp c.2).2⟩
end
section
variable {P : Program} {w : World} {K : PySem.W.Frag} {mg : Str → Option Value} {base : Heap} {CR CB CW : Addr}
def spTHead (CR CB CW : Addr) : Sp := fun vs H Q _ => ∃ (x l : Addr) (f : Fr) (r : List Fr) (n h : Nat) (H0 : Hp), vs = [.ref x, .ref l] ∧ RdAt CR CB CW H0 H (f :: r) n x ∧ H l = some (.lst (sv (headW h))) ∧ 1 ≤ h ∧ h ≤ 40 ∧ ∀ H', RdAt CR CB CW H0 H' ({ f with head := some h } :: r) n x → Q (.bl true) H'
theorem scRh : FnScope ["self", "words", "begun"] ["self", "words"] (defScope sRHead) := ⟨rfl, rfl, rfl, by decide +kernel, rfl, by decide +kernel, by decide +kernel⟩
theorem ok_thead (n1 : CW ≠ CB) (n2 : CW ≠ CR) {f : Addr} {fd : FuncData} (F : Fun K "_takes_head" "Reader._takes_head" sRHead f fd) (B : Bn mg) (T : Rt K mg CR) (TB : Bt K mg CB) (DW : Df P w K mg base 1 "written_integer" ["word"] spWritten) (DH : Df P w K mg base 3 "is_head" ["value"] (WP.spIn1 1 40)) : FnOk P w K mg base CX0 4 f fd ["self", "words"] (spTHead CR CB CW) := by
  obtain ⟨fW, fdW, GW, gW, kW, bW⟩ := DW.ex
  obtain ⟨fH, fdH, GH, gH, kH, bH⟩ := DH.ex
  refine F.ok scRh (fun vs H Q E h => ?_) (fun cdv A outer s H vs Q E hr h => ?_)
  · obtain ⟨x, l, f, r, n, h, H0, rfl, _⟩ := h
    rfl
  · obtain ⟨x, l, f, r, n, h, H0, rfl, ⟨dx, b, ps, hR⟩, hl, h1, h2, k⟩ := h
    refine ⟨_, pss_cons (ps_if (PW.pt (pw_or (pt_cmpR (op_ne) (pe_callB call_len_seq (by rfl) B.len PySem.boot_len (pa_cons (pv 1) pa_nil)) (pe_int) (nomark _)) (pw_or (pt_cmpR (op_ne) (pe_ix ix_list (pv 1) (pe_int) (fun _ _ => rfl)) (pe_str) (nomark _)) (pw_or1 (pt_not (pt_val (pe_call GH (hr.mono (by omega)) rfl gH kH bH .nil pass0 (pa_cons (pe_call GW (hr.mono (by omega)) rfl gW kW bW .nil pass0 (pa_cons (pe_ix ix_list (pv 1) (pe_int) (fun _ _ => rfl)) pa_nil)) pa_nil)))))))) (pss_one (ps_ret (pe_bl))) (pss_nil))
      (pss_cons (ps_set (i := 2) scRh.nd rfl (Or.inl rfl) (pe_ix ix_list (pe_fld (pv 0) rfl) (pe_un un_neg (pe_int)) (fun _ _ => rfl)))
      (pss_cons (ps_fld (pv 2) (pe_call GW (hr.mono (by omega)) rfl gW kW bW .nil pass0 (pa_cons (pe_ix ix_list (pv 1) (pe_int) (fun _ _ => rfl)) pa_nil)) rfl)
      (pss_one (ps_ret (pe_bl))))), ?_⟩
    have hq := SqL.of (K := K) hl
    refine ⟨_, rfl, l, _, rfl, .inl hq, rfl, _, rfl, iteNS rfl ?_⟩
    refine ⟨_, rfl, l, _, _, _, rfl, rfl, hq, at_k0, rfl, _, rfl, ?_⟩
    refine iteNS (congrArg V.str k_head.symm) ⟨_, rfl, l, _, _, _, rfl, rfl, hq, at_k1, TX.S (numL h), h, rfl, tl_S _, h1, by omega, fun H1 s1 => ?_⟩
    refine ⟨(h : Int), rfl, _, rfl, ?_⟩
    rw [decide_eq_true (by omega)]
    refine iteF ?_
    have hR1 := hR.same s1
    obtain ⟨p, qs, rfl, g1, g2⟩ := stk_cons hR1.stk
    refine set_then (i := 2) (rd_top T rfl hR1 ?_)
    refine ⟨_, rfl, l, _, _, _, rfl, rfl, SqL.of (K := K) (s1 _ _ hl), at_k1, TX.S (numL h), h, rfl, tl_S _, h1, by omega, fun H2 s2 => ?_⟩
    have hR2 := hR1.same s2
    obtain ⟨p', qs', e0, g1', g2'⟩ := stk_cons hR2.stk
    cases e0
    obtain ⟨dxf, xs, w1, w2, w3⟩ := g1'.ex
    refine ⟨_, rfl, p.1, CB, dxf, _, rfl, w1, TB.cl, TB.nH, bf_len _ _ _, ?_⟩
    rw [bf_head]
    exact k _ ⟨dx, b, p :: qs, rd_obj n1 n2 (g := { f with head := some h }) hR2 rfl rfl ⟨_, w1⟩⟩
/-- Reader._end_inner -/
def spREnd (CR CB CW : Addr) : Sp := fun vs H Q _ => ∃ (x : Addr) (c a : Fr) (r : List Fr) (n h m : Nat) (t : M.TW) (H0 : Hp), vs = [.ref x] ∧ RdAt CR CB CW H0 H (c :: a :: r) n x ∧ c.out = some (m, t) ∧ c.head = some h ∧ M.Way.fine (.mk h c.steps) ∧ a.steps.length ≤ 100 ∧
  ∀ H', RdAt CR CB CW H0 H' ({ a with steps := a.steps ++ [.tunnel (.mk h c.steps) m t] } :: r) n x → Q .non H'
theorem scRe : FnScope ["self", "inner", "around"] ["self"] (defScope sREnd) := ⟨rfl, rfl, rfl, by decide +kernel, rfl, by decide +kernel, by decide +kernel⟩
theorem ok_rend (n1 : CW ≠ CB) (n2 : CW ≠ CR) {f : Addr} {fd : FuncData} (F : Fun K "_end_inner" "Reader._end_inner" sREnd f fd) (T : Rt K mg CR) (TB : Bt K mg CB) (TW : WP.Wt K mg CW) (MW : WP.Mw P w K mg base CW) : FnOk P w K mg base CX0 8 f fd ["self"] (spREnd CR CB CW) := by
  obtain ⟨fI, fdI, GI, MI, bI⟩ := MW.ex
  have gI := TW.g
  refine F.ok scRe (fun vs H Q E h => ?_) (fun cdv A outer s H vs Q E hr h => ?_)
  · obtain ⟨x, c, a, r, n, h, m, t, H0, rfl, _⟩ := h
    rfl
  · obtain ⟨x, c, a, r, n, h, m, t, H0, rfl, ⟨dx, b, ps, hR⟩, e1, e2, hf, la, k⟩ := h
    refine ⟨_, pss_cons (ps_set (i := 1) scRe.nd rfl (Or.inl rfl) (pe_bm0 PySem.F.plainAttrs_list PySem.F.slot_list_pop PySem.F.type_list_pop mt_pop (pe_fld (pv 0) rfl)))
      (pss_cons (ps_set (i := 2) scRe.nd rfl (Or.inl rfl) (pe_ix ix_list (pe_fld (pv 0) rfl) (pe_un un_neg (pe_int)) (fun _ _ => rfl)))
      (pss_one (ps_expr (pe_bm PySem.F.plainAttrs_list PySem.F.slot_list_append PySem.F.type_list_append mt_append (pe_fld (pv 2) rfl) (pa_cons (pe_tup (pa_cons (pe_str) (pa_cons (pe_make MI GI (hr.mono (by omega)) rfl gI bI .nil pass0 (pa_cons (pe_fld (pv 1) rfl) (pa_cons (pe_fld (pv 1) rfl) pa_nil))) (pa_cons (pe_fld (pv 1) rfl) (pa_cons (pe_fld (pv 1) rfl) pa_nil))))) pa_nil))))), ?_⟩
    obtain ⟨p, qs, rfl, g1, g2⟩ := stk_cons hR.stk
    obtain ⟨p2, qs2, rfl, g3, g4⟩ := stk_cons g2
    obtain ⟨dxf, xs, w1, w2, w3⟩ := g1.ex
    obtain ⟨a1, a2⟩ := hR.apart
    obtain ⟨c1, c2, c3, c4, c5⟩ := a2 p List.mem_cons_self
    refine set_then (i := 1) (rd_begun T rfl hR ⟨.inl ⟨rfl, _, SqL.of hR.hb⟩, b, _, .ref p.1, rfl, rfl, hR.hb, (bg_last p _).1, ?_⟩)
    rw [(bg_last p _).2]
    have kp : KeepW CB CR H (upd H b (.lst (bgV (p2 :: qs2)))) := keepW_lst hR.hb
    have hP := rd_pop n1 n2 hR
    have v1 : upd H b (.lst (bgV (p2 :: qs2))) p.1 = some (.ins CB dxf (bf c.out (hdV c.head) p.2)) := by rw [upd_ne c1]; exact w1
    have v2 : upd H b (.lst (bgV (p2 :: qs2))) p.2 = some (.lst xs) := by rw [upd_ne c3]; exact w2
    have v3 := steps_keepW n1 n2 kp w3
    generalize upd H b (.lst (bgV (p2 :: qs2))) = H1 at hP v1 v2 v3 ⊢
    refine set_then (i := 2) (rd_top T rfl hP ?_)
    obtain ⟨p3, qs3, e3, g5, g6⟩ := stk_cons hP.stk
    cases e3
    obtain ⟨dx2, ys, u1, u2, u3⟩ := g5.ex
    rw [e1, e2] at v1
    refine ⟨_, rfl, p2.1, CB, dx2, _, _, rfl, u1, TB.cl, TB.nS, bf_look.2.2.2, .inl ⟨rfl, _, SqL.of u2⟩, ?_⟩
    refine ⟨_, rfl, p.1, CB, dxf, _, _, rfl, v1, TB.cl, TB.nH, bf_look.2.2.1, _, rfl, p.1, CB, dxf, _, _, rfl, v1, TB.cl, TB.nS, bf_look.2.2.2, ?_⟩
    intro y dy hy hdy ne
    refine ⟨y, p.2, dy, h, xs, c.steps, H1, rfl, upd_same, hy, (of_upd hdy).trans (of_upd (by rw [upd_ne ne.symm]; exact hy)), .inl v2, v3, hf, fun H2 s2 wa => ⟨rfl, ?_⟩⟩
    have v1' := s2 _ _ v1
    refine ⟨_, rfl, p.1, CB, dxf, _, _, rfl, v1', TB.cl, TB.nM, bf_look.1, _, rfl, p.1, CB, dxf, _, _, rfl, v1', TB.cl, TB.nT, bf_look.2.1, (by show 4 ≤ sizeLine; decide), fun u hu => ?_⟩
    have s3 := s2.trans (of_upd (o := .tup [.str "tunnel", .ref y, .int (m : Int), .str (WP.twS t)]) hu)
    have hS : WP.StepAt CW (upd H2 u (.tup [.str "tunnel", .ref y, .int (m : Int), .str (WP.twS t)])) (.tunnel (.mk h c.steps) m t) (.ref u) := by
      unfold WP.StepAt
      exact ⟨u, y, rfl, upd_same, wa.mono (of_upd hu)⟩
    refine ⟨p2.2, ys, _, rfl, rfl, s3 _ _ u2, small1000 (by rw [u3.len]; omega), ?_⟩
    exact k _ ⟨dx, b, p2 :: qs2, rd_put n1 n2 (hP.same s3) (s3 _ _ u2) hS⟩
/-- Reader._takes_tunnel -/
def spRTun (CR CB CW : Addr) : Sp := fun vs H Q _ => ∃ (x l : Addr) (st : List Fr) (n m : Nat) (t : M.TW) (H0 : Hp), vs = [.ref x, .ref l] ∧ RdAt CR CB CW H0 H st n x ∧ H l = some (.lst (sv [cTun, numL m, TX.tw t])) ∧ 1 ≤ m ∧ m ≤ 1000000000000 ∧ st.length ≤ 2 ∧ n < 40 ∧
  ∀ H', RdAt CR CB CW H0 H' (⟨some (m, t), none, []⟩ :: st) n x → Q (.bl true) H'
theorem scRu : FnScope ["self", "words"] ["self", "words"] (defScope sRTun) := ⟨rfl, rfl, rfl, by decide +kernel, rfl, by decide +kernel, by decide +kernel⟩
theorem ok_rtun (n1 : CW ≠ CB) (n2 : CW ≠ CR) {f : Addr} {fd : FuncData} (F : Fun K "_takes_tunnel" "Reader._takes_tunnel" sRTun f fd) (B : Bn mg) (T : Rt K mg CR) (TB : Bt K mg CB) (TW : WP.Wt K mg CW) (DW : Df P w K mg base 1 "written_integer" ["word"] spWritten) (DM : Df P w K mg base 3 "is_most" ["value"] (WP.spIn1 1 1000000000000)) (DT : Df P w K mg base 1 "is_tells" ["value"] WP.spTells) (MB : Mn P w K mg base CB 1 ["self", "most", "tells"] (spBInit CB CW)) : FnOk P w K mg base CX0 4 f fd ["self", "words"] (spRTun CR CB CW) := by
  obtain ⟨fW, fdW, GW, gW, kW, bW⟩ := DW.ex
  obtain ⟨fM, fdM, GM, gM, kM, bM⟩ := DM.ex
  obtain ⟨fT, fdT, GT, gT, kT, bT⟩ := DT.ex
  obtain ⟨fB, fdB, GB, MB, bB⟩ := MB.ex
  have gB := TB.g
  obtain ⟨t1, q1⟩ := TW.gDepth
  obtain ⟨t2, q2⟩ := TW.gSize
  refine F.ok scRu (fun vs H Q E h => ?_) (fun cdv A outer s H vs Q E hr h => ?_)
  · obtain ⟨x, l, st, n, m, t, H0, rfl, _⟩ := h
    rfl
  · obtain ⟨x, l, st, n, m, t, H0, rfl, ⟨dx, b, ps, hR⟩, hl, h1, h2, hd, hn, k⟩ := h
    refine ⟨_, pss_cons (ps_if (PW.pt (pw_or (pt_cmpR (op_ne) (pe_callB call_len_seq (by rfl) B.len PySem.boot_len (pa_cons (pv 1) pa_nil)) (pe_int) (nomark _)) (pw_or (pt_not (pt_val (pe_call GM (hr.mono (by omega)) rfl gM kM bM .nil pass0 (pa_cons (pe_call GW (hr.mono (by omega)) rfl gW kW bW .nil pass0 (pa_cons (pe_ix ix_list (pv 1) (pe_int) (fun _ _ => rfl)) pa_nil)) pa_nil)))) (pw_or1 (pt_not (pt_val (pe_call GT (hr.mono (by omega)) rfl gT kT bT .nil pass0 (pa_cons (pe_ix ix_list (pv 1) (pe_int) (fun _ _ => rfl)) pa_nil)))))))) (pss_one (ps_ret (pe_bl))) (pss_nil))
      (pss_cons (ps_expr (pe_bm PySem.F.plainAttrs_list PySem.F.slot_list_append PySem.F.type_list_append mt_append (pe_fld (pv 0) rfl) (pa_cons (pe_make MB GB (hr.mono (by omega)) rfl gB bB .nil pass0 (pa_cons (pe_call GW (hr.mono (by omega)) rfl gW kW bW .nil pass0 (pa_cons (pe_ix ix_list (pv 1) (pe_int) (fun _ _ => rfl)) pa_nil)) (pa_cons (pe_ix ix_list (pv 1) (pe_int) (fun _ _ => rfl)) pa_nil))) pa_nil)))
      (pss_one (ps_ret (pe_and (pe_cmpR (op_le) (pe_callB call_len_seq (by rfl) B.len PySem.boot_len (pa_cons (pe_fld (pv 0) rfl) pa_nil)) (pe_glob (v := .int 3) rfl q1 ⟨_, rfl⟩) (nomark _)) (pe_one (pe_cmpR (op_lt) (pe_fld (pv 0) rfl) (pe_glob (v := .int 40) rfl q2 ⟨_, rfl⟩) (nomark _))))))), ?_⟩
    have hq := SqL.of (K := K) hl
    refine ⟨_, rfl, l, _, rfl, .inl hq, rfl, _, rfl, iteNS rfl ?_⟩
    refine ⟨_, rfl, l, _, _, _, rfl, rfl, hq, at_k1, TX.S (numL m), m, rfl, tl_S _, h1, by omega, fun H1 s1 => ?_⟩
    refine ⟨(m : Int), rfl, _, rfl, ?_⟩
    rw [decide_eq_true (by omega)]
    refine iteF ?_
    refine ⟨_, rfl, l, _, _, _, rfl, rfl, SqL.of (s1 _ _ hl), at_k2, t, ?_, _, rfl, iteF ?_⟩
    · rw [k_tw]
      rfl
    have hR1 := hR.same s1
    refine ⟨_, rfl, x, CR, dx, _, _, rfl, hR1.hx, T.cl, T.nB, rf_look.1, .inl ⟨rfl, _, SqL.of hR1.hb⟩, ?_⟩
    refine ⟨_, rfl, l, _, _, _, rfl, rfl, SqL.of (s1 _ _ hl), at_k1, TX.S (numL m), m, rfl, tl_S _, h1, by omega, fun H2 s2 => ?_⟩
    have s12 := s1.trans s2
    refine ⟨_, rfl, l, _, _, _, rfl, rfl, SqL.of (s12 _ _ hl), at_k2, ?_⟩
    intro a dxa ha hdxa nea
    refine ⟨a, dxa, some (m, t), H2, ?_, upd_same, ha, (of_upd hdxa).trans (of_upd (by rw [upd_ne nea.symm]; exact ha)), fun s1' H3 g1 hs wa => ⟨rfl, ?_⟩⟩
    · show _ = [V.ref a, .int (m : Int), .str (WP.twS t)]
      rw [k_tw]
      rfl
    have hR2 := hR.same s12
    have hR3 := hR2.same g1
    have nin : ∀ {y : Addr}, H2 y = none → ∀ p ∈ ps, p.1 ≠ y ∧ p.2 ≠ y := fun {y} hy p hp => by
      have kd : ∀ {st : List Fr} {ps : List (Addr × Addr)}, StkAt CB CW H2 st ps → ∀ p ∈ ps, p.1 ≠ y ∧ p.2 ≠ y := fun {st} => by
        induction st with
        | nil =>
          intro ps h p hp
          have e : ps = [] := h
          rw [e] at hp
          cases hp
        | cons f r ih =>
          intro ps h p hp
          obtain ⟨q, qs, rfl, h1, h2⟩ := h
          rcases List.mem_cons.mp hp with e | e
          · rw [e]
            obtain ⟨dx, xs, a1, a2, _⟩ := h1.ex
            exact ⟨(fun z => by rw [z, hy] at a1; cases a1), (fun z => by rw [z, hy] at a2; cases a2)⟩
          · exact ih h2 p e
      exact kd hR2.stk p hp
    have ll := hR3.stk.len
    refine ⟨b, _, _, rfl, rfl, hR3.hb, small1000 (by rw [bg_len]; omega), ?_⟩
    have hR4 := rd_push n1 n2 hR3 wa (hR2.sm.free ha) (hR2.sm.free hs) (fun z => by
      obtain ⟨p, hp, e⟩ := List.mem_map.mp z
      exact (nin ha p hp).1 e) (fun z => by
      obtain ⟨p, hp, e⟩ := List.mem_map.mp z
      exact (nin hs p hp).2 e) (fun z => by
      have := hR2.hb
      rw [← z, hs] at this
      cases this) (fun z => by
      have := hR2.hx
      rw [← z, ha] at this
      cases this)
    generalize upd H3 b (.lst (bgV ps ++ [V.ref a])) = H4 at hR4 ⊢
    refine ⟨_, rfl, x, CR, dx, _, _, rfl, hR4.hx, T.cl, T.nB, rf_look.1, b, _, rfl, .inl (SqL.of hR4.hb), _, _, rfl, rfl, _, rfl, ?_⟩
    rw [decide_eq_true (show (((bgV ((a, s1') :: ps)).length : Nat) : Int) ≤ 3 by rw [bg_len, List.length_cons]; omega)]
    refine iteT ⟨_, rfl, x, CR, dx, _, _, rfl, hR4.hx, T.cl, T.nS, rf_look.2, _, _, rfl, rfl, ?_⟩
    show Q (.bl (decide ((n : Int) < 40))) H4
    rw [decide_eq_true (by omega)]
    exact k H4 ⟨dx, b, _, hR4⟩
end
end CP

end
section
set_option autoImplicit false
set_option Elab.async false
set_option linter.all false
set_option maxRecDepth 100000
set_option maxHeartbeats 4000000
/-! ## a line is taken; the way that was read -/
namespace TX
theorem Closes.le {lv : Nat} {st st' : List Fr} (c : Closes lv st st') : lv + 1 ≤ st.length := by
  induction c with
  | done h => omega
  | close h _ _ _ _ ih =>
    rw [List.length_cons, List.length_cons] at h ⊢
    omega
theorem Closes.few {lv : Nat} {g f : Fr} {r r2 : List Fr} (c : Closes lv (g :: r) (f :: r2)) (h : f.steps.length ≤ 12) : g.steps.length ≤ 12 := by
  cases c with
  | done _ => omega
  | close _ _ _ hf _ =>
    unfold M.Way.fine at hf
    exact hf.2.1.2
end TX
namespace CP
open PySem L2 G Y
open TL TX
abbrev sRStep : Stmt := inClass (S.top 45) 6
abbrev sRTakes : Stmt := inClass (S.top 45) 1
abbrev sRWay : Stmt := inClass (S.top 45) 3
section
variable {CR CB CW : Addr}
/-- something more that stays -/
theorem RdAt.more {H0 H : Hp} {st : List Fr} {n : Nat} {x l : Addr} {o : HO} (h : RdAt CR CB CW H0 H st n x) (hl : H l = none) : RdAt CR CB CW (upd H0 l o) (upd H l o) st n x := by
  obtain ⟨dx, b, ps, h⟩ := h
  have kd : ∀ {st : List Fr} {ps : List (Addr × Addr)}, StkAt CB CW H st ps → ∀ p ∈ ps, p.1 ≠ l ∧ p.2 ≠ l := fun {st} => by
    induction st with
    | nil =>
      intro ps h p hp
      have e : ps = [] := h
      rw [e] at hp
      cases hp
    | cons f r ih =>
      intro ps h p hp
      obtain ⟨q, qs, rfl, h1, h2⟩ := h
      rcases List.mem_cons.mp hp with e | e
      · rw [e]
        obtain ⟨dx, xs, a1, a2, _⟩ := h1.ex
        exact ⟨(fun z => by rw [z, hl] at a1; cases a1), (fun z => by rw [z, hl] at a2; cases a2)⟩
      · exact ih h2 p e
  have k := kd h.stk
  have xl : x ≠ l := fun z => by
    have := h.hx
    rw [z, hl] at this
    cases this
  have bl : b ≠ l := fun z => by
    have := h.hb
    rw [z, hl] at this
    cases this
  have s := of_upd (o := o) hl
  refine ⟨dx, b, ps, s _ _ h.hx, s _ _ h.hb, h.stk.same s, h.nd, h.nf, by rw [upd_ne xl]; exact h.fx, by rw [upd_ne bl]; exact h.fb, fun p hp => ⟨by rw [upd_ne (k p hp).1]; exact (h.fp p hp).1, by rw [upd_ne (k p hp).2]; exact (h.fp p hp).2⟩, fun a u e => ?_⟩
  by_cases z : a = l
  · subst z
    rw [upd_same] at e ⊢
    exact e
  · rw [upd_ne z] at e ⊢
    exact h.sm a u e
theorem RdAt.less {H0 H1 H : Hp} {st : List Fr} {n : Nat} {x : Addr} (s : Same H0 H1) (h : RdAt CR CB CW H1 H st n x) : RdAt CR CB CW H0 H st n x := by
  obtain ⟨dx, b, ps, h⟩ := h
  exact ⟨dx, b, ps, h.hx, h.hb, h.stk, h.nd, h.nf, s.free h.fx, s.free h.fb, fun p hp => ⟨s.free (h.fp p hp).1, s.free (h.fp p hp).2⟩, s.trans h.sm⟩
theorem RdAt.sm {H0 H : Hp} {st : List Fr} {n : Nat} {x : Addr} (h : RdAt CR CB CW H0 H st n x) : Same H0 H := by
  obtain ⟨dx, b, ps, h⟩ := h
  exact h.sm
theorem RdAt.ins {H0 H : Hp} {st : List Fr} {n : Nat} {x : Addr} (h : RdAt CR CB CW H0 H st n x) : ∃ dx b, H x = some (.ins CR dx (rf b (n : Int))) := by
  obtain ⟨dx, b, ps, h⟩ := h
  exact ⟨dx, b, h.hx⟩
end
section
variable {P : Program} {w : World} {K : PySem.W.Frag} {mg : Str → Option Value} {base : Heap} {CR CB CW : Addr}
def spRStep (CR CB CW : Addr) : Sp := fun vs H Q _ => ∃ (x l : Addr) (f : Fr) (r : List Fr) (n : Nat) (li : Li) (H0 : Hp), vs = [.ref x, .ref l] ∧ RdAt CR CB CW H0 H (f :: r) n x ∧ H l = some (.lst (sv (liW li))) ∧ H0 l = some (.lst (sv (liW li))) ∧ f.steps.length < 12 ∧
  ((∃ s h, li = .plain s ∧ f.head = some h ∧ ¬ isTun s ∧ s.fine h ∧ n < 40 ∧ ∀ H', RdAt CR CB CW H0 H' ({ f with steps := f.steps ++ [s] } :: r) (n + 1) x → Q (.bl true) H') ∨
   (∃ m t, li = .tun m t ∧ 1 ≤ m ∧ m ≤ 1000000000000 ∧ n + 1 < 40 ∧ r.length + 2 ≤ 3 ∧ ∀ H', RdAt CR CB CW H0 H' (⟨some (m, t), none, []⟩ :: f :: r) (n + 1) x → Q (.bl true) H'))
theorem scRs : FnScope ["self", "words", "begun", "step"] ["self", "words"] (defScope sRStep) := ⟨rfl, rfl, rfl, by decide +kernel, rfl, by decide +kernel, by decide +kernel⟩
theorem ok_rstep (n1 : CW ≠ CB) (n2 : CW ≠ CR) {f : Addr} {fd : FuncData} (F : Fun K "_takes_step" "Reader._takes_step" sRStep f fd) (B : Bn mg) (T : Rt K mg CR) (TB : Bt K mg CB) (TW : WP.Wt K mg CW) (DS : Df P w K mg base 4 "_step" ["words", "head"] (spTStep CW)) (MU : Mr P w K mg base CR 4 "_takes_tunnel" ["self", "words"] (spRTun CR CB CW)) : FnOk P w K mg base CX0 5 f fd ["self", "words"] (spRStep CR CB CW) := by
  obtain ⟨fS, fdS, GS, gS, kS, bS⟩ := DS.ex
  obtain ⟨fU, fdU, GU, mU, bU⟩ := MU.ex
  obtain ⟨t1, q1⟩ := TW.gSteps
  obtain ⟨t2, q2⟩ := TW.gSize
  refine F.ok scRs (fun vs H Q E h => ?_) (fun cdv A outer s H vs Q E hr h => ?_)
  · obtain ⟨x, l, f, r, n, li, H0, rfl, _⟩ := h
    rfl
  · obtain ⟨x, l, f, r, n, li, H0, rfl, ⟨dx, b, ps, hR⟩, hl, hl0, h12, hh⟩ := h
    refine ⟨_, pss_cons (ps_set (i := 2) scRs.nd rfl (Or.inl rfl) (pe_ix ix_list (pe_fld (pv 0) rfl) (pe_un un_neg (pe_int)) (fun _ _ => rfl)))
      (pss_cons (ps_if (PW.pt (pw_or (pt_cmpR (op_eq) (pe_callB call_len_seq (by rfl) B.len PySem.boot_len (pa_cons (pe_fld (pv 2) rfl) pa_nil)) (pe_glob (v := .int 12) rfl q1 ⟨_, rfl⟩) (nomark _)) (pw_or1 (pt_cmpR (op_eq) (pe_fld (pv 0) rfl) (pe_glob (v := .int 40) rfl q2 ⟨_, rfl⟩) (nomark _))))) (pss_one (ps_ret (pe_bl))) (pss_nil))
      (pss_cons (ps_fld (pv 0) (pe_op (op_add) (pe_fld (pv 0) rfl) (pe_int)) rfl)
      (pss_cons (ps_if (pt_cmpR (op_eq) (pe_ix ix_list (pv 1) (pe_int) (fun _ _ => rfl)) (pe_str) (nomark _)) (pss_one (ps_ret (pe_meth (pv 0) T.cl mU GU (hr.mono (by omega)) bU .nil pass0 (pa_cons (pv 1) pa_nil)))) (pss_nil))
      (pss_cons (ps_set (i := 3) scRs.nd rfl (Or.inl rfl) (pe_call GS (hr.mono (by omega)) rfl gS kS bS .nil pass0 (pa_cons (pv 1) (pa_cons (pe_fld (pv 2) rfl) pa_nil))))
      (pss_cons (ps_if (pt_cmpR (op_isN) (pv 3) (pe_non) (nomark _)) (pss_one (ps_ret (pe_bl))) (pss_nil))
      (pss_cons (ps_expr (pe_bm PySem.F.plainAttrs_list PySem.F.slot_list_append PySem.F.type_list_append mt_append (pe_fld (pv 2) rfl) (pa_cons (pv 3) pa_nil)))
      (pss_one (ps_ret (pe_bl))))))))), ?_⟩
    obtain ⟨p, qs, rfl, g1, g2⟩ := stk_cons hR.stk
    obtain ⟨dxf, xs, w1, w2, w3⟩ := g1.ex
    have n40 : n < 40 := by
      rcases hh with ⟨_, _, _, _, _, _, h, _⟩ | ⟨_, _, _, _, _, h, _⟩ <;> omega
    refine set_then (i := 2) (rd_top T rfl hR ?_)
    refine ⟨_, rfl, p.1, CB, dxf, _, _, rfl, w1, TB.cl, TB.nS, bf_look.2.2.2, p.2, xs, rfl, .inl (SqL.of w2), rfl, _, rfl, iteN (fun z => ?_) ?_⟩
    · have z := V.int.inj z
      rw [w3.len] at z
      omega
    refine ⟨_, rfl, x, CR, dx, _, _, rfl, hR.hx, T.cl, T.nS, rf_look.2, rfl, _, rfl, iteN (fun z => ?_) ?_⟩
    · have z := V.int.inj z
      omega
    refine ⟨_, rfl, x, CR, dx, _, _, rfl, hR.hx, T.cl, T.nS, rf_look.2, _, _, rfl, rfl, _, rfl, x, CR, dx, _, rfl, hR.hx, T.cl, T.nS, rf_len _ _, ?_⟩
    rw [rf_size]
    have hR2 := rd_size (m := n + 1) n1 n2 hR
    change RdP CR CB CW H0 (upd H x (.ins CR dx (rf b ((n : Int) + 1)))) (f :: r) (n + 1) x dx b (p :: qs) at hR2
    generalize upd H x (.ins CR dx (rf b ((n : Int) + 1))) = H1 at hR2 ⊢
    have hl1 := hR2.sm _ _ hl0
    have hq := SqL.of (K := K) hl1
    rcases hh with ⟨st, h, rfl, hh, nt, hf, _, k⟩ | ⟨m, t, rfl, m1, m2, hn, hr2, k⟩
    · have first : ∃ c rest, liW (.plain st) = c :: rest ∧ c ≠ cTun := by
        cases st with
        | road _ _ _ => exact ⟨_, _, rfl, by decide⟩
        | join _ => exact ⟨_, _, rfl, by decide⟩
        | tunnel _ _ _ => exact absurd trivial nt
      obtain ⟨c0, rest, ef, nc⟩ := first
      have hq0 : SqL K H1 l (V.str (TX.S c0) :: sv rest) := by
        rw [ef] at hq
        exact hq
      refine ⟨_, rfl, l, _, _, _, rfl, rfl, hq0, at_k0, rfl, _, rfl, iteN (fun z => S_ne nc (z.trans (congrArg V.str k_tun))) ?_⟩
      obtain ⟨p', qs', e0, g1', g2'⟩ := stk_cons hR2.stk
      cases e0
      obtain ⟨dxf2, xs2, v1, v2, v3⟩ := g1'.ex
      rw [hh] at v1
      unfold tNext
      dsimp only
      refine set_then (i := 3) ⟨_, rfl, _, rfl, p.1, CB, dxf2, _, _, rfl, v1, TB.cl, TB.nH, bf_look.2.2.1, l, h, st, rfl, hl1, nt, hf, fun t2 H2 s2 hS => ?_⟩
      refine ⟨_, rfl, rfl, _, rfl, iteN (fun z => by cases z) ?_⟩
      have hR3 := hR2.same s2
      refine ⟨_, rfl, p.1, CB, dxf2, _, _, rfl, s2 _ _ v1, TB.cl, TB.nS, bf_look.2.2.2, .inl ⟨rfl, _, SqL.of (s2 _ _ v2)⟩, _, rfl, p.2, xs2, _, rfl, rfl, s2 _ _ v2, small1000 (by rw [v3.len]; omega), ?_⟩
      exact k _ ⟨dx, b, p :: qs, rd_put n1 n2 hR3 (s2 _ _ v2) hS⟩
    · have hq0 : SqL K H1 l (V.str (TX.S cTun) :: sv [numL m, TX.tw t]) := hq
      refine ⟨_, rfl, l, _, _, _, rfl, rfl, hq0, at_k0, rfl, _, rfl, iteP (congrArg V.str k_tun.symm) ?_⟩
      exact ⟨_, rfl, x, dx, _, rfl, hR2.hx, rf_no (by decide +kernel) (by decide +kernel), _, rfl, x, l, f :: r, n + 1, m, t, H0, rfl, ⟨dx, b, _, hR2⟩, hl1, m1, m2, by rw [List.length_cons]; omega, hn, k⟩
/-- Reader.takes -/
def spTakes (CR CB CW : Addr) : Sp := fun vs H Q _ => ∃ (x : Addr) (st st' : List Fr) (n n' lv : Nat) (li : Li) (H0 : Hp), vs = [.ref x, .str (TX.S (lineOf (lv, li)))] ∧ RdAt CR CB CW H0 H st n x ∧ Feed (st, n) (lv, li) (st', n') ∧ (∀ v ∈ liW li, Wd v) ∧ lv ≤ 3 ∧ ∀ H', RdAt CR CB CW H0 H' st' n' x → Q (.bl true) H'
theorem scTk : FnScope ["self", "line", "level", "words"] ["self", "line"] (defScope sRTakes) := ⟨rfl, rfl, rfl, by decide +kernel, rfl, by decide +kernel, by decide +kernel⟩
theorem li_few (li : Li) : ∃ c r, liW li = c :: r ∧ (liW li).length ≤ 4 := by
  cases li with
  | head h => exact ⟨_, _, rfl, by show 2 ≤ 4; decide⟩
  | plain s =>
    cases s with
    | road _ _ _ => exact ⟨_, _, rfl, by show 4 ≤ 4; decide⟩
    | join _ => exact ⟨_, _, rfl, by show 2 ≤ 4; decide⟩
    | tunnel _ _ _ => exact ⟨_, _, rfl, by show 3 ≤ 4; decide⟩
  | tun m t => exact ⟨_, _, rfl, by show 3 ≤ 4; decide⟩
theorem wd_first {ws : List (List Nat)} (h : ∀ v ∈ ws, Wd v) : ∀ d q, wd ws = d :: q → d ≠ 32 := fun d q e => by
  cases ws with
  | nil => cases e
  | cons a r =>
    have ha := h a List.mem_cons_self
    obtain ⟨c, a', rfl⟩ := List.exists_cons_of_ne_nil ha.ne
    have hc := (ha.sp c List.mem_cons_self).1
    cases r with
    | nil =>
      have e : c :: a' = d :: q := e
      cases e
      exact hc
    | cons b r =>
      have e : c :: a' ++ ([32] ++ joinL [32] (b :: r)) = d :: q := e
      have e := (List.cons.inj e).1
      rw [← e]
      exact hc
theorem ok_takes (n1 : CW ≠ CB) (n2 : CW ≠ CR) {f : Addr} {fd : FuncData} (F : Fun K "takes" "Reader.takes" sRTakes f fd) (B : Bn mg) (T : Rt K mg CR) (TB : Bt K mg CB) (gI : ∃ t, mg "INDENTATION" = some (.str "  " t)) (ML : Mr P w K mg base CR 2 "_level" ["self", "line"] (spLevel CR CB CW))
    (MH : Mr P w K mg base CR 4 "_takes_head" ["self", "words"] (spTHead CR CB CW)) (ME : Mr P w K mg base CR 8 "_end_inner" ["self"] (spREnd CR CB CW)) (MS : Mr P w K mg base CR 5 "_takes_step" ["self", "words"] (spRStep CR CB CW)) : FnOk P w K mg base CX0 9 f fd ["self", "line"] (spTakes CR CB CW) := by
  obtain ⟨fL, fdL, GL, mL, bL⟩ := ML.ex
  obtain ⟨fH, fdH, GH, mH, bH⟩ := MH.ex
  obtain ⟨fE, fdE, GE, mE, bE⟩ := ME.ex
  obtain ⟨fS, fdS, GS, mS, bS⟩ := MS.ex
  obtain ⟨tI, gI⟩ := gI
  refine F.ok scTk (fun vs H Q E h => ?_) (fun cdv A outer s H vs Q E hr h => ?_)
  · obtain ⟨x, st, st', n, n', lv, li, H0, rfl, _⟩ := h
    rfl
  · obtain ⟨x, st, st', n, n', lv, li, H0, rfl, hR, hF, hw, l3, k⟩ := h
    refine ⟨_, pss_cons (ps_set (i := 2) scTk.nd rfl (Or.inl rfl) (pe_meth (pv 0) T.cl mL GL (hr.mono (by omega)) bL .nil pass0 (pa_cons (pv 1) pa_nil)))
      (pss_cons (ps_if (pt_cmpR (op_isN) (pv 2) (pe_non) (nomark _)) (pss_one (ps_ret (pe_bl))) (pss_nil))
      (pss_cons (ps_set (i := 3) scTk.nd rfl (Or.inl rfl) (pe_split (pe_slice sl_str (pv 1) (po_some (pe_op (op_mul) (pv 2) (pe_callB call_len_str (by rfl) B.len PySem.boot_len (pa_cons (pe_glob (v := .str "  ") rfl gI ⟨_, rfl⟩) pa_nil)))) po_none) (pe_str)))
      (pss_cons (ps_if (pt_cmpR (op_isN) (pe_fld (pe_ix ix_list (pe_fld (pv 0) rfl) (pe_un un_neg (pe_int)) (fun _ _ => rfl)) rfl) (pe_non) (nomark _)) (pss_one (ps_ret (pe_meth (pv 0) T.cl mH GH (hr.mono (by omega)) bH .nil pass0 (pa_cons (pv 3) pa_nil)))) (pss_nil))
      (pss_cons (ps_while PassesOwn.never (pt_cmpR (op_gt) (pe_callB call_len_seq (by rfl) B.len PySem.boot_len (pa_cons (pe_fld (pv 0) rfl) pa_nil)) (pe_op (op_add) (pv 2) (pe_int)) (nomark _)) (pss_one (ps_expr (pe_meth0 (pv 0) T.cl mE GE (hr.mono (by omega)) bE .nil pass0))))
      (pss_one (ps_ret (pe_meth (pv 0) T.cl mS GS (hr.mono (by omega)) bS .nil pass0 (pa_cons (pv 3) pa_nil)))))))), ?_⟩
    obtain ⟨w0, wr, ew, l4⟩ := li_few li
    have big : ∀ {n : Nat}, n ≤ 1000 → n ≤ sizeLine := fun h => Nat.le_of_lt (small1000 h)
    have wl56 := (ln_wd hw l4).1
    have ind : (indL lv).length = 2 * lv := by unfold indL; simp
    have ll : (TX.S (lineOf (lv, li))).length = 2 * lv + (wd (liW li)).length := by
      rw [S_len]
      show (indL lv ++ wd (liW li)).length = _
      rw [List.length_append, ind]
    have l2 : ("  " : Str).length = 2 := by rw [len_tl, k_ind, tl_S]; rfl
    -- the stack as the level sees it
    obtain ⟨b0, q0, rfl, v1, v2⟩ : ∃ b0 q0, st = b0 :: q0 ∧ lv ≤ q0.length ∧ (lv = q0.length ∨ b0.steps ≠ []) := by
      cases hF with
      | head h1 h2 h3 => exact ⟨_, _, rfl, Nat.le_refl _, .inl rfl⟩
      | plain hr _ _ _ _ _ _ =>
        obtain ⟨b0, q0, e, _, h2⟩ := hr.top
        have := hr.cl.le
        rw [e, List.length_cons] at this
        refine ⟨b0, q0, e, by omega, ?_⟩
        rcases h2 with h2 | h2
        · exact .inr h2
        · rw [e, List.length_cons] at h2
          exact .inl (by omega)
      | tun hr _ _ _ _ _ =>
        obtain ⟨b0, q0, e, _, h2⟩ := hr.top
        have := hr.cl.le
        rw [e, List.length_cons] at this
        refine ⟨b0, q0, e, by omega, ?_⟩
        rcases h2 with h2 | h2
        · exact .inr h2
        · rw [e, List.length_cons] at h2
          exact .inl (by omega)
    obtain ⟨dx0, bb0, hx0⟩ := hR.ins
    refine set_then (i := 2) ⟨_, rfl, x, dx0, _, rfl, hx0, rf_no (by decide +kernel) (by decide +kernel), _, rfl, x, _, b0, q0, n, lv, wd (liW li), H0, rfl, hR, tl_S _, wd_first hw, by rw [ll]; omega, v1, v2, ?_⟩
    refine ⟨_, rfl, rfl, _, rfl, iteN (fun z => by cases z) ?_⟩
    unfold tNext
    dsimp only
    refine set_then (i := 3) ⟨_, rfl, _, rfl, _, rfl, by rw [l2]; decide, _, _, rfl, rfl, .inl ⟨by omega, by omega⟩, _, rfl, ?_⟩
    dsimp only [tNoPart]
    have lS : (TX.S (lineOf (lv, li))).length ≤ 100 := by rw [ll]; omega
    have cut : cutS (TX.S (lineOf (lv, li))) (some ((lv : Int) * ((("  " : Str).length : Nat) : Int))) none = TX.S (wd (liW li)) := by
      rw [l2, show (lv : Int) * ((2 : Nat) : Int) = ((2 * lv : Nat) : Int) by omega]
      exact cut_ind (k := 2 * lv) (by rw [tl_S]; rfl)
    refine ⟨_, rfl, big (by omega), ⟨_, rfl⟩, _, _, rfl, rfl, by decide +kernel, ?_, fun l hl => ?_⟩
    · rw [cut, S_len]
      exact big (by omega)
    rw [cut, k_sp, split_wd hw (by rw [ew]; simp), ← sv_strs]
    have hRl := hR.more (o := .lst (sv (liW li))) hl
    have sH0 : Same H0 (upd H0 l (.lst (sv (liW li)))) := of_upd (by
      cases z : H0 l with
      | none => rfl
      | some o =>
        have := hR.sm _ _ z
        rw [hl] at this
        cases this)
    have e0 : upd H0 l (.lst (sv (liW li))) l = some (.lst (sv (liW li))) := upd_same
    generalize upd H0 l (.lst (sv (liW li))) = H2 at hRl sH0 e0
    have el : upd H l (.lst (sv (liW li))) l = some (.lst (sv (liW li))) := upd_same
    generalize upd H l (.lst (sv (liW li))) = H1 at hRl el ⊢
    have hRp := hRl
    obtain ⟨dx, b, ps, hP⟩ := hRp
    obtain ⟨p, qs, rfl, g1, g2⟩ := stk_cons hP.stk
    obtain ⟨dxf, xs, w1, w2, w3⟩ := g1.ex
    refine ⟨_, rfl, x, CR, dx, _, _, rfl, hP.hx, T.cl, T.nB, rf_look.1, _, rfl, b, _, _, _, rfl, rfl, SqL.of hP.hb, bg_top p qs, p.1, CB, dxf, _, _, rfl, w1, TB.cl, TB.nH, bf_look.2.2.1, rfl, _, rfl, ?_⟩
    have two : (∃ h, li = .head h ∧ lv = q0.length ∧ b0.head = none ∧ 1 ≤ h ∧ h ≤ 40 ∧ ∀ H', RdAt CR CB CW H2 H' ({ b0 with head := some h } :: q0) n x → Q (.bl true) H') ∨
        ∃ (f : Fr) (r : List Fr), (∃ h, b0.head = some h) ∧ Closes lv (b0 :: q0) (f :: r) ∧ f.steps.length < 12 ∧ ((∃ s h, li = .plain s ∧ f.head = some h ∧ ¬ isTun s ∧ s.fine h ∧ n < 40 ∧ ∀ H', RdAt CR CB CW H2 H' ({ f with steps := f.steps ++ [s] } :: r) (n + 1) x → Q (.bl true) H') ∨
          (∃ m t, li = .tun m t ∧ 1 ≤ m ∧ m ≤ 1000000000000 ∧ n + 1 < 40 ∧ r.length + 2 ≤ 3 ∧ ∀ H', RdAt CR CB CW H2 H' (⟨some (m, t), none, []⟩ :: f :: r) (n + 1) x → Q (.bl true) H')) := by
      cases hF with
      | head h1 h2 h3 => exact .inl ⟨_, rfl, rfl, h1, h2, h3, fun H' hR' => k H' (hR'.less sH0)⟩
      | plain hr hh nt hf h40 hl hn =>
        obtain ⟨b1, q1, e, ht, _⟩ := hr.top
        cases e
        exact .inr ⟨_, _, ht, hr.cl, hl, .inl ⟨_, _, rfl, hh, nt, hf, hn, fun H' hR' => k H' (hR'.less sH0)⟩⟩
      | tun hr m1 m2 hl hn hr2 =>
        obtain ⟨b1, q1, e, ht, _⟩ := hr.top
        cases e
        exact .inr ⟨_, _, ht, hr.cl, hl, .inr ⟨_, _, rfl, m1, m2, hn, hr2, fun H' hR' => k H' (hR'.less sH0)⟩⟩
    rcases two with ⟨h, rfl, _, hn, h1, h2, kk⟩ | ⟨f, r, ⟨h0, hh0⟩, cl, l12, kk⟩
    · refine iteP (by rw [hn]; rfl) ?_
      exact ⟨_, rfl, x, dx, _, rfl, hP.hx, rf_no (by decide +kernel) (by decide +kernel), _, rfl, x, l, b0, q0, n, h, H2, rfl, ⟨dx, b, _, hP⟩, el, h1, h2, kk⟩
    refine iteN (fun z => by rw [hh0] at z; cases z) ?_
    dsimp only
    refine ⟨fun m σ G => ∃ st, m = st.length ∧ RdAt CR CB CW H2 G st n x ∧ Closes lv st (f :: r) ∧ σ = [some (.ref x), some (.str (TX.S (lineOf (lv, li)))), some (.int (lv : Int)), some (.ref l)], ⟨_, b0 :: q0, rfl, hRl, cl, rfl⟩, ?_⟩
    rintro m σ G ⟨st, rfl, ⟨dx, b, ps, hP⟩, cl, rfl⟩
    refine ⟨_, rfl, x, CR, dx, _, _, rfl, hP.hx, T.cl, T.nB, rf_look.1, b, _, rfl, .inl (SqL.of hP.hb), _, rfl, _, _, rfl, rfl, _, _, rfl, rfl, _, rfl, ?_⟩
    rw [bg_len, hP.stk.len]
    cases cl with
    | done hl =>
      have hl2 : r.length = lv := by
        rw [List.length_cons] at hl
        omega
      rw [decide_eq_false (by rw [List.length_cons, hl2]; omega)]
      refine iteF ?_
      exact ⟨_, rfl, x, dx, _, rfl, hP.hx, rf_no (by decide +kernel) (by decide +kernel), _, rfl, x, l, f, r, n, li, H2, rfl, ⟨dx, b, _, hP⟩, hP.sm _ _ e0, e0, l12, kk⟩
    | @close c a r2 st2 h m t hl o1 o2 o3 cl =>
      rw [decide_eq_true (by omega)]
      refine iteT ⟨fun σ' G' => (∃ st, st.length = (a :: r2).length ∧ RdAt CR CB CW H2 G' st n x ∧ Closes lv st (f :: r)) ∧ σ' = [some (.ref x), some (.str (TX.S (lineOf (lv, li)))), some (.int (lv : Int)), some (.ref l)], fun σ' G' ⟨⟨st, e, h1, h2⟩, h3⟩ => ⟨_, by rw [List.length_cons]; exact Nat.lt_succ_self _, st, e.symm, h1, h2, h3⟩, ?_⟩
      refine ⟨_, rfl, x, dx, _, rfl, hP.hx, rf_no (by decide +kernel) (by decide +kernel), x, c, a, r2, n, h, m, t, H2, rfl, ⟨dx, b, _, hP⟩, o1, o2, o3, ?_, fun G' hR' => ⟨⟨{ a with steps := a.steps ++ [.tunnel (.mk h c.steps) m t] } :: r2, rfl, hR', cl⟩, rfl⟩⟩
      have := cl.few (Nat.le_of_lt l12)
      rw [List.length_append] at this
      omega
end
end CP

end
section
set_option autoImplicit false
set_option Elab.async false
set_option linter.all false
set_option maxRecDepth 100000
set_option maxHeartbeats 4000000
/-! ## != of an own class that says only == -/
namespace WO
open PySem PySem.Spec PyProof.Rows L2
section
variable {prog : Program} {w : World} {A : Around} {E : Value → Shared → Prop} {s : Shared} {K : PySem.W.Frag} {x y C f : Addr} {ox : Obj} {od : Option Obj}
theorem bound_ne {M : Model} {args : List Value} {Q : Option Value → Shared → Prop} (X : K.In s.heap) (I : PySem.W.InstAt s.heap x ox C od) (hs : PySem.W.findIn K (.ref C) "__ne__" = some (some (.builtin "object.__ne__")))
    (h : wpAny M A (call (.builtin "object.__ne__") (.ref x :: args)) (fun v => Q (some v)) E s) : wpAny M A (callSpecialIfBound? (.ref x) "__ne__" args) Q E s := by
  simp only [callSpecialIfBound?, bindSpecialIfBound?]
  refine wpAny_holding (wpAny_bind (wpAny_bind (wpAny_bind (I.type.here ((PySem.W.looks_findIn X hs).here ?_)))))
  refine wpAny_bind (wpAny_askSetting (wpAny_ite ?_))
  have e : wpAny M A (call (.builtin "object.__ne__") ([.ref x] ++ args) >>= fun v => pure (some v)) Q E s := wpAny_bind (wpAny_mono h (fun v s' q => wpAny_pure q) fun _ _ q => q)
  split
  · exact wpAny_bind (wpAny_of_eq (F.cmp_object.ne.bind _) (wpAny_pure (by exact e)))
  · exact wpAny_tryCatch (wpAny_bind (wpAny_of_eq (F.cmp_object.ne.bind _) (wpAny_pure (by exact e))))
theorem entry_ne {Q : Fin → Shared → Prop} (hu : A.units < cLine) (X : K.In s.heap) (I : PySem.W.InstAt s.heap x ox C od) (he : PySem.W.findIn K (.ref C) "__eq__" = some (some (.ref f))) (hf : PySem.W.isFn K (.ref f) = true)
    (h : wpAny (model prog w) A (call (.ref f) [.ref x, .ref y]) (fun v s' => ∃ b, v = .bool b ∧ Q (.done (.ret (.bool (!b)))) s') E s) : wpAny (model prog w) A (Builtin.«object.__ne__» ⟨[.ref x, .ref y], []⟩) Q E s := by
  unfold Builtin.«object.__ne__»
  repeat (first
    | with_reducible refine wpAny_cRoomFor hu ?_
    | (refine wpAny_bind (m := callSpecialIfBound? (.ref x) (Str.ofString "__eq__") [.ref y]) (PySem.W.ifBound_K X I he hf (wpAny_mono h (fun r s' hr => by
          obtain ⟨b, rfl, hq⟩ := hr
          repeat (first | exact hq | exact wpAny_pure hq | exact wpAny_truthy_bool hq | (refine wpAny_bind (m := truthy (.bool _)) (wpAny_truthy_bool ?_)) | wp_step)) fun _ _ e => e)))
    | wp_step)
theorem rich_ne {Q : Value → Shared → Prop} (hu : A.units + 1 < cLine) (X : K.In s.heap) (I : PySem.W.InstAt s.heap x ox C od) (hy : PySem.W.Looks (model prog w) s.heap (typeOf (.ref y)) (.ref C)) (hm : PySem.W.mroIn K C (.type "object") = some true)
    (hs : PySem.W.findIn K (.ref C) "__ne__" = some (some (.builtin "object.__ne__"))) (he : PySem.W.findIn K (.ref C) "__eq__" = some (some (.ref f))) (hf : PySem.W.isFn K (.ref f) = true)
    (h : wpAny (model prog w) A.in1 (call (.ref f) [.ref x, .ref y]) (fun v s' => ∃ b, v = .bool b ∧ Q (.bool (!b)) s') E s) : wpAny (model prog w) A (richCompare .NotEq (.ref x) (.ref y)) Q E s := by
  have one : wpAny (model prog w) A (tryCompare (.ref x) "__ne__" (.ref y)) (fun r s' => ∃ v, r = some v ∧ Q v s') E s := by
    unfold tryCompare
    refine wpAny_bind (bound_ne X I hs (wpAny_call (codeAny_call_builtin F.cmp_object.ne.plain F.cmpEntry_ne (PySem.W.check_slot F.cmpKind_ne F.cmpSplit_ne (I.type.andThen (PySem.W.looks_mroIn X hm)) (F.cmpArgs_ne _ _)
      (entry_ne (A := A.in1) hu X I he hf (wpAny_mono h (fun v s' hv => ?_) fun _ _ e => e))))))
    obtain ⟨b, rfl, hq⟩ := hv
    exact ⟨b, rfl, wpAny_pure ⟨_, rfl, hq⟩⟩
  unfold richCompare
  simp only [oneThing_ref]
  refine wpAny_holding (wpAny_bind (wpAny_cRoomFor (Nat.lt_of_succ_lt hu) ?_))
  refine wpAny_bind (I.type.here (wpAny_bind (hy.here ?_)))
  split
  · rename_i q
    simp at q
  · refine wpAny_bind (wpAny_pure ?_)
    simp only [Bool.false_eq_true, if_false]
    refine wpAny_bind (wpAny_mono one (fun r s' z => ?_) fun _ _ e => e)
    obtain ⟨v, rfl, hq⟩ := z
    exact wpAny_pure hq
end
section
variable {X : Cx} {CX : CXT} {n : Nat} {C f : Addr} {fd : FuncData} {ps : List Str} {sp : Sp} {E : XK}
/-- != by the own __eq__ -/
def rNeO (C : Addr) (sp : Sp) (E : XK) : R2 := fun x y H Q => ∃ a b, x = .ref a ∧ y = .ref b ∧ InsC C H a ∧ InsC C H b ∧ sp [.ref a, .ref b] H (fun v H1 => ∃ c, v = .bl c ∧ Q (.bl (!c)) H1) E
theorem op_neO (F : FnOk X.prog X.w X.K X.mg X.base CX n f fd ps sp) (hr : Room (n + 1) X.A) (O : Own X.K C f "__eq__") (hm : PySem.W.mroIn X.K C (.type "object") = some true) (hs : PySem.W.findIn X.K (.ref C) "__ne__" = some (some (.builtin "object.__ne__")))
    (hb : Binds X.K fd ps []) (hx : Passes CX X E) : OpR X (compareOp .NotEq) (rNeO C sp E) := by
  intro pins s σ H x y v u Q I rx ry h
  obtain ⟨a, b, rfl, rfl, ⟨dx, fs, ha⟩, ⟨dy, gs, hb'⟩, hsp⟩ := h
  cases rx
  cases ry
  obtain ⟨_, J, _⟩ := ins_get I.hok ha
  obtain ⟨_, J', _⟩ := ins_get I.hok hb'
  obtain ⟨od, J, _⟩ := J.look
  obtain ⟨od', J', _⟩ := J'.look
  show wpAny (model X.prog X.w) X.A (richCompare .NotEq (.ref a) (.ref b)) (EP X pins σ Q) X.xe s
  refine rich_ne hr.in1.units0 I.kIn J J'.type hm hs O.at' O.fn (run_own F (A := X.A.in1) (xs := [.ref a, .ref b]) ⟨hr.in1, rfl⟩ hb hx I (.cons rfl (.cons rfl .nil)) hsp fun z u H1 s1 I1 rz q => ?_)
  obtain ⟨c, rfl, q⟩ := q
  cases rz
  exact ⟨c, rfl, .bl (!c), H1, I1, rfl, q⟩
end
end WO

end
section
set_option autoImplicit false
set_option Elab.async false
set_option linter.all false
set_option maxRecDepth 100000
set_option maxHeartbeats 4000000
/-! ## != of tuples whose items are equal, own objects among them -/
namespace NQ
open PySem PySem.Spec PyProof.Rows L2
open AutoSeq1 (wpAny_loadPart')
section
variable {prog : Program} {w : World} {A : Around} {R : Result → Shared → Prop}
theorem ne_run {a b : Addr} {ia ib : Array Value} {ka kb : Nat} {da db : Option Addr} {sa sb : Array (Option Value)} (sz : ia.size = ib.size) (J : Nat → Shared → Prop)
    (step : ∀ k (p : k < ia.size) (q : k < ib.size) t, J k t → wpAny (model prog w) A.in1 (eqBool ia[k] ib[k]) (fun r t' => r = true ∧ J (k + 1) t') (fun e t' => R (.error e) t') t)
    (stop : ∀ t, J ia.size t → R (.ok (.ret (.bool false))) t) {t : Shared} (ga : t.heap.get? a = some { cls := .type "tuple", dict := da, data := .seq ia ka, slots := sa })
    (gb : t.heap.get? b = some { cls := .type "tuple", dict := db, data := .seq ib kb, slots := sb }) (go : J 0 t) :
    wpAny (model prog w) A.in1 (Builtin.«tuple.__ne__» ⟨[.ref a, .ref b], []⟩) (GQ.FinOf prog w A R) (fun e t' => R (.error e) t') t := by
  have sub := AutoSeq1.sub_tuple_tuple
  have zl : (ia.toList.zip ib.toList).length = ia.size := by simp [sz]
  have go' := go
  obtain ⟨t1, t2, t3, t4, t5⟩ := t
  wp_walk using wpAny_loadPart' ga, wpAny_loadPart' gb, wpAny_forIn_list _ (fun more z t' => z.1 = none ∧ ∃ k, more = (ia.toList.zip ib.toList).drop k ∧ k ≤ ia.size ∧ J k t') _
  case turn =>
    rintro ⟨u, v⟩ more z t' ⟨hz, k, em, hk, hJ⟩
    have kl : k < (ia.toList.zip ib.toList).length := Nat.lt_of_not_le fun g => by
      rw [List.drop_of_length_le g] at em
      cases em
    have k1 : k < ia.size := zl ▸ kl
    have k2 : k < ib.size := sz ▸ k1
    rw [List.drop_eq_getElem_cons kl] at em
    injection em with e1 e2
    have eu : u = ia[k] := by simpa using congrArg Prod.fst e1
    have ev : v = ib[k] := by simpa using congrArg Prod.snd e1
    subst eu ev
    refine wpAny_bind (wpAny_mono (step k k1 k2 t' hJ) (fun r t2 q2 => ?_) fun _ _ x => x)
    obtain ⟨er, q2⟩ := q2
    subst er
    wp_walk
    exact ⟨rfl, k + 1, e2, k1, q2⟩
  case fin =>
    rintro ⟨z1, z2⟩ t' ⟨hz, k, em, hk, hJ⟩
    simp only at hz
    subst hz
    have kg : ia.size ≤ k := Nat.le_of_not_lt fun g => by
      rw [List.drop_eq_getElem_cons (zl.symm ▸ g)] at em
      cases em
    have ek : k = ia.size := Nat.le_antisymm hk kg
    have done := stop t' (ek ▸ hJ)
    wp_walk
    simpa [Builtin.Tuple.tupleCompareSizes, sz] using done
  case h =>
    exact ⟨rfl, 0, rfl, Nat.zero_le _, go'⟩
end
section
variable {prog : Program} {w : World} {A : Around} {E : Value → Shared → Prop} {t : Shared}
theorem rc_ne {a b : Addr} {ia ib : Array Value} {Q : Value → Shared → Prop} (sz : ia.size = ib.size) (hu : A.units < cLine) (J : Nat → Shared → Prop) (ta : t.heap.IsTuple a ia) (tb : t.heap.IsTuple b ib)
    (step : ∀ k (p : k < ia.size) (q : k < ib.size) t, J k t → wpAny (model prog w) A.in1 (eqBool ia[k] ib[k]) (fun r t' => r = true ∧ J (k + 1) t') E t)
    (stop : ∀ t, J ia.size t → Q (.bool false) t) (go : J 0 t) : wpAny (model prog w) A (richCompare .NotEq (.ref a) (.ref b)) Q E t := by
  obtain ⟨⟨ca, da, pa, sa⟩, ga, qa, na, va⟩ := id ta
  obtain ⟨⟨cb, db, pb, sb⟩, gb, qb, nb, vb⟩ := id tb
  simp only at qa va qb vb
  subst qa va qb vb
  refine wpAny_richCompare_same_room (op := .NotEq) ⟨_, ga, rfl⟩ ⟨_, gb, rfl⟩ F.slot_tuple_ne (GQ.call_here F.slot_tuple_ne ⟨_, ga, rfl⟩ F.entry_tuple_ne (F.args_tuple_ne_2 _ _) ?_) hu
  exact ne_run (R := wants (fun v t' => v ≠ .notImplemented ∧ Q v t') E) sz J step (fun t' q => ⟨(fun x => nomatch x), stop t' q⟩) ga gb go
end
section
variable {X : Cx} {n : Nat} {D : Eqv}
/-- x != y of tuples that are equal item by item -/
def rNeT (K : PySem.W.Frag) (D : Eqv) : R2 := fun x y H Q => DTup K D x y H ∧ ∀ H', Ext H H' → Q (.bl false) H'
theorem op_neT (hD : Mon D) (h : EqG X n D) (hr : Room (n + 1) X.A) : OpR X (compareOp .NotEq) (rNeT X.K D) := by
  intro pins s σ H x y v u Q I rx ry hq
  obtain ⟨⟨a, b, xs, ys, rfl, rfl, ha, hb, p⟩, q⟩ := hq
  cases rx
  cases ry
  obtain ⟨ia, ra, ea, -⟩ := I.tuple ha
  obtain ⟨ib, rb, eb, -⟩ := I.tuple hb
  have sz : ia.toArray.size = ib.toArray.size := by
    have := p.1
    rw [ra.length, rb.length] at this
    rw [List.size_toArray, List.size_toArray]
    exact this
  show wpAny (model X.prog X.w) X.A (richCompare .NotEq (.ref a) (.ref b)) (EP X pins σ Q) X.xe s
  refine rc_ne sz hr.units0 (fun _ t => LoopI X pins σ H t) ea eb (fun i h1 h2 t l => turnG hD h ⟨hr, rfl⟩ p ra rb i h1 h2 t l) (fun t l => ?_) ⟨H, I, Ext.rfl'⟩
  obtain ⟨H1, I1, x1⟩ := l
  exact ⟨.bl false, H1, I1, rfl, q H1 x1⟩
end
end NQ
namespace QK
open PySem PySem.Spec PyProof.Rows L2
section
variable {X : Cx} {CX : CXT} {k : Nat} {f : Addr} {fd : FuncData} {ps ks : List Str} {sp : Sp} {E : XK} {x : Str} {p pos : Pos} {kws : List Keyword} {tk : TA} {g : List Value → List Value → List Value} {gV : List V → List V → List V}
theorem pe_kall (F : FnOk X.prog X.w X.K X.mg X.base CX k f fd ps sp) (hr : Room k X.A) (hg : Gl X x) (hm : X.mg x = some (.ref f)) (hk : PySem.W.keepIn X.K (.ref f) = true) (hb : KBinds X.K fd ps ks g gV) (hx : Passes CX X E) (hkw : PK X kws tk)
    (hall : (backToKw pos (keywordEach kws X.env)).all (·.1.isSome) = true := by rfl) (hks : (backToKw pos (keywordEach kws X.env)).filterMap (·.1) = ks := by rfl) (hdb : (x == ("__debug__" : Str)) = false := by decide)
    (hpl : ((backTo pos (starEach [] X.env)).any (·.1) || (backToKw pos (keywordEach kws X.env)).any (·.1.isNone)) = false := by rfl) : PE X (.Call (.Name x p) [] kws pos) (tCallK sp gV E tNil tk) := ⟨fun pins s σ H Q I h =>
  wpAny_Call_Name_kw (ld_glob I hg hm (PySem.W.callWith_KW0 (h₀ := X.base) I.ok.mod.kin hk hall (thn (hkw.run pos pins s σ H _ I h) fun ws s2 ⟨zs, H2, I2, rz, q2⟩ => ⟨I2.kIn, by
    rw [hks]
    exact run_fnk (us := []) (vs := []) F hr hb hx I2 .nil rz q2⟩) hpl) hdb)⟩
end
end QK
namespace CP
open PySem L2 G Y
section
variable {α : Type}
def o3 : List α → List α
  | [l, n, c] => [c, n, l]
  | _ => []
def o1 : List α → List α
  | [l, c] => [c, l]
  | _ => []
def i1 : List α → List α
  | [c] => [c]
  | _ => []
def m2 (d : α) : List α → List α
  | [n, c] => [c, n, d]
  | _ => []
def m1 (d : α) : List α → List α
  | [c] => [c, d]
  | _ => []
def g0 (f : List α → List α) : List α → List α → List α
  | [], ws => f ws
  | _ :: _, _ => []
def g21 : List α → List α → List α
  | [a, b], [c] => [a, b, c]
  | _, _ => []
end
theorem rel0 {fV : List V → List V} {f : List Value → List Value} (h : ∀ {zs : List V} {ws : List Value}, Vals zs ws → Vals (fV zs) (f ws)) {vs : List V} {us : List Value} {zs : List V} {ws : List Value} (r : Vals vs us) (rz : Vals zs ws) : Vals (g0 fV vs zs) (g0 f us ws) := by
  cases r with
  | nil => exact h rz
  | cons _ _ => exact .nil
theorem rel21 {vs : List V} {us : List Value} {zs : List V} {ws : List Value} (r : Vals vs us) (rz : Vals zs ws) : Vals (g21 vs zs) (g21 us ws) := by
  cases r with
  | nil => exact .nil
  | cons r1 r => cases r with
    | nil => cases rz <;> exact .nil
    | cons r2 r => cases r with
      | nil => cases rz with
        | nil => exact .nil
        | cons z1 rz => cases rz with
          | nil => exact .cons r1 (.cons r2 (.cons z1 .nil))
          | cons _ _ => exact .nil
      | cons _ _ => cases rz <;> exact .nil
theorem r3 {zs : List V} {ws : List Value} (rz : Vals zs ws) : Vals (o3 zs) (o3 ws) := by
  cases rz with
  | nil => exact .nil
  | cons a rz => cases rz with
    | nil => exact .nil
    | cons b rz => cases rz with
      | nil => exact .nil
      | cons c rz => cases rz with
        | nil => exact .cons c (.cons b (.cons a .nil))
        | cons _ _ => exact .nil
theorem r1 {zs : List V} {ws : List Value} (rz : Vals zs ws) : Vals (o1 zs) (o1 ws) := by
  cases rz with
  | nil => exact .nil
  | cons a rz => cases rz with
    | nil => exact .nil
    | cons b rz => cases rz with
      | nil => exact .cons b (.cons a .nil)
      | cons _ _ => exact .nil
theorem ri {zs : List V} {ws : List Value} (rz : Vals zs ws) : Vals (i1 zs) (i1 ws) := by
  cases rz with
  | nil => exact .nil
  | cons a rz => cases rz with
    | nil => exact .cons a .nil
    | cons _ _ => exact .nil
theorem q2 {d : V} {e : Value} (rd : RelV d e) {zs : List V} {ws : List Value} (rz : Vals zs ws) : Vals (m2 d zs) (m2 e ws) := by
  cases rz with
  | nil => exact .nil
  | cons a rz => cases rz with
    | nil => exact .nil
    | cons b rz => cases rz with
      | nil => exact .cons b (.cons a (.cons rd .nil))
      | cons _ _ => exact .nil
theorem q1 {d : V} {e : Value} (rd : RelV d e) {zs : List V} {ws : List Value} (rz : Vals zs ws) : Vals (m1 d zs) (m1 e ws) := by
  cases rz with
  | nil => exact .nil
  | cons a rz => cases rz with
    | nil => exact .cons a (.cons rd .nil)
    | cons _ _ => exact .nil
abbrev sCEq : Stmt := inClass (S.top 49) 4
structure Cn2 (K : PySem.W.Frag) (C : Addr) : Prop where
  iA : PySem.W.findIn K (.ref C) "__class__" = some (some (.builtin "object.__class__"))
  iN : PySem.W.specialIn K (.builtin "object.__class__") "__get__" = some (some (.builtin "getset_descriptor.__get__"))
  iT : PySem.W.takesIn K (.builtin "object.__class__") = some true
  iM : PySem.W.mroIn K C (.type "object") = some true
  ne : PySem.W.findIn K (.ref C) "__ne__" = some (some (.builtin "object.__ne__"))
section
variable {P : Program} {w : World} {K : PySem.W.Frag} {mg : Str → Option Value} {base : Heap} {C CW : Addr}
/-- fate as it is called -/
structure DFa (P : Program) (w : World) (K : PySem.W.Frag) (mg : Str → Option Value) (base : Heap) (k : Nat) (sp : Sp) : Prop where
  ex : ∃ (f : Addr) (fd : FuncData), FnOk P w K mg base CX0 k f fd ["way", "body", "sealed"] sp ∧ mg "fate" = some (.ref f) ∧ PySem.W.keepIn K (.ref f) = true ∧ KBinds K fd ["way", "body", "sealed"] ["sealed"] g21 g21 ∧ KBinds K fd ["way", "body", "sealed"] ["sealed", "body", "way"] (g0 o3) (g0 o3) ∧ KBinds K fd ["way", "body", "sealed"] ["body", "way"] (g0 (m2 (.bool false))) (g0 (m2 (.bl false)))
structure DGa (P : Program) (w : World) (K : PySem.W.Frag) (mg : Str → Option Value) (base : Heap) (k : Nat) (sp : Sp) : Prop where
  ex : ∃ (f : Addr) (fd : FuncData), FnOk P w K mg base CX0 k f fd ["way", "sealed"] sp ∧ mg "gates" = some (.ref f) ∧ PySem.W.keepIn K (.ref f) = true ∧ KBinds K fd ["way", "sealed"] ["sealed"] g11 g11 ∧ KBinds K fd ["way", "sealed"] ["sealed", "way"] (g0 o1) (g0 o1) ∧ KBinds K fd ["way", "sealed"] ["way"] (g0 (m1 (.bool false))) (g0 (m1 (.bl false)))
structure DFm (P : Program) (w : World) (K : PySem.W.Frag) (mg : Str → Option Value) (base : Heap) (k : Nat) (sp : Sp) : Prop where
  ex : ∃ (f : Addr) (fd : FuncData), FnOk P w K mg base CX0 k f fd ["way", "upto"] sp ∧ mg "form" = some (.ref f) ∧ PySem.W.keepIn K (.ref f) = true ∧ KBinds K fd ["way", "upto"] ["upto"] g11 g11 ∧ KBinds K fd ["way", "upto"] ["upto", "way"] (g0 o1) (g0 o1) ∧ KBinds K fd ["way", "upto"] ["way"] (g0 (m1 .none)) (g0 (m1 .non))
structure DCo (P : Program) (w : World) (K : PySem.W.Frag) (mg : Str → Option Value) (base : Heap) (k : Nat) (sp : Sp) : Prop where
  ex : ∃ (f : Addr) (fd : FuncData), FnOk P w K mg base CX0 k f fd ["way"] sp ∧ mg "chain_of" = some (.ref f) ∧ PySem.W.keepIn K (.ref f) = true ∧ Binds K fd ["way"] [] ∧ KBinds K fd ["way"] ["way"] (g0 i1) (g0 i1)
/-! ### == of chains -/
theorem dp_ints' {H : Hp} : ∀ l : List Nat, DpAll K H (ni l) (l.map dI) := fun l => dp_ints l
def spCEq (C : Addr) : Sp := fun vs H Q _ => ∃ (a b : Addr) (l : List Nat), vs = [.ref a, .ref b] ∧ ChAt C H l a ∧ ChAt C H l b ∧ ∀ H', Same H H' → Q (.bl true) H'
theorem scEq : FnScope ["self", "other"] ["self", "other"] (defScope sCEq) := ⟨rfl, rfl, rfl, by decide +kernel, rfl, by decide +kernel, by decide +kernel⟩
end
end CP

end
section
set_option autoImplicit false
set_option Elab.async false
set_option linter.all false
set_option maxRecDepth 100000
set_option maxHeartbeats 4000000
/-! ## ways: len, without a step, == -/
namespace WP
open PySem L2 G
abbrev sWithout : Stmt := inClass (top 32) 6
abbrev sWEq : Stmt := inClass (top 32) 4
theorem StepsAt.app {C : Addr} {H : Hp} : ∀ {s r : List M.Step} {xs ys : List V}, StepsAt C H s xs → StepsAt C H r ys → StepsAt C H (s ++ r) (xs ++ ys)
  | [], r, xs, ys, a, b => by
    unfold StepsAt at a
    subst a
    exact b
  | x :: s, r, xs, ys, a, b => by
    unfold StepsAt at a
    obtain ⟨u, us, rfl, h1, h2⟩ := a
    show StepsAt C H (x :: (s ++ r)) (u :: (us ++ ys))
    unfold StepsAt
    exact ⟨u, us ++ ys, rfl, h1, h2.app b⟩
theorem StepsAt.ne {C : Addr} {H : Hp} {s : List M.Step} {xs : List V} (h : StepsAt C H s xs) (n : 1 ≤ s.length) : xs ≠ [] := fun e => by
  have := h.len
  rw [e] at this
  simp at this
  rw [← this] at n
  simp at n
theorem StepsAt.take {C : Addr} {H : Hp} : ∀ {s : List M.Step} {xs : List V} (i : Nat), StepsAt C H s xs → StepsAt C H (s.take i) (xs.take i)
  | s, xs, 0, _ => by
    rw [List.take_zero, List.take_zero]
    unfold StepsAt
    rfl
  | [], xs, i + 1, h => by
    unfold StepsAt at h
    subst h
    unfold StepsAt
    rfl
  | y :: s, xs, i + 1, h => by
    unfold StepsAt at h
    obtain ⟨u, us, rfl, h1, h2⟩ := h
    rw [List.take_succ_cons, List.take_succ_cons]
    unfold StepsAt
    exact ⟨u, us.take i, rfl, h1, h2.take i⟩
theorem StepsAt.drop {C : Addr} {H : Hp} : ∀ {s : List M.Step} {xs : List V} (i : Nat), StepsAt C H s xs → StepsAt C H (s.drop i) (xs.drop i)
  | s, xs, 0, h => by
    rw [List.drop_zero, List.drop_zero]
    exact h
  | [], xs, i + 1, h => by
    unfold StepsAt at h
    subst h
    unfold StepsAt
    rfl
  | y :: s, xs, i + 1, h => by
    unfold StepsAt at h
    obtain ⟨u, us, rfl, h1, h2⟩ := h
    rw [List.drop_succ_cons, List.drop_succ_cons]
    exact h2.drop i
theorem sl_any {K : PySem.W.Frag} {H : Hp} {Q : VK} {t : Addr} {xs : List V} {lo hi : Option Int} (h : H t = some (.tup xs)) (k : ∀ u G, Same H G → G u = some (.tup (cutV xs lo hi)) → Q (.ref u) G) : rSlA K (.ref t) lo hi H Q :=
  ⟨t, xs, rfl, SqT.of h, fun z => k t H (Same.refl H) (by
    unfold cutV
    rw [z.1, z.2, List.drop_zero, Nat.sub_zero, List.take_length]
    exact h), fun _ p hp => k p _ (Same.of_upd hp) upd_same⟩
theorem catA_own {K : PySem.W.Frag} {H : Hp} {Q : VK} {a b : Addr} {xs ys : List V} (ha : H a = some (.tup xs)) (hb : H b = some (.tup ys)) (hl : xs.length + ys.length ≤ sizeLine) (k : ∀ c H', Same H H' → H' c = some (.tup (xs ++ ys)) → Q (.ref c) H') : rCatA K (.ref a) (.ref b) H Q :=
  ⟨a, b, xs, ys, rfl, rfl, SqT.of ha, SqT.of hb, hl, fun z => k b H (Same.refl H) (by rw [z]; exact hb), fun _ z => k a H (Same.refl H) (by rw [z, List.append_nil]; exact ha), fun _ _ p hp => k p _ (Same.of_upd hp) upd_same⟩
theorem cut_lo (xs : List V) (k : Nat) : cutV xs (some (k : Int)) none = xs.drop k := Y.cut_from xs k
theorem cut_hi (xs : List V) (k : Nat) : cutV xs none (some (k : Int)) = xs.take k := by
  unfold cutV
  rw [HT.sIx_nat, HT.sIx_none, List.drop_zero, Nat.sub_zero]
  by_cases h : k ≤ xs.length
  · rw [Nat.min_eq_left h]
  · rw [Nat.min_eq_right (by omega), List.take_of_length_le (Nat.le_refl _), List.take_of_length_le (by omega)]
section
variable {P : Program} {w : World} {K : PySem.W.Frag} {mg : Str → Option Value} {base : Heap} {C : Addr}
def spLenW (C : Addr) : Sp := fun vs H Q _ => ∃ a wy, vs = [.ref a] ∧ WayAt C H wy a ∧ Q (.int ((M.Way.steps wy).length : Nat)) H
theorem scLW : FnScope ["self"] ["self"] (defScope sLen) := ⟨rfl, rfl, rfl, by decide +kernel, rfl, by decide +kernel, by decide +kernel⟩
theorem ok_len {f : Addr} {fd : FuncData} (F : Fun K "__len__" "Way.__len__" sLen f fd) (B : Bn mg) (T : Wt K mg C) : FnOk P w K mg base CX0 1 f fd ["self"] (spLenW C) := by
  refine F.ok scLW (fun vs H Q E h => ?_) (fun cdv A outer s H vs Q E hr h => ?_)
  · obtain ⟨a, wy, rfl, _⟩ := h
    rfl
  · obtain ⟨a, wy, rfl, hw, k⟩ := h
    obtain ⟨dx, fs, t, xs, h1, h2, h3, h4⟩ := steps_fld hw
    refine ⟨_, pss_one (ps_ret (pe_callB call_len_seq (by rfl) B.len PySem.boot_len (pa_cons (pe_fld (pv 0) rfl) pa_nil))), ?_⟩
    refine ⟨_, rfl, a, C, dx, fs, _, rfl, h1, T.cl, T.nS, h2, t, xs, rfl, .inr (SqT.of h3), ?_⟩
    rw [h4.len]
    exact k
/-- without a step -/
def spOutW (C : Addr) : Sp := fun vs H Q _ => ∃ (a : Addr) (i h : Nat) (s : List M.Step), vs = [.ref a, .int (i : Int)] ∧ WayAt C H (.mk h s) a ∧ i < s.length ∧ s.length ≤ 100 ∧ M.Way.fine (.mk h (s.take i ++ s.drop (i + 1))) ∧ ∀ c H', Same H H' → WayAt C H' (.mk h (s.take i ++ s.drop (i + 1))) c → Q (.ref c) H'
theorem scOW : FnScope ["self", "position"] ["self", "position"] (defScope sWithout) := ⟨rfl, rfl, rfl, by decide +kernel, rfl, by decide +kernel, by decide +kernel⟩
theorem ok_out {f : Addr} {fd : FuncData} (F : Fun K "without" "Way.without" sWithout f fd) (B : Bn mg) (T : Wt K mg C) (MW : Mw P w K mg base C) (DW : Df P w K mg base 2 "is_within" ["value", "least", "greatest"] spWithin) : FnOk P w K mg base CX0 8 f fd ["self", "position"] (spOutW C) := by
  obtain ⟨fI, fdI, GI, MK, bI⟩ := MW.ex
  obtain ⟨fW, fdW, GW, gW, kW, bW⟩ := DW.ex
  refine F.ok scOW (fun vs H Q E h => ?_) (fun cdv A outer s H vs Q E hr h => ?_)
  · obtain ⟨a, i, h, s, rfl, _⟩ := h
    rfl
  · obtain ⟨a, i, h, sts, rfl, hw, hi, hn, hf, k⟩ := h
    refine ⟨_, pss_cons (ps_if (pt_not (pt_val (pe_call GW (hr.mono (by decide)) rfl gW kW bW .nil pass0 (pa_cons (pv 1) (pa_cons pe_int (pa_cons (pe_op op_sub (pe_callB call_len_seq (by rfl) B.len PySem.boot_len (pa_cons (pe_fld (pv 0) rfl) pa_nil)) pe_int) pa_nil)))))) ps_dead pss_nil)
      (pss_one (ps_ret (pe_make MK GI hr rfl T.g bI .nil pass0 (pa_cons (pe_fld (pv 0) rfl) (pa_cons (pe_op op_catA (pe_slice sl_tupA (pe_fld (pv 0) rfl) po_none (po_some (pv 1))) (pe_slice sl_tupA (pe_fld (pv 0) rfl) (po_some (pe_op op_add (pv 1) pe_int)) po_none)) pa_nil))))), ?_⟩
    obtain ⟨da, fa, a1, a2⟩ := head_fld hw
    obtain ⟨dc, fc, t1, xs, c1, c2, c3, c4⟩ := steps_fld hw
    have lx := c4.len
    have lx2 : xs.length = sts.length := lx
    refine ⟨_, rfl, _, rfl, a, C, dc, fc, _, rfl, c1, T.cl, T.nS, c2, t1, _, rfl, .inr (SqT.of c3), _, _, rfl, rfl, (i : Int), 0, _, rfl, ?_⟩
    rw [lx2, decide_eq_true (show (0 : Int) ≤ (i : Int) ∧ (i : Int) ≤ (sts.length : Int) - 1 by omega)]
    refine ⟨_, rfl, iteF ?_⟩
    refine ⟨_, rfl, a, C, da, fa, _, rfl, a1, T.cl, T.nH, a2, ?_⟩
    refine ⟨_, rfl, a, C, dc, fc, _, rfl, c1, T.cl, T.nS, c2, ?_⟩
    dsimp only [tNoPart]
    refine ⟨_, rfl, _, rfl, ?_⟩
    refine sl_any c3 fun u1 G1 s1 h1 => ?_
    refine ⟨_, rfl, a, C, dc, fc, _, rfl, s1 _ _ c1, T.cl, T.nS, c2, _, rfl, _, _, rfl, rfl, _, rfl, ?_⟩
    dsimp only [tNoPart]
    refine sl_any (s1 _ _ c3) fun u2 G2 s2 h2 => ?_
    rw [cut_hi] at h1
    rw [show ((i : Int) + 1) = ((i + 1 : Nat) : Int) from rfl, cut_lo] at h2
    refine catA_own (s2 _ _ h1) h2 (by rw [List.length_take, List.length_drop]; exact Nat.le_trans (show _ ≤ 200 by omega) (by decide)) fun c G3 s3 hc => ?_
    have s4 := (s1.trans s2).trans s3
    exact made_way (.inr hc) (((c4.mono s4).take i).app ((c4.mono s4).drop (i + 1))) hf fun x H' s5 wa => k x H' (s4.trans s5) wa
/-- ways alike in all their parts -/
def RWy (C : Addr) (n : Nat) : Addr → Addr → Hp → Prop := fun a b H => ∃ wy, WayAt C H wy a ∧ WayAt C H wy b ∧ wy.depth ≤ n
theorem mon_rwy (C : Addr) (n : Nat) : ∀ a b H H', Ext H H' → RWy C n a b H → RWy C n a b H' := fun a b H H' e h => by
  obtain ⟨wy, h1, h2, h3⟩ := h
  exact ⟨wy, h1.mono e, h2.mono e, h3⟩
/-- an item of a step: plain, or a way -/
def DItW (C : Addr) (n : Nat) : Eqv := fun x y H => DFlat x y H ∨ DIns C (RWy C n) x y H
theorem mon_itw (C : Addr) (n : Nat) : Mon (DItW C n) := mon_flat.or (mon_ins (mon_rwy C n))
theorem int_flat (z : Int) : eqV (.int z) (.int z) = true := by
  show (z == z) = true
  exact beq_self_eq_true z
theorem str_flat (s : Str) : eqV (.str s) (.str s) = true := by
  show (s == s) = true
  exact beq_self_eq_true s
theorem step_eq {H : Hp} {n : Nat} : ∀ {s : M.Step} {x y : V}, M.Step.dep s ≤ n → StepAt C H s x → StepAt C H s y → DTup K (DItW C n) x y H
  | .road size ts lw, x, y, d, h1, h2 => by
    unfold StepAt at h1 h2
    obtain ⟨t, rfl, a⟩ := h1
    obtain ⟨u, rfl, b⟩ := h2
    exact ⟨t, u, _, _, rfl, rfl, SqT.of a, SqT.of b, .cons (.inl ⟨rfl, rfl, str_flat _⟩) (.cons (.inl ⟨rfl, rfl, int_flat _⟩) (.cons (.inl ⟨rfl, rfl, str_flat _⟩) (.cons (.inl ⟨rfl, rfl, str_flat _⟩) .nil)))⟩
  | .join most, x, y, d, h1, h2 => by
    unfold StepAt at h1 h2
    obtain ⟨t, rfl, a⟩ := h1
    obtain ⟨u, rfl, b⟩ := h2
    exact ⟨t, u, _, _, rfl, rfl, SqT.of a, SqT.of b, .cons (.inl ⟨rfl, rfl, str_flat _⟩) (.cons (.inl ⟨rfl, rfl, int_flat _⟩) .nil)⟩
  | .tunnel w most tw, x, y, d, h1, h2 => by
    unfold StepAt at h1 h2
    obtain ⟨t, a0, rfl, a, wa⟩ := h1
    obtain ⟨u, b0, rfl, b, wb⟩ := h2
    obtain ⟨da, fa, g1, _⟩ := head_fld wa
    obtain ⟨db, fb, g2, _⟩ := head_fld wb
    exact ⟨t, u, _, _, rfl, rfl, SqT.of a, SqT.of b, .cons (.inl ⟨rfl, rfl, str_flat _⟩) (.cons (.inr ⟨a0, b0, da, db, fa, fb, rfl, rfl, g1, g2, w, wa, wb, d⟩) (.cons (.inl ⟨rfl, rfl, int_flat _⟩) (.cons (.inl ⟨rfl, rfl, str_flat _⟩) .nil)))⟩
theorem steps_eq {H : Hp} {n : Nat} : ∀ {s : List M.Step} {xs ys : List V}, M.Step.deepest s ≤ n → StepsAt C H s xs → StepsAt C H s ys → Prs (DTup K (DItW C n)) xs ys H
  | [], xs, ys, d, h1, h2 => by
    unfold StepsAt at h1 h2
    subst h1 h2
    exact .nil
  | s :: r, xs, ys, d, h1, h2 => by
    rw [M.deep_cons] at d
    unfold StepsAt at h1 h2
    obtain ⟨x, xs, rfl, a1, a2⟩ := h1
    obtain ⟨y, ys, rfl, b1, b2⟩ := h2
    exact .cons (step_eq (by omega) a1 b1) (steps_eq (by omega) a2 b2)
theorem scWEq : FnScope ["self", "other"] ["self", "other"] (defScope sWEq) := ⟨rfl, rfl, rfl, by decide +kernel, rfl, by decide +kernel, by decide +kernel⟩
theorem ok_weq {k n : Nat} {f : Addr} {fd : FuncData} (F : Fun K "__eq__" "Way.__eq__" sWEq f fd) (B : Bn mg) (T : Wt K mg C) (G0 : FnOk P w K mg base CX0 k f fd ["self", "other"] (spEq (RWy C n))) (O : WO.Own K C f "__eq__") (b : Binds K fd ["self", "other"] []) : FnOk P w K mg base CX0 (k + 3) f fd ["self", "other"] (spEq (RWy C (n + 1))) := by
  refine F.ok scWEq (fun vs H Q E h => ?_) (fun cdv A outer s H vs Q E hr h => ?_)
  · obtain ⟨a, b, rfl, _⟩ := h
    rfl
  · obtain ⟨x, y, rfl, ⟨wy, ha, hb, hd⟩, kk⟩ := h
    refine ⟨_, pss_one (ps_ret (pe_and (pe_callB call_isi (by rfl) B.isi (by decide +kernel) (pa_cons (pv 1) (pa_cons (pe_glob (v := .ref C) rfl T.g rfl) pa_nil)))
      (pe_and (pe_cmpR op_eq (pe_fld (pv 0) rfl) (pe_fld (pv 1) rfl) (nomark _))
      (pe_one (pe_cmpR (op_eqG (rcG_tup (mon_tup (mon_itw C n)) (eqG_tup (mon_itw C n) ((eqG_flat.mono (Nat.zero_le k)).or (eqG_ins G0 O.at' O.fn b pass0)))) hr) (pe_fld (pv 0) rfl) (pe_fld (pv 1) rfl) (nomark _)))))), ?_⟩
    obtain ⟨da, fa, a1, a2⟩ := head_fld ha
    obtain ⟨db, fb, b1, b2⟩ := head_fld hb
    obtain ⟨dc, fc, t1, xs, c1, c2, c3, c4⟩ := steps_fld ha
    obtain ⟨de, fe, t2, ys, e1, e2, e3, e4⟩ := steps_fld hb
    refine ⟨_, rfl, _, _, _, _, true, rfl, .own C, .base (.ins b1 T.cl T.iA T.iN T.iT T.iM), ?_, _, rfl, iteT ?_⟩
    · unfold PySem.W.kitOne
      rw [if_pos (by simp)]
    refine ⟨_, rfl, x, C, da, fa, _, rfl, a1, T.cl, T.nH, a2, _, rfl, y, C, db, fb, _, rfl, b1, T.cl, T.nH, b2, rfl, _, rfl, ?_⟩
    rw [decide_eq_true rfl]
    refine iteT ⟨_, rfl, x, C, dc, fc, _, rfl, c1, T.cl, T.nS, c2, _, rfl, y, C, de, fe, _, rfl, e1, T.cl, T.nS, e2, ?_⟩
    obtain ⟨wh, st⟩ := wy
    unfold M.Way.depth at hd
    change StepsAt C H st xs at c4
    change StepsAt C H st ys at e4
    exact ⟨⟨t1, t2, xs, ys, rfl, rfl, SqT.of c3, SqT.of e3, steps_eq (by omega) c4 e4⟩, kk⟩
theorem df_weq {f : Addr} {fd : FuncData} (F : Fun K "__eq__" "Way.__eq__" sWEq f fd) (B : Bn mg) (T : Wt K mg C) (O : WO.Own K C f "__eq__") (b : Binds K fd ["self", "other"] []) : ∀ n, FnOk P w K mg base CX0 (1 + 3 * n) f fd ["self", "other"] (spEq (RWy C n))
  | 0 => F.ok scWEq (fun vs H Q E h => by
      obtain ⟨a, b, rfl, _⟩ := h
      rfl) (fun cdv A outer s H vs Q E hr h => by
      exfalso
      obtain ⟨a, b, _, ⟨wy, _, _, hd⟩, _⟩ := h
      have := M.depth_pos wy
      omega)
  | n + 1 => ok_weq F B T (df_weq F B T O b n) O b
end
end WP

end
section
set_option autoImplicit false
set_option Elab.async false
set_option linter.all false
set_option maxRecDepth 100000
set_option maxHeartbeats 4000000
/-! ## forms alike; a def called under guards -/
namespace G
open PySem PySem.Spec PyProof.Rows L2
section
variable {X : Cx} {CX : CXT} {k : Nat} {f : Addr} {fd : FuncData} {ps : List Str} {sp : Sp} {E : XK} {x : Str} {p pos : Pos} {e : Expr} {es : List Expr} {t : TA}
theorem go_fn {pins : List (Addr × Obj)} {σ : L2.St} {H : Hp} {s : Shared} {Q : VK} {us : List Value} {vs : List V} (hg : X.A.guards = some []) (F : Ok X.prog X.w X.K X.mg X.base CX k f fd ps sp) (hr : Room k X.A) (hb : Binds X.K fd ps [])
    (hx : Passes CX X E) (I : Inv X pins σ H s) (rv : Vals vs us) (h : sp vs H Q E) : wpAny (model X.prog X.w) X.A (call (.ref f) us) (EP X pins σ Q) X.xe s := by
  have b := hb s us I.kIn (by rw [List.append_nil, ← rv.length]; exact F.len _ _ _ _ h)
  rw [List.append_nil] at b
  refine wpAny_call (codeAny_mono (F.go X.A hg X.stack s H ⟨us, []⟩ us vs Q E hr I.env0 b rv h) ?_)
  intro r s' z
  match r, z with
  | .error e, z => exact hx pins σ H s e s' I z
  | .ok (.ret u), z => exact I.after z
  | .ok .next, z => exact z.elim
  | .ok .brk, z => exact z.elim
  | .ok .cont, z => exact z.elim
theorem pe_callG (hgu : X.A.guards = some []) (F : Ok X.prog X.w X.K X.mg X.base CX k f fd ps sp) (hr : Room k X.A) (hl : Gl X x) (hm : X.mg x = some (.ref f)) (hk : PySem.W.keepIn X.K (.ref f) = true) (hb : Binds X.K fd ps []) (hx : Passes CX X E)
    (ha : PA X (e :: es) t) (hdb : (x == ("__debug__" : Str)) = false := by decide) (he : starEach (e :: es) X.env = (false, eval e X.env) :: starEach es X.env := by rfl) (hpl : (backTo pos (starEach es X.env)).any (·.1) = false := by rfl) :
    PE X (.Call (.Name x p) (e :: es) [] pos) (tCall sp [] E t) := ⟨fun pins s σ H Q I h =>
  wpAny_Call_Name_kw (ld_glob I hl hm (PySem.W.callWith_K (h₀ := X.base) I.ok.mod.kin hk (thn (ha.run pos pins s σ H _ I h) fun us s1 ⟨vs, H1, I1, r, q⟩ => ⟨I1.kIn,
    go_fn hgu F hr hb hx I1 r ((congrArg (fun z => sp z H1 Q E) (List.append_nil vs)).mp q)⟩) he hpl) hdb)⟩
end
structure Du (P : Program) (w : World) (K : PySem.W.Frag) (mg : Str → Option Value) (base : Heap) (k : Nat) (x : Str) (ps : List Str) (sp : Sp) : Prop where
  ex : ∃ (f : Addr) (fd : FuncData), Ok P w K mg base CX0 k f fd ps sp ∧ mg x = some (.ref f) ∧ PySem.W.keepIn K (.ref f) = true ∧ Binds K fd ps []
end G
namespace CP
open PySem L2 G Y
structure Oe (P : Program) (w : World) (K : PySem.W.Frag) (mg : Str → Option Value) (base : Heap) (C : Addr) (k : Nat) (m : Str) (ps : List Str) (sp : Sp) : Prop where
  ex : ∃ (f : Addr) (fd : FuncData), FnOk P w K mg base CX0 k f fd ps sp ∧ WO.Own K C f m ∧ Binds K fd ps []
theorem FAt.mono {H H' : Hp} (s : Same H H') {fa : M.FateA} {v : V} (h : FAt H fa v) : FAt H' fa v := by
  cases fa with
  | silent p =>
    obtain ⟨t, q, e, h1, h2⟩ := h
    exact ⟨t, q, e, s _ _ h1, s _ _ h2⟩
  | told z p =>
    obtain ⟨t, q, e, h1, h2⟩ := h
    exact ⟨t, q, e, s _ _ h1, s _ _ h2⟩
  | comes n l =>
    obtain ⟨t, e, h1⟩ := h
    exact ⟨t, e, s _ _ h1⟩
theorem FormAt.mono {C : Addr} {H H' : Hp} (s : Same H H') {L : Option Int} {wy : M.Way} {t : Addr} (h : FormAt C H L wy t) : FormAt C H' L wy t := by
  obtain ⟨s1, s2, c, xs1, xs2, a1, a2, a3, a4, a5, a6⟩ := h
  exact ⟨s1, s2, c, xs1, xs2, s _ _ a1, s _ _ a2, a3.mono s, s _ _ a4, a5.mono s, a6.mono s⟩
/-- stairs, item by item -/
theorem ss_prs {K : PySem.W.Frag} {H : Hp} : ∀ {l : List M.Stair} {xs ys : List V}, SsAt H l xs → SsAt H l ys → Prs (DTup K DFlat) xs ys H
  | [], xs, ys, h, h2 => by
    cases h
    cases h2
    exact .nil
  | s :: l, xs, ys, h, h2 => by
    cases h with
    | cons e h =>
      cases h2 with
      | cons e2 h2 =>
        refine .cons ?_ (ss_prs h h2)
        obtain ⟨t, rfl, f1⟩ := e
        obtain ⟨u, rfl, f2⟩ := e2
        refine ⟨t, u, _, _, rfl, rfl, SqT.of f1, SqT.of f2, .cons ⟨rfl, rfl, by show (_ == _) = true; exact beq_self_eq_true _⟩ (.cons ?_ .nil)⟩
        cases s.2 with
        | none => exact ⟨rfl, rfl, rfl⟩
        | some z => exact ⟨rfl, rfl, by simp [ansV, eqV]⟩
section
variable {P : Program} {w : World} {K : PySem.W.Frag} {mg : Str → Option Value} {base : Heap} {C CW : Addr}
theorem ok_ceq {f : Addr} {fd : FuncData} (F : Fun K "__eq__" "Chain.__eq__" sCEq f fd) (B : Bn mg) (T : Ct K mg C) (T2 : Cn2 K C) : FnOk P w K mg base CX0 1 f fd ["self", "other"] (spCEq C) := by
  refine F.ok scEq (fun vs H Q E h => ?_) (fun cdv A outer s H vs Q E hr h => ?_)
  · obtain ⟨a, b, l, rfl, _⟩ := h
    rfl
  · obtain ⟨a, b, l, rfl, ha, hb, k⟩ := h
    refine ⟨_, pss_one (ps_ret (pe_and (pe_callB call_isi (by rfl) B.isi (by decide +kernel) (pa_cons (pv 1) (pa_cons (pe_glob (v := .ref C) rfl T.g rfl) pa_nil)))
      (pe_one (pe_cmpR (op_eqD hr.units) (pe_fld (pv 0) rfl) (pe_fld (pv 1) rfl) (nomark _))))), ?_⟩
    obtain ⟨dx, t, u, h1, h2, h3⟩ := ha
    obtain ⟨dy, t', u', g1, g2, g3⟩ := hb
    refine ⟨_, rfl, _, _, _, _, true, rfl, .own C, .base (.ins g1 T.cl T2.iA T2.iN T2.iT T2.iM), ?_, _, rfl, iteT ⟨_, rfl, a, C, dx, _, _, rfl, h1, T.cl, T.nC, cfl_cuts t u, _, rfl, b, C, dy, _, _, rfl, g1, T.cl, T.nC, cfl_cuts t' u', ?_⟩⟩
    · unfold PySem.W.kitOne
      rw [if_pos (by simp)]
    · exact ⟨_, _, .tup (SqT.of h2) (dp_ints l), .tup (SqT.of g2) (dp_ints l), shp_tup l, shp_tup l, by rw [eqv_tup]; exact k _ (Same.refl _)⟩
/-- two chains with the same cuts -/
def RCh (C : Addr) : Addr → Addr → Hp → Prop := fun a b H => ∃ l, ChAt C H l a ∧ ChAt C H l b
theorem ne_chain {H : Hp} {Q : VK} {x y : Addr} {l : List Nat} (hx : ChAt C H l x) (hy : ChAt C H l y) (k : ∀ G, Same H G → Q (.bl false) G) : WO.rNeO C (spCEq C) E0 (.ref x) (.ref y) H Q :=
  ⟨x, y, rfl, rfl, ch_isC hx, ch_isC hy, x, y, l, rfl, hx, hy, fun G s => ⟨_, rfl, k G s⟩⟩
/-- an item of a form: stairs, or a chain -/
def DIt (K : PySem.W.Frag) (C : Addr) : Eqv := fun x y H => DTup K (DTup K DFlat) x y H ∨ DIns C (RCh C) x y H
theorem mon_it (K : PySem.W.Frag) (C : Addr) : Mon (DIt K C) := (mon_tup (mon_tup mon_flat)).or (mon_ins fun a b H H' e h => by
  obtain ⟨l, h1, h2⟩ := h
  exact ⟨l, h1.mono e, h2.mono e⟩)
theorem eqG_it {X : Cx} {f : Addr} {fd : FuncData} (F : FnOk X.prog X.w X.K X.mg X.base CX0 1 f fd ["self", "other"] (spCEq C)) (O : WO.Own X.K C f "__eq__") (b : Binds X.K fd ["self", "other"] []) : EqG X 2 (DIt X.K C) :=
  (eqG_tup (mon_tup mon_flat) (eqG_tup mon_flat eqG_flat)).or (eqG_ins (R := RCh C) (E := E0) ((F.imp fun vs H Q E h => by
    obtain ⟨a, b, e, ⟨l, h1, h2⟩, k⟩ := h
    exact ⟨a, b, l, e, h1, h2, k⟩).mono (by decide)) O.at' O.fn b pass0)
theorem ne_form {H : Hp} {Q : VK} {L : Option Int} {wy : M.Way} {t u : Addr} (h1 : FormAt C H L wy t) (h2 : FormAt C H L wy u) (k : ∀ G, Same H G → Q (.bl false) G) : NQ.rNeT K (DIt K C) (.ref t) (.ref u) H Q := by
  obtain ⟨s1, s2, c, xs1, xs2, a1, a2, a3, a4, a5, a6⟩ := h1
  obtain ⟨r1, r2, d, ys1, ys2, b1, b2, b3, b4, b5, b6⟩ := h2
  refine ⟨⟨t, u, _, _, rfl, rfl, SqT.of a1, SqT.of b1, .cons ?_ (.cons ?_ (.cons ?_ .nil))⟩, k⟩
  · exact .inl ⟨s1, r1, xs1, ys1, rfl, rfl, SqT.of a2, SqT.of b2, ss_prs a3 b3⟩
  · exact .inl ⟨s2, r2, xs2, ys2, rfl, rfl, SqT.of a4, SqT.of b4, ss_prs a5 b5⟩
  · obtain ⟨dx, fs, e1⟩ := ch_isC a6
    obtain ⟨dy, gs, e2⟩ := ch_isC b6
    exact .inr ⟨c, d, dx, dy, fs, gs, rfl, rfl, e1, e2, _, a6, b6⟩
end
end CP

end
section
set_option autoImplicit false
set_option Elab.async false
set_option linter.all false
set_option maxRecDepth 100000
set_option maxHeartbeats 4000000
/-! ## the way that was read; read_way -/
namespace CP
open PySem L2 G Y
open TL TX
abbrev sRead : Stmt := S.top 42
section
variable {P : Program} {w : World} {K : PySem.W.Frag} {mg : Str → Option Value} {base : Heap} {CR CB CW : Addr}
def spRWay (CR CB CW : Addr) : Sp := fun vs H Q _ => ∃ (x : Addr) (st : List Fr) (f : Fr) (n h : Nat) (H0 : Hp), vs = [.ref x] ∧ RdAt CR CB CW H0 H st n x ∧ Closes 0 st [f] ∧ f.head = some h ∧ M.Way.fine (.mk h f.steps) ∧ ∀ a H', Same H0 H' → WP.WayAt CW H' (.mk h f.steps) a → Q (.ref a) H'
theorem scRy : FnScope ["self"] ["self"] (defScope sRWay) := ⟨rfl, rfl, rfl, by decide +kernel, rfl, by decide +kernel, by decide +kernel⟩
theorem ok_rway {f : Addr} {fd : FuncData} (F : Fun K "way" "Reader.way" sRWay f fd) (B : Bn mg) (T : Rt K mg CR) (TB : Bt K mg CB) (TW : WP.Wt K mg CW) (ME : Mr P w K mg base CR 8 "_end_inner" ["self"] (spREnd CR CB CW)) (MW : WP.Mw P w K mg base CW) : FnOk P w K mg base CX0 9 f fd ["self"] (spRWay CR CB CW) := by
  obtain ⟨fE, fdE, GE, mE, bE⟩ := ME.ex
  obtain ⟨fI, fdI, GI, MI, bI⟩ := MW.ex
  have gI := TW.g
  refine F.ok scRy (fun vs H Q E h => ?_) (fun cdv A outer s H vs Q E hr h => ?_)
  · obtain ⟨x, st, f, n, h, H0, rfl, _⟩ := h
    rfl
  · obtain ⟨x, st, f, n, h, H0, rfl, hR, cl, hh, hf, k⟩ := h
    refine ⟨_, pss_cons (ps_while PassesOwn.never (pt_cmpR (op_gt) (pe_callB call_len_seq (by rfl) B.len PySem.boot_len (pa_cons (pe_fld (pv 0) rfl) pa_nil)) (pe_int) (nomark _)) (pss_one (ps_expr (pe_meth0 (pv 0) T.cl mE GE (hr.mono (by omega)) bE .nil pass0))))
      (pss_one (ps_ret (pe_make MI GI (hr.mono (by omega)) rfl gI bI .nil pass0 (pa_cons (pe_fld (pe_ix ix_list (pe_fld (pv 0) rfl) (pe_int) (fun _ _ => rfl)) rfl) (pa_cons (pe_fld (pe_ix ix_list (pe_fld (pv 0) rfl) (pe_int) (fun _ _ => rfl)) rfl) pa_nil))))), ?_⟩
    have f12 : f.steps.length ≤ 12 := by
      have := hf
      unfold M.Way.fine at this
      exact this.2.1.2
    refine ⟨fun m σ G => ∃ st, m = st.length ∧ RdAt CR CB CW H0 G st n x ∧ Closes 0 st [f] ∧ σ = [some (.ref x)], ⟨_, st, rfl, hR, cl, rfl⟩, ?_⟩
    rintro m σ G ⟨st, rfl, ⟨dx, b, ps, hP⟩, cl, rfl⟩
    refine ⟨_, rfl, x, CR, dx, _, _, rfl, hP.hx, T.cl, T.nB, rf_look.1, b, _, rfl, .inl (SqL.of hP.hb), _, _, rfl, rfl, _, rfl, ?_⟩
    rw [bg_len, hP.stk.len]
    cases cl with
    | done hl =>
      refine iteF ?_
      obtain ⟨p, qs, rfl, g1, g2⟩ := stk_cons hP.stk
      have e0 : qs = [] := g2
      subst e0
      obtain ⟨dxf, xs, w1, w2, w3⟩ := g1.ex
      rw [hh] at w1
      have t0 : bgV [p] = [V.ref p.1] := rfl
      have hb : SqL K G b [V.ref p.1] := SqL.of hP.hb
      refine ⟨_, rfl, x, CR, dx, _, _, rfl, hP.hx, T.cl, T.nB, rf_look.1, b, _, _, _, rfl, rfl, hb, at_k0, p.1, CB, dxf, _, _, rfl, w1, TB.cl, TB.nH, bf_look.2.2.1, ?_⟩
      refine ⟨_, rfl, x, CR, dx, _, _, rfl, hP.hx, T.cl, T.nB, rf_look.1, b, _, _, _, rfl, rfl, hb, at_k0, p.1, CB, dxf, _, _, rfl, w1, TB.cl, TB.nS, bf_look.2.2.2, ?_⟩
      intro y dy hy hdy ne
      exact ⟨y, p.2, dy, h, xs, f.steps, G, rfl, upd_same, hy, (of_upd hdy).trans (of_upd (by rw [upd_ne ne.symm]; exact hy)), .inl w2, w3, hf, fun H2 s2 wa => ⟨rfl, k y H2 (hP.sm.trans s2) wa⟩⟩
    | @close c a r2 st2 h2 m t hl o1 o2 o3 cl =>
      rw [decide_eq_true (by omega)]
      refine iteT ⟨fun σ' G' => (∃ st, st.length = (a :: r2).length ∧ RdAt CR CB CW H0 G' st n x ∧ Closes 0 st [f]) ∧ σ' = [some (.ref x)], fun σ' G' ⟨⟨st, e, h1, h2⟩, h3⟩ => ⟨_, by rw [List.length_cons]; exact Nat.lt_succ_self _, st, e.symm, h1, h2, h3⟩, ?_⟩
      refine ⟨_, rfl, x, dx, _, rfl, hP.hx, rf_no (by decide +kernel) (by decide +kernel), x, c, a, r2, n, h2, m, t, H0, rfl, ⟨dx, b, _, hP⟩, o1, o2, o3, ?_, fun G' hR' => ⟨⟨{ a with steps := a.steps ++ [.tunnel (.mk h2 c.steps) m t] } :: r2, rfl, hR', cl⟩, rfl⟩⟩
      have := cl.few f12
      rw [List.length_append] at this
      omega
def spRead (CW : Addr) : Sp := fun vs H Q _ => ∃ wy : M.Way, vs = [.str (TX.S (text wy))] ∧ wy.fine ∧ ∀ a H', Same H H' → WP.WayAt CW H' wy a → Q (.ref a) H'
theorem scRd : FnScope ["text", "lines", "reader", "at", "line"] ["text"] (defScope sRead) := ⟨rfl, rfl, rfl, by decide +kernel, rfl, by decide +kernel, by decide +kernel⟩
mutual
theorem wl_all : ∀ (w : M.Way) (lv : Nat), w.fine → lv + w.depth ≤ 3 → ∀ x ∈ wl lv w, (∀ v ∈ liW x.2, Wd v) ∧ x.1 ≤ 3
  | .mk h s, lv, hf, hd, x, hx => by
    unfold M.Way.fine at hf
    unfold M.Way.depth at hd
    unfold wl at hx
    rcases List.mem_cons.mp hx with e | e
    · rw [e]
      exact ⟨headW_wd hf.1.2, by show lv ≤ 3; omega⟩
    · exact sls_all s lv h hf.2.2.1 (by omega) x e
theorem sls_all : ∀ (s : List M.Step) (lv h : Nat), M.Step.fineAll h s → lv + 1 + M.Step.deepest s ≤ 3 → ∀ x ∈ sls lv s, (∀ v ∈ liW x.2, Wd v) ∧ x.1 ≤ 3
  | [], lv, h, _, _, x, hx => by
    unfold sls at hx
    cases hx
  | y :: r, lv, h, hf, hd, x, hx => by
    unfold M.Step.fineAll at hf
    rw [M.deep_cons] at hd
    unfold sls at hx
    rcases List.mem_append.mp hx with e | e
    · exact sl_all y lv h hf.1 (by omega) x e
    · exact sls_all r lv h hf.2 (by omega) x e
theorem sl_all : ∀ (y : M.Step) (lv h : Nat), y.fine h → lv + 1 + y.dep ≤ 3 → ∀ x ∈ sl lv y, (∀ v ∈ liW x.2, Wd v) ∧ x.1 ≤ 3
  | .road a b c, lv, h, hf, hd, x, hx => by
    unfold sl at hx
    rw [List.mem_singleton.mp hx]
    exact ⟨plainW_wd hf, by show lv ≤ 3; omega⟩
  | .join a, lv, h, hf, hd, x, hx => by
    unfold sl at hx
    rw [List.mem_singleton.mp hx]
    exact ⟨plainW_wd hf, by show lv ≤ 3; omega⟩
  | .tunnel w m t, lv, h, hf, hd, x, hx => by
    have hf0 := hf
    unfold M.Step.fine at hf
    have hd2 : lv + 1 + w.depth ≤ 3 := hd
    unfold sl at hx
    rcases List.mem_cons.mp hx with e | e
    · rw [e]
      exact ⟨plainW_wd hf0, by show lv ≤ 3; omega⟩
    · exact wl_all w (lv + 1) hf.1 (by omega) x e
end
theorem ok_read {f : Addr} {fd : FuncData} (F : Fun K "read_way" "read_way" sRead f fd) (B : Bn mg) (hstr : mg "str" = none) (T : Rt K mg CR) (MN : Mn P w K mg base CR 3 ["self"] (spRInit CR CB CW)) (MT : Mr P w K mg base CR 9 "takes" ["self", "line"] (spTakes CR CB CW)) (MI : Mr P w K mg base CR 1 "is_whole" ["self"] (spWhole CR CB CW))
    (MY : Mr P w K mg base CR 9 "way" ["self"] (spRWay CR CB CW)) : FnOk P w K mg base CX0 10 f fd ["text"] (spRead CW) := by
  obtain ⟨fN, fdN, GN, mN, bN⟩ := MN.ex
  obtain ⟨fT, fdT, GT, mT, bT⟩ := MT.ex
  obtain ⟨fI, fdI, GI, mI, bI⟩ := MI.ex
  obtain ⟨fY, fdY, GY, mY, bY⟩ := MY.ex
  have gN := T.g
  refine F.ok scRd (fun vs H Q E h => ?_) (fun cdv A outer s H vs Q E hr h => ?_)
  · obtain ⟨wy, rfl, _⟩ := h
    rfl
  · obtain ⟨wy, rfl, hf, k⟩ := h
    refine ⟨_, pss_cons (ps_if (pt_not (pt_val (pe_callB call_isi (by rfl) B.isi (by decide +kernel) (pa_cons (pv 0) (pa_cons (pe_bltn (v := .ty "str") (by rfl) hstr (by decide +kernel) rfl) pa_nil))))) (ps_dead) (pss_nil))
      (pss_cons (ps_set (i := 1) scRd.nd rfl (Or.inl rfl) (pe_split (pv 0) (pe_str)))
      (pss_cons (ps_set (i := 2) scRd.nd rfl (Or.inl rfl) (pe_make0 mN GN (hr.mono (by omega)) rfl gN bN .nil pass0))
      (pss_cons (ps_for PassesOwn.never rfl (pi_enum (by rfl) B.enum (pa_cons (pv 1) pa_nil)) (pg_tup (by rfl) (pgs_cons (pg_name (i := 3) scRd.nd rfl (Or.inl rfl)) (pgs_cons (pg_name (i := 4) scRd.nd rfl (Or.inl rfl)) pgs_nil))) (pss_one (ps_if (pt_not (pt_val (pe_meth (pv 2) T.cl mT GT (hr.mono (by omega)) bT .nil pass0 (pa_cons (pv 4) pa_nil)))) (ps_dead) (pss_nil))))
      (pss_cons (ps_if (pt_not (pt_val (pe_meth0 (pv 2) T.cl mI GI (hr.mono (by omega)) bI .nil pass0))) (ps_dead) (pss_nil))
      (pss_one (ps_ret (pe_meth0 (pv 2) T.cl mY GY (hr.mono (by omega)) bY .nil pass0))))))), ?_⟩
    obtain ⟨len1, len2⟩ := lines_len hf
    have big : ∀ {n : Nat}, n ≤ 100000 → n ≤ sizeLine := fun h => Nat.le_trans h (by decide)
    have lt : (TX.S (text wy)).length ≤ 81 * 61 := by
      rw [S_len]
      have := join_len (S := [10]) 60 1 (by decide) (ps := Way.lines wy) len1
      unfold text
      omega
    refine ⟨_, rfl, _, _, _, _, true, rfl, .ty _, .base (.str _), kit_ty (by decide +kernel), _, rfl, iteF ?_⟩
    try unfold tNext
    dsimp only
    refine set_then (i := 1) ⟨_, rfl, ⟨_, rfl⟩, _, _, rfl, rfl, by decide +kernel, big (by omega), fun l hl => ?_⟩
    have nn : Way.lines wy ≠ [] := by
      obtain ⟨h, s⟩ := wy
      unfold Way.lines
      simp
    have e1 : Txt.split (TX.S (text wy)) ("\n" : Str) = (Way.lines wy).map TX.S := by
      rw [k_nl]
      exact split_lines (fun l hl => ((way_lines wy 3 hf (fine_dep hf)).1 l hl).2) nn
    rw [e1, ← sv_strs]
    have s0 := of_upd (o := .lst (sv (Way.lines wy))) hl
    have el : upd H l (.lst (sv (Way.lines wy))) l = some (.lst (sv (Way.lines wy))) := upd_same
    generalize upd H l (.lst (sv (Way.lines wy))) = H0 at s0 el ⊢
    dsimp only
    refine set_then (i := 2) ?_
    intro x dx hx hdx ne
    refine ⟨x, dx, H0, rfl, upd_same, hx, (of_upd hdx).trans (of_upd (by rw [upd_ne ne.symm]; exact hx)), fun H1 hR => ⟨rfl, ?_⟩⟩
    obtain ⟨stE, runs, cl, b1, q1, eE, nE⟩ := runs_text hf
    have lw := text_lines wy
    have wa := wl_all wy 0 hf (by have := fine_dep hf; omega)
    refine ⟨_, rfl, l, _, rfl, SqL.of (hR.sm _ _ el), ?_⟩
    have llen : (sv (Way.lines wy)).length = (wl 0 wy).length := by rw [sv_len, lw, List.length_map]
    refine for_it walk_enum (fun i σ G => ∃ st n q3 q4, RdAt CR CB CW H0 G st n x ∧ Runs (st, n) ((wl 0 wy).drop i) (stE, wy.size) ∧ σ = [some (.str (TX.S (text wy))), some (.ref l), some (.ref x), q3, q4])
      ⟨_, 0, _, _, hR, by rw [List.drop_zero]; exact runs, rfl⟩ (fun i σ G _ z => by obtain ⟨st, n, q3, q4, hR, _⟩ := z; exact SqL.of (hR.sm _ _ el)) ?_ ?_
    · rintro i v σ G G' hi ⟨st, n, q3, q4, hR, rn, rfl⟩ ⟨T0, a, b, rfl, nT, rfl, ha, hb⟩
      have ha : V.int (i : Nat) = a := Option.some.inj ha
      subst ha
      obtain ⟨ln, hln, rfl⟩ := sv_get hb
      rw [lw, List.getElem?_map] at hln
      obtain ⟨y, hy, rfl⟩ : ∃ y, (wl 0 wy)[i]? = some y ∧ lineOf y = ln := by
        cases e : (wl 0 wy)[i]? with
        | none => rw [e] at hln; cases hln
        | some y => rw [e] at hln; exact ⟨y, rfl, Option.some.inj hln⟩
      rw [drop_at hy] at rn
      obtain ⟨lv, li⟩ := y
      have wy1 := wa _ (List.mem_of_getElem? hy)
      have hR1 := hR.same (of_upd (o := .tup [.int (i : Nat), .str (TX.S (lineOf (lv, li)))]) nT)
      refine ⟨T0, _, rfl, SqT.of upd_same, rfl, _, _, rfl, _, _, rfl, rfl, ?_⟩
      generalize upd G T0 (.tup [.int (i : Nat), .str (TX.S (lineOf (lv, li)))]) = G1 at hR1 ⊢
      obtain ⟨dx1, b1', hx1⟩ := hR1.ins
      generalize hz : ((stE, wy.size) : List Fr × Nat) = z at rn
      cases rn with
      | @cons _ y2 _ _ _ fd rn =>
        obtain ⟨st2, n2⟩ := y2
        subst hz
        exact ⟨_, rfl, x, dx1, _, rfl, hx1, rf_no (by decide +kernel) (by decide +kernel), _, rfl, x, st, st2, n, n2, lv, li, H0, rfl, hR1, fd, wy1.1, wy1.2, fun H' hR' => ⟨_, rfl, iteF ⟨st2, n2, _, _, hR', rn, rfl⟩⟩⟩
    · rintro σ G ⟨st, n, q3, q4, hR, rn, rfl⟩
      rw [llen, List.drop_length] at rn
      generalize hz : ((stE, wy.size) : List Fr × Nat) = z at rn
      cases rn with
      | nil =>
        cases hz
        subst eE
        obtain ⟨dx1, b1', hx1⟩ := hR.ins
        refine ⟨_, rfl, x, dx1, _, rfl, hx1, rf_no (by decide +kernel) (by decide +kernel), x, b1, q1, _, H0, rfl, hR, _, rfl, ?_⟩
        rw [decide_eq_true (List.length_pos_iff.mpr nE)]
        refine iteF ?_
        obtain ⟨wh, ws⟩ := wy
        exact ⟨_, rfl, x, dx1, _, rfl, hx1, rf_no (by decide +kernel) (by decide +kernel), x, b1 :: q1, ⟨none, some wh, ws⟩, _, wh, H0, rfl, hR, cl, rfl, hf, fun a H' s wa => k a H' (s0.trans s) wa⟩
end
end CP

end
section
set_option autoImplicit false
set_option Elab.async false
set_option linter.all false
set_option maxRecDepth 100000
set_option maxHeartbeats 4000000
/-! ## a plan a little changed -/
namespace M
theorem inner_ap : ∀ (a b : List Step), Step.inner (a ++ b) = Step.inner a + Step.inner b
  | [], b => by
    show Step.inner b = Step.inner [] + Step.inner b
    rw [show Step.inner [] = 0 by unfold Step.inner; rfl, Nat.zero_add]
  | x :: a, b => by
    show Step.inner (x :: (a ++ b)) = _
    rw [inner_cons, inner_cons, inner_ap a b]
    omega
theorem fineAll_iff {h : Nat} : ∀ {s : List Step}, Step.fineAll h s ↔ ∀ y ∈ s, Step.fine h y
  | [] => ⟨(fun _ y hy => by cases hy), (fun _ => by unfold Step.fineAll; trivial)⟩
  | x :: r => by
    conv => lhs; unfold Step.fineAll
    rw [fineAll_iff (s := r)]
    exact ⟨fun q y hy => (List.mem_cons.mp hy).elim (fun e => e ▸ q.1) (q.2 y), fun q => ⟨q x List.mem_cons_self, fun y hy => q y (List.mem_cons_of_mem _ hy)⟩⟩
theorem deep_iff {d : Nat} : ∀ {s : List Step}, Step.deepest s ≤ d ↔ ∀ y ∈ s, Step.dep y ≤ d
  | [] => ⟨(fun _ y hy => by cases hy), (fun _ => by unfold Step.deepest; omega)⟩
  | x :: r => by
    rw [deep_cons, Nat.max_le, deep_iff (s := r)]
    exact ⟨fun q y hy => (List.mem_cons.mp hy).elim (fun e => e ▸ q.1) (q.2 y), fun q => ⟨q x List.mem_cons_self, fun y hy => q y (List.mem_cons_of_mem _ hy)⟩⟩
theorem isz_le : ∀ {s : List Step} {y : Step}, y ∈ s → isz y ≤ Step.inner s
  | [], y, h => by cases h
  | x :: r, y, h => by
    rw [inner_cons]
    rcases List.mem_cons.mp h with e | e
    · rw [e]
      omega
    · have := isz_le e
      omega
/-- steps of a little plan: at most n of them, tunnels one deep -/
structure Few (h n z : Nat) (s : List Step) : Prop where
  l1 : 1 ≤ s.length
  ln : s.length ≤ n
  fine : ∀ y ∈ s, Step.fine h y
  dp : ∀ y ∈ s, Step.dep y ≤ 1
  sz : Step.inner s ≤ z
theorem Few.way {h n z : Nat} {s : List Step} (f : Few h n z s) (h1 : 1 ≤ h) (h2 : h ≤ 40) (hn : n ≤ 12) (hz : n + z ≤ 40) : Way.fine (.mk h s) ∧ (Way.mk h s).depth ≤ 2 := by
  have a := fineAll_iff.mpr f.fine
  have b := deep_iff.mpr f.dp
  have c := f.ln
  have d := f.sz
  have e := f.l1
  refine ⟨?_, by unfold Way.depth; omega⟩
  unfold Way.fine
  exact ⟨⟨h1, h2⟩, ⟨e, by omega⟩, a, by omega, by omega⟩
theorem few_of {w : Way} (s : Sm 1 w) : Few w.head 3 9 w.steps ∧ 1 ≤ w.head ∧ w.head ≤ 40 := by
  obtain ⟨h, st⟩ := w
  have f := s.fine
  have ln : st.length ≤ 3 := s.ln
  have dp : 1 + Step.deepest st ≤ 2 := s.dp
  have sz : st.length + Step.inner st ≤ 9 := s.sz
  unfold Way.fine at f
  exact ⟨⟨f.2.1.1, ln, fineAll_iff.mp f.2.2.1, deep_iff.mp (show Step.deepest st ≤ 1 by omega), by show Step.inner st ≤ 9; omega⟩, f.1⟩
theorem Few.at {h n z : Nat} {s : List Step} (f : Few h n z s) {i : Nat} {y : Step} (hy : s[i]? = some y) : Step.fine h y ∧ Step.dep y ≤ 1 ∧ isz y ≤ z := by
  have m := List.mem_of_getElem? hy
  have := isz_le m
  have := f.sz
  exact ⟨f.fine y m, f.dp y m, by omega⟩
/-- a step in the place of another one -/
theorem Few.put {h n z : Nat} {s : List Step} (f : Few h n z s) {i : Nat} (hi : i < s.length) {x : Step} (h1 : Step.fine h x) (h2 : Step.dep x ≤ 1) (h3 : isz x ≤ 9) : Few h n (z + 9) (s.take i ++ [x] ++ s.drop (i + 1)) := by
  have ln := f.ln
  refine ⟨by rw [List.length_append, List.length_append, List.length_singleton]; omega, ?_, fun y hy => ?_, fun y hy => ?_, ?_⟩
  · rw [List.length_append, List.length_append, List.length_take, List.length_drop, List.length_singleton]
    omega
  · rcases List.mem_append.mp hy with e | e
    · rcases List.mem_append.mp e with e | e
      · exact f.fine y (List.mem_of_mem_take e)
      · rw [List.mem_singleton.mp e]
        exact h1
    · exact f.fine y (List.mem_of_mem_drop e)
  · rcases List.mem_append.mp hy with e | e
    · rcases List.mem_append.mp e with e | e
      · exact f.dp y (List.mem_of_mem_take e)
      · rw [List.mem_singleton.mp e]
        exact h2
    · exact f.dp y (List.mem_of_mem_drop e)
  · have a := inner_ap (s.take i) (s.drop i)
    rw [List.take_append_drop] at a
    have b : Step.inner (s.drop (i + 1)) ≤ Step.inner (s.drop i) := by
      rw [List.drop_eq_getElem_cons hi, inner_cons]
      omega
    rw [inner_ap, inner_ap]
    have c : Step.inner [x] = isz x := by
      rw [inner_cons]
      unfold Step.inner
      rfl
    have := f.sz
    omega
/-- a step twice -/
theorem Few.dup {h n z : Nat} {s : List Step} (f : Few h n z s) {i : Nat} {x : Step} (hx : s[i]? = some x) : Few h (n + 1) (z + z) (s.take i ++ [x] ++ s.drop i) := by
  have ln := f.ln
  have xa := f.at hx
  refine ⟨by rw [List.length_append, List.length_append, List.length_singleton]; omega, ?_, fun y hy => ?_, fun y hy => ?_, ?_⟩
  · rw [List.length_append, List.length_append, List.length_take, List.length_drop, List.length_singleton]
    omega
  · rcases List.mem_append.mp hy with e | e
    · rcases List.mem_append.mp e with e | e
      · exact f.fine y (List.mem_of_mem_take e)
      · rw [List.mem_singleton.mp e]
        exact xa.1
    · exact f.fine y (List.mem_of_mem_drop e)
  · rcases List.mem_append.mp hy with e | e
    · rcases List.mem_append.mp e with e | e
      · exact f.dp y (List.mem_of_mem_take e)
      · rw [List.mem_singleton.mp e]
        exact xa.2.1
    · exact f.dp y (List.mem_of_mem_drop e)
  · have a := inner_ap (s.take i) (s.drop i)
    rw [List.take_append_drop] at a
    rw [inner_ap, inner_ap]
    have c : Step.inner [x] = isz x := by
      rw [inner_cons]
      unfold Step.inner
      rfl
    have := f.sz
    omega
/-- a step left out -/
theorem Few.out {h n z : Nat} {s : List Step} (f : Few h n z s) {i : Nat} (hi : i < s.length) (h2 : 2 ≤ s.length) : Few h n z (s.take i ++ s.drop (i + 1)) := by
  have ln := f.ln
  refine ⟨?_, ?_, fun y hy => ?_, fun y hy => ?_, ?_⟩
  · rw [List.length_append, List.length_take, List.length_drop]
    omega
  · rw [List.length_append, List.length_take, List.length_drop]
    omega
  · rcases List.mem_append.mp hy with e | e
    · exact f.fine y (List.mem_of_mem_take e)
    · exact f.fine y (List.mem_of_mem_drop e)
  · rcases List.mem_append.mp hy with e | e
    · exact f.dp y (List.mem_of_mem_take e)
    · exact f.dp y (List.mem_of_mem_drop e)
  · have a := inner_ap (s.take i) (s.drop i)
    rw [List.take_append_drop] at a
    have b : Step.inner (s.drop (i + 1)) ≤ Step.inner (s.drop i) := by
      rw [List.drop_eq_getElem_cons hi, inner_cons]
      omega
    rw [inner_ap]
    have := f.sz
    omega
theorem Few.weak {h n m z y : Nat} {s : List Step} (f : Few h n z s) (a : n ≤ m) (b : z ≤ y) : Few h m y s := ⟨f.l1, Nat.le_trans f.ln a, f.fine, f.dp, Nat.le_trans f.sz b⟩
end M
namespace CP
open PySem L2 G Y
abbrev sBent : Stmt := S.top 86
theorem PlAll.app {H : Hp} : ∀ {s r : List M.Step} {xs ys : List V}, PlAll H s xs → PlAll H r ys → PlAll H (s ++ r) (xs ++ ys)
  | [], r, xs, ys, a, b => by
    unfold PlAll at a
    subst a
    exact b
  | x :: s, r, xs, ys, a, b => by
    unfold PlAll at a
    obtain ⟨u, us, rfl, h1, h2⟩ := a
    show PlAll H (x :: (s ++ r)) (u :: (us ++ ys))
    unfold PlAll
    exact ⟨u, us ++ ys, rfl, h1, h2.app b⟩
theorem PlAll.take {H : Hp} : ∀ {s : List M.Step} {xs : List V} (i : Nat), PlAll H s xs → PlAll H (s.take i) (xs.take i)
  | s, xs, 0, _ => by
    rw [List.take_zero, List.take_zero]
    unfold PlAll
    rfl
  | [], xs, i + 1, h => by
    unfold PlAll at h
    subst h
    unfold PlAll
    rfl
  | y :: s, xs, i + 1, h => by
    unfold PlAll at h
    obtain ⟨u, us, rfl, h1, h2⟩ := h
    rw [List.take_succ_cons, List.take_succ_cons]
    unfold PlAll
    exact ⟨u, us.take i, rfl, h1, h2.take i⟩
theorem PlAll.drop {H : Hp} : ∀ {s : List M.Step} {xs : List V} (i : Nat), PlAll H s xs → PlAll H (s.drop i) (xs.drop i)
  | s, xs, 0, h => by
    rw [List.drop_zero, List.drop_zero]
    exact h
  | [], xs, i + 1, h => by
    unfold PlAll at h
    subst h
    unfold PlAll
    rfl
  | y :: s, xs, i + 1, h => by
    unfold PlAll at h
    obtain ⟨u, us, rfl, h1, h2⟩ := h
    rw [List.drop_succ_cons, List.drop_succ_cons]
    exact h2.drop i
theorem PlAll.one {H : Hp} {y : M.Step} {x : V} (h : PlStep H y x) : PlAll H [y] [x] := by
  unfold PlAll
  exact ⟨x, [], rfl, h, by unfold PlAll; rfl⟩
section
variable {P : Program} {w : World} {K : PySem.W.Frag} {mg : Str → Option Value} {base : Heap} {C CW : Addr}
def spBent : Sp := fun vs H Q _ => ∃ (p : Addr) (v : V) (wy : M.Way), vs = [.ref p, v] ∧ S.At H p ∧ PlanAt H wy v ∧ M.Sm 1 wy ∧ ∀ st v2 H', Y.Bt p H H' → PlanAt H' (.mk wy.head st) v2 → M.Few wy.head 4 18 st → Q v2 H'
theorem scBt : FnScope ["stream", "plan", "head", "steps", "at", "kind", "step", "size"] ["stream", "plan"] (defScope sBent) := ⟨rfl, rfl, rfl, by decide +kernel, rfl, by decide +kernel, by decide +kernel⟩
theorem tk_len (xs : List V) (i k : Nat) (x : V) (h : xs.length ≤ 100) : (xs.take i ++ [x]).length + (xs.drop k).length ≤ sizeLine ∧ (xs.take i).length + [x].length ≤ sizeLine ∧ (xs.take i).length + (xs.drop k).length ≤ sizeLine := by
  rw [List.length_append, List.length_take, List.length_drop, List.length_singleton]
  exact ⟨Nat.le_trans (show _ ≤ 300 by omega) (by decide), Nat.le_trans (show _ ≤ 300 by omega) (by decide), Nat.le_trans (show _ ≤ 300 by omega) (by decide)⟩
theorem log100 {n : Int} (h1 : 1 ≤ n) (h2 : n ≤ 1000) : n.natAbs.log2 < 9000 := PySem.Flt.log2_lt_of (k := 9000) (by decide) (Nat.lt_of_lt_of_le (by omega : _ < 1001) (Nat.le_trans (by decide : 1001 ≤ 2 ^ 10) (Nat.pow_le_pow_right (by decide) (by decide))))
theorem ok_bent {f : Addr} {fd : FuncData} (F : Fun K "_law_bent_plan" "_law_bent_plan" sBent f fd) (B : Bn mg) (DD : Df P w K mg base 1 "_law_draw" ["stream", "size"] S.spDraw) (DC : Df P w K mg base 2 "_law_choose" ["stream", "items"] (S.spChoose K)) (DS : Df P w K mg base 9 "_law_plan_step" ["stream", "depth", "base", "head"] (spLStep 2)) : FnOk P w K mg base CX0 10 f fd ["stream", "plan"] spBent := by
  obtain ⟨fD, fdD, GD, gD, kD, bD⟩ := DD.ex
  obtain ⟨fC, fdC, GC, gC, kC, bC⟩ := DC.ex
  obtain ⟨fS, fdS, GS, gS, kS, bS⟩ := DS.ex
  refine F.ok scBt (fun vs H Q E h => ?_) (fun cdv A outer s H vs Q E hr h => ?_)
  · obtain ⟨p, v, wy, rfl, _⟩ := h
    rfl
  · obtain ⟨p, v, wy, rfl, hp, hP, sm, kk⟩ := h
    refine ⟨_, pss_cons (ps_asg (pv 1) (pg_tup (by rfl) (pgs_cons (pg_name (i := 2) scBt.nd rfl (Or.inl rfl)) (pgs_cons (pg_name (i := 3) scBt.nd rfl (Or.inl rfl)) pgs_nil))))
      (pss_cons (ps_par (i := 4) (j := 5) (by rfl) scBt.nd rfl rfl (by decide) rfl rfl (pa_cons (pe_call GD (hr.mono (by omega)) rfl gD kD bD .nil pass0 (pa_cons (pv 0) (pa_cons (pe_callB call_len_seq (by rfl) B.len PySem.boot_len (pa_cons (pv 3) pa_nil)) pa_nil))) (pa_cons (pe_call GD (hr.mono (by omega)) rfl gD kD bD .nil pass0 (pa_cons (pv 0) (pa_cons (pe_int) pa_nil))) pa_nil)) (by rfl))
      (pss_cons (ps_set (i := 6) scBt.nd rfl (Or.inl rfl) (pe_ix ix_tup (pv 3) (pv 4) (fun _ _ => rfl)))
      (pss_cons (ps_if (PW.pt (pw_and (pt_cmpR (op_eq) (pv 5) (pe_int) (nomark _)) (pw_and1 (pt_cmpR (op_gt) (pe_callB call_len_seq (by rfl) B.len PySem.boot_len (pa_cons (pv 3) pa_nil)) (pe_int) (nomark _))))) (pss_one (ps_ret (pe_tup (pa_cons (pv 2) (pa_cons (pe_op (op_catA) (pe_slice sl_tupA (pv 3) po_none (po_some (pv 4))) (pe_slice sl_tupA (pv 3) (po_some (pe_op (op_add) (pv 4) (pe_int))) po_none)) pa_nil))))) (pss_nil))
      (pss_cons (ps_if (PW.pt (pw_and (pt_cmpR (op_eq) (pv 5) (pe_int) (nomark _)) (pw_and1 (pt_cmpR (op_lt) (pe_callB call_len_seq (by rfl) B.len PySem.boot_len (pa_cons (pv 3) pa_nil)) (pe_int) (nomark _))))) (pss_one (ps_ret (pe_tup (pa_cons (pv 2) (pa_cons (pe_op (op_catA) (pe_op (op_catA) (pe_slice sl_tupA (pv 3) po_none (po_some (pv 4))) (pe_tup (pa_cons (pv 6) pa_nil))) (pe_slice sl_tupA (pv 3) (po_some (pv 4)) po_none)) pa_nil))))) (pss_nil))
      (pss_cons (ps_if (pt_cmpR (op_eq) (pv 5) (pe_int) (nomark _)) (pss_one (ps_ret (pe_tup (pa_cons (pv 2) (pa_cons (pe_op (op_catA) (pe_op (op_catA) (pe_slice sl_tupA (pv 3) po_none (po_some (pv 4))) (pe_tup (pa_cons (pe_call GS (hr.mono (by omega)) rfl gS kS bS .nil pass0 (pa_cons (pv 0) (pa_cons (pe_int) (pa_cons (pe_int) (pa_cons (pv 2) pa_nil))))) pa_nil))) (pe_slice sl_tupA (pv 3) (po_some (pe_op (op_add) (pv 4) (pe_int))) po_none)) pa_nil))))) (pss_nil))
      (pss_cons (ps_if (pt_cmpR (op_eq) (pe_ix ix_tup (pv 6) (pe_int) (fun _ _ => rfl)) (pe_str) (nomark _)) (pss_cons (ps_set (i := 7) scBt.nd rfl (Or.inl rfl) (pe_callB (call_max2 rfl) (by rfl) B.max (by decide +kernel) (pa_cons (pe_op (op_add) (pv 2) (pe_int)) (pa_cons (pe_callB (call_min2 rfl) (by rfl) B.min (by decide +kernel) (pa_cons (pe_int) (pa_cons (pe_op (op_add) (pe_ix ix_tup (pv 6) (pe_int) (fun _ _ => rfl)) (pe_call GC (hr.mono (by omega)) rfl gC kC bC .nil pass0 (pa_cons (pv 0) (pa_cons (pe_lst (pa_cons (pe_op (op_sub) (pe_int) (pe_int)) (pa_cons (pe_int) (pa_cons (pe_op (op_sub) (pe_ix ix_tup (pv 6) (pe_int) (fun _ _ => rfl)) (pv 2)) pa_nil)))) pa_nil)))) pa_nil))) pa_nil))))
      (pss_one (ps_set (i := 6) scBt.nd rfl (Or.inl rfl) (pe_tup (pa_cons (pe_str) (pa_cons (pv 7) (pa_cons (pe_ix ix_tup (pv 6) (pe_int) (fun _ _ => rfl)) (pa_cons (pe_call GC (hr.mono (by omega)) rfl gC kC bC .nil pass0 (pa_cons (pv 0) (pa_cons (pe_lst (pa_cons (pe_ix ix_tup (pv 6) (pe_int) (fun _ _ => rfl)) (pa_cons (pe_ix ix_tup (pv 6) (pe_int) (fun _ _ => rfl)) (pa_cons (pe_str) (pa_cons (pe_str) pa_nil))))) pa_nil))) pa_nil)))))))) (pss_one (ps_if (pt_cmpR (op_eq) (pe_ix ix_tup (pv 6) (pe_int) (fun _ _ => rfl)) (pe_str) (nomark _)) (pss_one (ps_set (i := 6) scBt.nd rfl (Or.inl rfl) (pe_tup (pa_cons (pe_str) (pa_cons (pe_callB (call_min2 rfl) (by rfl) B.min (by decide +kernel) (pa_cons (pe_op (op_powN) (pe_int) (pe_int)) (pa_cons (pe_op (op_add) (pe_ix ix_tup (pv 6) (pe_int) (fun _ _ => rfl)) (pe_int)) pa_nil))) pa_nil))))) (pss_one (ps_set (i := 6) scBt.nd rfl (Or.inl rfl) (pe_op (op_catA) (pe_slice sl_tupA (pv 6) po_none (po_some (pe_int))) (pe_tup (pa_cons (pe_callB (call_max2 rfl) (by rfl) B.max (by decide +kernel) (pa_cons (pe_int) (pa_cons (pe_op (op_sub) (pe_ix ix_tup (pv 6) (pe_int) (fun _ _ => rfl)) (pe_int)) pa_nil))) (pa_cons (pe_call GC (hr.mono (by omega)) rfl gC kC bC .nil pass0 (pa_cons (pv 0) (pa_cons (pe_lst (pa_cons (pe_ix ix_tup (pv 6) (pe_int) (fun _ _ => rfl)) (pa_cons (pe_str) (pa_cons (pe_str) pa_nil)))) pa_nil))) pa_nil)))))))))
      (pss_one (ps_ret (pe_tup (pa_cons (pv 2) (pa_cons (pe_op (op_catA) (pe_op (op_catA) (pe_slice sl_tupA (pv 3) po_none (po_some (pv 4))) (pe_tup (pa_cons (pv 6) pa_nil))) (pe_slice sl_tupA (pv 3) (po_some (pe_op (op_add) (pv 4) (pe_int))) po_none)) pa_nil))))))))))), ?_⟩
    obtain ⟨few, h1, h2⟩ := M.few_of sm
    obtain ⟨h, st⟩ := wy
    unfold PlanAt at hP
    obtain ⟨t, L, xs, rfl, ht, hL, hA⟩ := hP
    have few : M.Few h 3 9 st := few
    have h1 : 1 ≤ h := h1
    have h2 : h ≤ 40 := h2
    have lx := hA.len
    have l1 := few.l1
    have l3 := few.ln
    refine ⟨_, rfl, t, _, rfl, SqT.of ht, rfl, _, _, rfl, _, _, rfl, rfl, ?_⟩
    try dsimp only
    refine ⟨_, rfl, _, rfl, L, xs, rfl, .inr (SqT.of hL), ?_⟩
    try dsimp only [tNil, List.cons_append, List.nil_append]
    refine draw_at hp (by omega) (log100 (by omega) (by omega)) fun j H1 j0 j1 b1 => ?_
    obtain ⟨i0, rfl⟩ := Int.eq_ofNat_of_zero_le j0
    have hi0 : i0 < xs.length := by omega
    refine draw_vv rfl b1.2 (by decide) (by decide +kernel) fun kd H2 kd0 kd1 b2 => ⟨_, _, rfl, ?_⟩
    replace b2 := b1.trans b2
    have kt := bt_keepT b2 hp
    have hL2 := kt.tup hL
    have hA2 := hA.keep kt
    have p2 := b2.2
    try dsimp only
    have hx0 : xs[i0]? = some xs[i0] := List.getElem?_eq_getElem hi0
    obtain ⟨y, hy, hat⟩ := hA2.get hx0
    refine set_then (i := 6) ⟨_, rfl, _, rfl, L, xs, _, _, rfl, rfl, SqT.of hL2, atI_nat hx0, ?_⟩
    generalize xs[i0] = x at hx0 hat ⊢
    have x100 : xs.length ≤ 100 := by omega
    have fy := few.at hy
    have hi1 : i0 < st.length := by omega
    have pk2 : ∀ {G : Hp}, Same H2 G → Y.Bt p H2 G := fun s => Bt.same s p2
    have rp : ∀ {G : Hp} {sl : List M.Step} {xl : List V} {c z : Addr}, Y.Bt p H G → G c = some (.tup xl) → PlAll G sl xl → G z = none → M.Few h 4 18 sl → Q (.ref z) (upd G z (.tup [.int (h : Int), .ref c])) := fun {G sl xl c z} bG hc hP hz fw => by
      have sz := of_upd (o := .tup [V.int (h : Int), .ref c]) hz
      refine kk _ _ _ (bG.trans (Bt.same sz bG.2)) ?_ fw
      unfold PlanAt
      exact ⟨z, c, _, rfl, upd_same, sz _ _ hc, hP.keep (same_keepT sz)⟩
    -- kind 0: a step left out
    refine if_then (fun σ' G => σ' = [some (.ref p), some (.ref t), some (.int (h : Int)), some (.ref L), some (.int (i0 : Int)), some (.int kd), some x, none] ∧ G = H2) ?r0 ?f0
    case f0 =>
      intro go
      refine ⟨_, rfl, rfl, _, rfl, ite2 (fun c0 => ⟨_, rfl, L, xs, rfl, .inr (SqT.of hL2), _, _, rfl, rfl, _, rfl, ite2 (fun c1 => ?_) fun c1 => go _ _ ⟨rfl, rfl⟩⟩) fun c0 => go _ _ ⟨rfl, rfl⟩⟩
      have c1 : (xs.length : Int) > 1 := of_decide_eq_true c1
      refine ⟨_, rfl, ?_⟩
      dsimp only [tNoPart]
      refine ⟨_, rfl, _, rfl, _, rfl, ?_⟩
      refine WP.sl_any hL2 fun u1 G1 s1 e1 => ?_
      refine ⟨_, rfl, _, rfl, _, _, rfl, rfl, _, rfl, ?_⟩
      dsimp only [tNoPart]
      refine WP.sl_any (s1 _ _ hL2) fun u2 G2 s2 e2 => ?_
      rw [WP.cut_hi] at e1
      rw [show ((i0 : Int) + 1) = ((i0 + 1 : Nat) : Int) from rfl, WP.cut_lo] at e2
      refine WP.catA_own (s2 _ _ e1) e2 (tk_len xs i0 (i0 + 1) x x100).2.2 fun c G3 s3 e3 => ⟨line2.1, fun z hz => ?_⟩
      have s4 := (s1.trans s2).trans s3
      exact rp (b2.trans (pk2 s4)) e3 (((hA2.keep (same_keepT s4)).take i0).app ((hA2.keep (same_keepT s4)).drop (i0 + 1))) hz ((few.out hi1 (by omega)).weak (by decide) (by decide))
    case r0 =>
    rintro σ' G ⟨rfl, rfl⟩
    -- kind 1: a step twice
    refine if_then (fun σ' G2 => σ' = [some (.ref p), some (.ref t), some (.int (h : Int)), some (.ref L), some (.int (i0 : Int)), some (.int kd), some x, none] ∧ G2 = G) ?r1 ?f1
    case f1 =>
      intro go
      refine ⟨_, rfl, rfl, _, rfl, ite2 (fun c0 => ⟨_, rfl, L, xs, rfl, .inr (SqT.of hL2), _, _, rfl, rfl, _, rfl, ite2 (fun c1 => ?_) fun c1 => go _ _ ⟨rfl, rfl⟩⟩) fun c0 => go _ _ ⟨rfl, rfl⟩⟩
      refine ⟨_, rfl, ?_⟩
      dsimp only [tNoPart]
      refine ⟨_, rfl, _, rfl, _, rfl, ?_⟩
      refine WP.sl_any hL2 fun u1 G1 s1 e1 => ⟨_, rfl, line2.2.2.1, fun u hu => ?_⟩
      rw [WP.cut_hi] at e1
      have su := of_upd (o := .tup [x]) hu
      refine WP.catA_own (su _ _ e1) upd_same (tk_len xs i0 i0 x x100).2.1 fun c2 G2 s2 e2 => ?_
      have s12 := (s1.trans su).trans s2
      refine ⟨_, rfl, _, rfl, _, rfl, ?_⟩
      dsimp only [tNoPart]
      refine WP.sl_any (s12 _ _ hL2) fun u3 G3 s3 e3 => ?_
      rw [WP.cut_lo] at e3
      refine WP.catA_own (s3 _ _ e2) e3 (tk_len xs i0 i0 x x100).1 fun c4 G4 s4 e4 => ⟨line2.1, fun z hz => ?_⟩
      have s5 := s12.trans (s3.trans s4)
      have hA5 := hA2.keep (same_keepT s5)
      exact rp (b2.trans (pk2 s5)) e4 (((hA5.take i0).app (PlAll.one (hat.keep (same_keepT s5)))).app (hA5.drop i0)) hz ((few.dup hy).weak (by decide) (by decide))
    case r1 =>
    rintro σ' G2 ⟨rfl, rfl⟩
    -- a new step in its place
    refine if_then (fun σ' G3 => σ' = [some (.ref p), some (.ref t), some (.int (h : Int)), some (.ref L), some (.int (i0 : Int)), some (.int kd), some x, none] ∧ G3 = G2) ?r2 ?f2
    case f2 =>
      intro go
      refine ⟨_, rfl, rfl, _, rfl, ite2 (fun c0 => ?_) fun c0 => go _ _ ⟨rfl, rfl⟩⟩
      refine ⟨_, rfl, ?_⟩
      dsimp only [tNoPart]
      refine ⟨_, rfl, _, rfl, _, rfl, ?_⟩
      refine WP.sl_any hL2 fun u1 G1 s1 e1 => ?_
      rw [WP.cut_hi] at e1
      refine ⟨_, rfl, _, rfl, p, 0, 0, h, rfl, sameAt s1 p2, by decide, by decide, by decide, h1, h2, fun y1 x1 G3 b3 pl1 sm1 => ⟨line2.2.2.1, fun u hu => ?_⟩⟩
      have k3 := bt_keepT b3 (sameAt s1 p2)
      have su := of_upd (o := .tup [x1]) hu
      refine WP.catA_own (su _ _ (k3.tup e1)) upd_same (tk_len xs i0 i0 x1 x100).2.1 fun c2 G4 s2 e2 => ?_
      have hL5 := s2 _ _ (su _ _ (k3.tup (s1 _ _ hL2)))
      have hA5 := ((hA2.keep (same_keepT s1)).keep k3).keep (same_keepT (su.trans s2))
      refine ⟨_, rfl, _, rfl, _, _, rfl, rfl, _, rfl, ?_⟩
      dsimp only [tNoPart]
      refine WP.sl_any hL5 fun u3 G5 s3 e3 => ?_
      rw [show ((i0 : Int) + 1) = ((i0 + 1 : Nat) : Int) from rfl, WP.cut_lo] at e3
      refine WP.catA_own (s3 _ _ e2) e3 (tk_len xs i0 (i0 + 1) x1 x100).1 fun c4 G6 s4 e4 => ⟨line2.1, fun z hz => ?_⟩
      have s34 := s3.trans s4
      have hA6 := hA5.keep (same_keepT s34)
      have bb : Y.Bt p G2 G6 := (pk2 s1).trans (b3.trans (Bt.same ((su.trans s2).trans s34) b3.2))
      exact rp (b2.trans bb) e4 (((hA6.take i0).app (PlAll.one (pl1.keep (same_keepT ((su.trans s2).trans s34))))).app (hA6.drop (i0 + 1))) hz ((few.put hi1 sm1.1 (by have := sm1.2.1; omega) (by have := sm1.2.2; exact Nat.le_trans this (by decide))).weak (by decide) (by decide))
    case r2 =>
    rintro σ' G3 ⟨rfl, rfl⟩
    refine if_then (fun σ' G => Y.Bt p G3 G ∧ ∃ x1 y1 q7, σ' = [some (.ref p), some (.ref t), some (.int (h : Int)), some (.ref L), some (.int (i0 : Int)), some (.int kd), some x1, q7] ∧ PlStep G y1 x1 ∧ M.Step.fine h y1 ∧ M.Step.dep y1 ≤ 1 ∧ M.isz y1 ≤ 9) ?r3 ?f3
    case r3 =>
      rintro σ' G ⟨bG, x1, y1, q7, rfl, pl1, f1, d1, z1⟩
      have k3 := bt_keepT bG p2
      have hL3 := k3.tup hL2
      have hA3 := hA2.keep k3
      refine ⟨_, rfl, ?_⟩
      dsimp only [tNoPart]
      refine ⟨_, rfl, _, rfl, _, rfl, ?_⟩
      refine WP.sl_any hL3 fun u1 G1 s1 e1 => ⟨_, rfl, line2.2.2.1, fun u hu => ?_⟩
      rw [WP.cut_hi] at e1
      have su := of_upd (o := .tup [x1]) hu
      refine WP.catA_own (su _ _ e1) upd_same (tk_len xs i0 i0 x1 x100).2.1 fun c2 G4 s2 e2 => ?_
      have s12 := (s1.trans su).trans s2
      refine ⟨_, rfl, _, rfl, _, _, rfl, rfl, _, rfl, ?_⟩
      dsimp only [tNoPart]
      refine WP.sl_any (s12 _ _ hL3) fun u3 G5 s3 e3 => ?_
      rw [show ((i0 : Int) + 1) = ((i0 + 1 : Nat) : Int) from rfl, WP.cut_lo] at e3
      refine WP.catA_own (s3 _ _ e2) e3 (tk_len xs i0 (i0 + 1) x1 x100).1 fun c4 G6 s4 e4 => ⟨line2.1, fun z hz => ?_⟩
      have s5 := s12.trans (s3.trans s4)
      have hA6 := hA3.keep (same_keepT s5)
      exact rp (b2.trans (bG.trans (Bt.same s5 bG.2))) e4 (((hA6.take i0).app (PlAll.one (pl1.keep (same_keepT s5)))).app (hA6.drop (i0 + 1))) hz ((few.put hi1 f1 d1 z1).weak (by decide) (by decide))
    case f3 =>
      intro go
      have z0 : ∀ {y0 : V} {ys : List V}, atI (y0 :: ys) (0 : Int) = some y0 := fun {y0 ys} => by exact atI_nat (xs := y0 :: ys) (j := 0) rfl
      have z1 : ∀ {y0 y1 : V} {ys : List V}, atI (y0 :: y1 :: ys) (1 : Int) = some y1 := fun {y0 y1 ys} => by exact atI_nat (xs := y0 :: y1 :: ys) (j := 1) rfl
      have z2 : ∀ {y0 y1 y2 : V} {ys : List V}, atI (y0 :: y1 :: y2 :: ys) (2 : Int) = some y2 := fun {y0 y1 y2 ys} => by exact atI_nat (xs := y0 :: y1 :: y2 :: ys) (j := 2) rfl
      have z3 : ∀ {y0 y1 y2 y3 : V} {ys : List V}, atI (y0 :: y1 :: y2 :: y3 :: ys) (3 : Int) = some y3 := fun {y0 y1 y2 y3 ys} => by exact atI_nat (xs := y0 :: y1 :: y2 :: y3 :: ys) (j := 3) rfl
      cases y with
      | road size ts lw =>
        unfold PlStep at hat
        have fy1 := fy.1
        unfold M.Step.fine at fy1
        obtain ⟨tx, rfl, htx⟩ := hat
        have hq := SqT.of (K := K) htx
        refine ⟨_, rfl, tx, _, _, _, rfl, rfl, hq, z0, rfl, _, rfl, iteP rfl ?_⟩
        refine set_then (i := 7) ⟨_, rfl, _, _, rfl, rfl, _, rfl, tx, _, _, _, rfl, rfl, hq, z1, ?_⟩
        refine choose_of (xs := [.int (0 - 1), .int 1, .int ((size : Int) - (h : Int))]) rfl p2 (by show 1 ≤ 3; decide) (by show 3 ≤ 1000; decide) (fun Q2 q => ⟨_, _, rfl, rfl, _, rfl, tx, _, _, _, rfl, rfl, hq, z1, _, rfl, _, _, rfl, rfl, q⟩) fun cv G4 hc b4 => ?_
        obtain ⟨c, rfl⟩ : ∃ c : Int, cv = .int c := by
          simp only [List.mem_cons, List.mem_nil_iff, or_false] at hc
          rcases hc with e | e | e
          · exact ⟨_, e⟩
          · exact ⟨_, e⟩
          · exact ⟨_, e⟩
        clear hc
        refine ⟨_, _, rfl, rfl, _, _, rfl, _, _, rfl, ?_⟩
        obtain ⟨sz, e, l1', l2'⟩ : ∃ sz : Nat, (if (if (size : Int) + c < 1000 then (size : Int) + c else 1000) > (h : Int) + 1 then (if (size : Int) + c < 1000 then (size : Int) + c else 1000) else (h : Int) + 1) = (sz : Int) ∧ h < sz ∧ sz ≤ 1000 := by
          have m1 : (if (size : Int) + c < 1000 then (size : Int) + c else 1000) ≤ 1000 := by split <;> omega
          generalize (if (size : Int) + c < 1000 then (size : Int) + c else 1000) = m at m1 ⊢
          by_cases z : m > (h : Int) + 1
          · rw [if_pos z]
            exact ⟨m.toNat, by omega, by omega, by omega⟩
          · rw [if_neg z]
            exact ⟨h + 1, by omega, by omega, by omega⟩
        rw [e]
        have k4 := bt_keepT b4 p2
        have hq4 := SqT.of (K := K) (k4.tup htx)
        refine ⟨_, rfl, _, rfl, tx, _, _, _, rfl, rfl, hq4, z2, ?_⟩
        refine choose_of (xs := [.str (WP.lwS lw), .str (WP.lwS lw), .str "cut", .str "drop"]) rfl b4.2 (by show 1 ≤ 4; decide) (by show 4 ≤ 1000; decide) (fun Q2 q => ⟨_, rfl, tx, _, _, _, rfl, rfl, hq4, z3, _, rfl, tx, _, _, _, rfl, rfl, hq4, z3, q⟩) fun wv G5 hw b5 => ⟨(by show 4 ≤ sizeLine; decide), fun u hu => ?_⟩
        obtain ⟨lw2, rfl⟩ : ∃ lw2, wv = .str (WP.lwS lw2) := by
          simp only [List.mem_cons, List.mem_nil_iff, or_false] at hw
          rcases hw with e | e | e | e
          · exact ⟨lw, e⟩
          · exact ⟨lw, e⟩
          · exact ⟨.cut, e⟩
          · exact ⟨.drop, e⟩
        have b6 := (b4.trans b5).trans (Bt.new (.tup [.str "road", .int (sz : Int), .str (WP.sdS ts), .str (WP.lwS lw2)]) b5.2 hu)
        refine go _ _ ⟨b6, .ref u, .road sz ts lw2, _, rfl, ?_, ?_, by show 0 ≤ 1; decide, by show 0 ≤ 9; decide⟩
        · unfold PlStep
          exact ⟨u, rfl, upd_same⟩
        · unfold M.Step.fine
          exact ⟨l1', l2'⟩
      | join most =>
        unfold PlStep at hat
        have fy1 := fy.1
        unfold M.Step.fine at fy1
        obtain ⟨tx, rfl, htx⟩ := hat
        have hq := SqT.of (K := K) htx
        refine ⟨_, rfl, tx, _, _, _, rfl, rfl, hq, z0, rfl, _, rfl, iteN (fun z => absurd (V.str.inj z) (by decide +kernel)) ?_⟩
        refine ⟨_, rfl, tx, _, _, _, rfl, rfl, hq, z0, rfl, _, rfl, iteP rfl ?_⟩
        refine ⟨10, 12, rfl, rfl, ⟨by decide, by decide +kernel⟩, _, rfl, tx, _, _, _, rfl, rfl, hq, z1, _, _, rfl, rfl, _, _, rfl, line2.1, fun u hu => ?_⟩
        obtain ⟨m2, e, l1', l2'⟩ : ∃ m2 : Nat, (if (most : Int) + 1 < (10 : Int) ^ (12 : Int).toNat then (most : Int) + 1 else (10 : Int) ^ (12 : Int).toNat) = (m2 : Int) ∧ 1 ≤ m2 ∧ m2 ≤ 1000000000000 := by
          rw [show (10 : Int) ^ (12 : Int).toNat = 1000000000000 by decide +kernel]
          split
          · exact ⟨most + 1, by omega, by omega, by omega⟩
          · exact ⟨1000000000000, by omega, by omega, by omega⟩
        rw [e]
        have b6 := Bt.new (.tup [.str "join", .int (m2 : Int)]) p2 hu
        refine go _ _ ⟨b6, .ref u, .join m2, _, rfl, ?_, ?_, by show 0 ≤ 1; decide, by show 0 ≤ 9; decide⟩
        · unfold PlStep
          exact ⟨u, rfl, upd_same⟩
        · unfold M.Step.fine
          exact ⟨l1', l2'⟩
      | tunnel wi most tw =>
        unfold PlStep at hat
        have fy1 := fy.1
        unfold M.Step.fine at fy1
        obtain ⟨tx, vi, rfl, htx, pli⟩ := hat
        have hq := SqT.of (K := K) htx
        refine ⟨_, rfl, tx, _, _, _, rfl, rfl, hq, z0, rfl, _, rfl, iteN (fun z => absurd (V.str.inj z) (by decide +kernel)) ?_⟩
        refine ⟨_, rfl, tx, _, _, _, rfl, rfl, hq, z0, rfl, _, rfl, iteN (fun z => absurd (V.str.inj z) (by decide +kernel)) ?_⟩
        refine ⟨_, rfl, ?_⟩
        dsimp only [tNoPart]
        refine ⟨_, rfl, ?_⟩
        refine WP.sl_any htx fun u1 G1 s1 e1 => ?_
        have e1 : G1 u1 = some (.tup [.str "tunnel", vi]) := e1
        have hq1 := SqT.of (K := K) (s1 _ _ htx)
        refine ⟨_, rfl, tx, _, _, _, rfl, rfl, hq1, z2, _, _, rfl, rfl, _, _, rfl, ?_⟩
        refine choose_of (xs := [.str (WP.twS tw), .str "turn", .str "lose"]) rfl (sameAt s1 p2) (by show 1 ≤ 3; decide) (by show 3 ≤ 1000; decide) (fun Q2 q => ⟨_, rfl, tx, _, _, _, rfl, rfl, hq1, z3, q⟩) fun wv G5 hw b5 => ⟨line2.1, fun u hu => ?_⟩
        obtain ⟨tw2, rfl⟩ : ∃ tw2, wv = .str (WP.twS tw2) := by
          simp only [List.mem_cons, List.mem_nil_iff, or_false] at hw
          rcases hw with e | e | e
          · exact ⟨tw, e⟩
          · exact ⟨.turn, e⟩
          · exact ⟨.lose, e⟩
        obtain ⟨m2, e, l1', l2'⟩ : ∃ m2 : Nat, (if (most : Int) - 1 > 1 then (most : Int) - 1 else 1) = (m2 : Int) ∧ 1 ≤ m2 ∧ m2 ≤ 1000000000000 := by
          split
          · exact ⟨most - 1, by omega, by omega, by omega⟩
          · exact ⟨1, by omega, by omega, by omega⟩
        rw [e]
        have k5 := bt_keepT b5 (sameAt s1 p2)
        have su := of_upd (o := .tup [.int (m2 : Int), .str (WP.twS tw2)]) hu
        refine WP.catA_own (su _ _ (k5.tup e1)) upd_same (by show 4 ≤ sizeLine; decide) fun c G6 s6 e6 => ?_
        have b6 := (pk2 s1).trans (b5.trans (Bt.same (su.trans s6) b5.2))
        refine go _ _ ⟨b6, .ref c, .tunnel wi m2 tw2, _, rfl, ?_, ?_, ?_, ?_⟩
        · unfold PlStep
          exact ⟨c, vi, rfl, e6, ((pli.keep (same_keepT s1)).keep k5).keep (same_keepT (su.trans s6))⟩
        · unfold M.Step.fine
          exact ⟨fy1.1, l1', l2'⟩
        · exact fy.2.1
        · exact fy.2.2
end
end CP

end
section
set_option autoImplicit false
set_option Elab.async false
set_option linter.all false
set_option maxRecDepth 100000
set_option maxHeartbeats 4000000
/-! ## == of tuples with either answer, own objects among their items -/
namespace EB
open PySem PySem.Spec PyProof.Rows L2
open AutoSeq1 (wpAny_loadPart')
section
variable {prog : Program} {w : World} {A : Around} {R : Result → Shared → Prop}
theorem eq_run {a b : Addr} {ia ib : Array Value} {ka kb : Nat} {da db : Option Addr} {sa sb : Array (Option Value)} (J : Nat → Shared → Prop)
    (step : ∀ k (p : k < ia.size) (q : k < ib.size) t, J k t → wpAny (model prog w) A.in1 (eqBool ia[k] ib[k]) (fun r t' => (r = true ∧ J (k + 1) t') ∨ (r = false ∧ R (.ok (.ret (.bool false))) t')) (fun e t' => R (.error e) t') t)
    (stop : ∀ t, J (min ia.size ib.size) t → R (.ok (.ret (.bool (ia.size == ib.size)))) t) {t : Shared} (ga : t.heap.get? a = some { cls := .type "tuple", dict := da, data := .seq ia ka, slots := sa })
    (gb : t.heap.get? b = some { cls := .type "tuple", dict := db, data := .seq ib kb, slots := sb }) (go : J 0 t) :
    wpAny (model prog w) A.in1 (Builtin.«tuple.__eq__» ⟨[.ref a, .ref b], []⟩) (GQ.FinOf prog w A R) (fun e t' => R (.error e) t') t := by
  have sub := AutoSeq1.sub_tuple_tuple
  have zl : (ia.toList.zip ib.toList).length = min ia.size ib.size := by simp
  have go' := go
  obtain ⟨t1, t2, t3, t4, t5⟩ := t
  wp_walk using wpAny_loadPart' ga, wpAny_loadPart' gb, wpAny_forIn_list _ (fun more z t' => z.1 = none ∧ ∃ k, more = (ia.toList.zip ib.toList).drop k ∧ k ≤ min ia.size ib.size ∧ J k t') _
  case turn =>
    rintro ⟨u, v⟩ more z t' ⟨hz, k, em, hk, hJ⟩
    have kl : k < (ia.toList.zip ib.toList).length := Nat.lt_of_not_le fun g => by
      rw [List.drop_of_length_le g] at em
      cases em
    have k0 : k < min ia.size ib.size := zl ▸ kl
    have k1 : k < ia.size := Nat.lt_of_lt_of_le k0 (Nat.min_le_left _ _)
    have k2 : k < ib.size := Nat.lt_of_lt_of_le k0 (Nat.min_le_right _ _)
    rw [List.drop_eq_getElem_cons kl] at em
    injection em with e1 e2
    have eu : u = ia[k] := by simpa using congrArg Prod.fst e1
    have ev : v = ib[k] := by simpa using congrArg Prod.snd e1
    subst eu ev
    refine wpAny_bind (wpAny_mono (step k k1 k2 t' hJ) (fun r t2 q2 => ?_) fun _ _ x => x)
    rcases q2 with ⟨er, q2⟩ | ⟨er, q2⟩
    · subst er
      wp_walk
      exact ⟨rfl, k + 1, e2, k0, q2⟩
    · subst er
      wp_walk
      exact q2
  case fin =>
    rintro ⟨z1, z2⟩ t' ⟨hz, k, em, hk, hJ⟩
    simp only at hz
    subst hz
    have kg : min ia.size ib.size ≤ k := Nat.le_of_not_lt fun g => by
      rw [List.drop_eq_getElem_cons (zl.symm ▸ g)] at em
      cases em
    have ek : k = min ia.size ib.size := Nat.le_antisymm hk kg
    have done := stop t' (ek ▸ hJ)
    wp_walk
    simpa [Builtin.Tuple.tupleCompareSizes] using done
  case h =>
    exact ⟨rfl, 0, rfl, Nat.zero_le _, go'⟩
end
section
variable {prog : Program} {w : World} {A : Around} {E : Value → Shared → Prop} {t : Shared}
theorem rc_eq {a b : Addr} {ia ib : Array Value} {Q : Value → Shared → Prop} (hu : A.units < cLine) (J : Nat → Shared → Prop) (ta : t.heap.IsTuple a ia) (tb : t.heap.IsTuple b ib)
    (step : ∀ k (p : k < ia.size) (q : k < ib.size) t, J k t → wpAny (model prog w) A.in1 (eqBool ia[k] ib[k]) (fun r t' => (r = true ∧ J (k + 1) t') ∨ (r = false ∧ Q (.bool false) t')) E t)
    (stop : ∀ t, J (min ia.size ib.size) t → Q (.bool (ia.size == ib.size)) t) (go : J 0 t) : wpAny (model prog w) A (richCompare .Eq (.ref a) (.ref b)) Q E t := by
  obtain ⟨⟨ca, da, pa, sa⟩, ga, qa, na, va⟩ := id ta
  obtain ⟨⟨cb, db, pb, sb⟩, gb, qb, nb, vb⟩ := id tb
  simp only at qa va qb vb
  subst qa va qb vb
  refine wpAny_richCompare_same_room (op := .Eq) ⟨_, ga, rfl⟩ ⟨_, gb, rfl⟩ F.slot_tuple_eq (GQ.call_here F.slot_tuple_eq ⟨_, ga, rfl⟩ F.entry_tuple_eq (F.args_tuple_eq_2 _ _) ?_) hu
  refine eq_run (R := wants (fun v t' => v ≠ .notImplemented ∧ Q v t') E) J (fun k p q t j => wpAny_mono (step k p q t j) (fun r t' h => h.imp id fun h => ⟨h.1, (fun x => nomatch x), h.2⟩) fun _ _ x => x) (fun t' q => ⟨(fun x => nomatch x), stop t' q⟩) ga gb go
end
/-- how two values compare, by the abstract heap -/
abbrev Cmp := V → V → Bool → Hp → Prop
def MonB (D : Cmp) : Prop := ∀ x y c H H', Ext H H' → D x y c H → D x y c H'
def EqB (X : Cx) (n : Nat) (D : Cmp) : Prop :=
  ∀ (A : Around) (pins : List (Addr × Obj)) (s : Shared) (σ : L2.St) (H : Hp) (x y : V) (u v : Value) (c : Bool), Sub X n A → Inv X pins σ H s → RelV x u → RelV y v → D x y c H →
    wpAny (model X.prog X.w) A (eqBool u v) (fun r s' => r = c ∧ ∃ H', Inv X pins σ H' s' ∧ Ext H H') X.xe s
def RcB (X : Cx) (n : Nat) (D : Cmp) : Prop :=
  ∀ (A : Around) (pins : List (Addr × Obj)) (s : Shared) (σ : L2.St) (H : Hp) (x y : V) (u v : Value) (c : Bool), Sub X n A → Inv X pins σ H s → RelV x u → RelV y v → D x y c H →
    wpAny (model X.prog X.w) A (richCompare .Eq u v) (fun r s' => r = .bool c ∧ ∃ H', Inv X pins σ H' s' ∧ Ext H H') X.xe s
def BFlat : Cmp := fun x y c _ => flatV x = true ∧ flatV y = true ∧ eqV x y = c
structure PrB (D : Cmp) (xs ys : List V) (cs : List Bool) (H : Hp) : Prop where
  len : cs.length = min xs.length ys.length
  at' : ∀ (i : Nat) x y c, (∀ j, j < i → cs[j]? = some true) → xs[i]? = some x → ys[i]? = some y → cs[i]? = some c → D x y c H
def BTup (K : PySem.W.Frag) (D : Cmp) : Cmp := fun x y c H => ∃ a b xs ys cs, x = .ref a ∧ y = .ref b ∧ SqT K H a xs ∧ SqT K H b ys ∧ PrB D xs ys cs H ∧ c = (cs.all id && decide (xs.length = ys.length))
/-- the same object is equal to itself -/
def BSm (D : Cmp) : Cmp := fun x y c H => D x y c H ∧ (x = y → c = true)
def BCh (C : Addr) : Cmp := fun x y c H => ∃ a b l m, x = .ref a ∧ y = .ref b ∧ CP.ChAt C H l a ∧ CP.ChAt C H m b ∧ c = decide (l = m)
section
variable {X : Cx} {n m : Nat} {D D' : Cmp}
theorem mon_flat : MonB BFlat := fun _ _ _ _ _ _ d => d
theorem mon_sm (h : MonB D) : MonB (BSm D) := fun x y c H H' e d => ⟨h x y c H H' e d.1, d.2⟩
theorem mon_tup {K : PySem.W.Frag} (h : MonB D) : MonB (BTup K D) := fun x y c H H' e d => by
  obtain ⟨a, b, xs, ys, cs, hx, hy, h1, h2, p, hc⟩ := d
  exact ⟨a, b, xs, ys, cs, hx, hy, h1.ext e, h2.ext e, ⟨p.len, fun i x y c g0 g1 g2 g3 => h x y c H H' e (p.at' i x y c g0 g1 g2 g3)⟩, hc⟩
theorem mon_ch {C : Addr} : MonB (BCh C) := fun x y c H H' e d => by
  obtain ⟨a, b, l, m, hx, hy, h1, h2, hc⟩ := d
  exact ⟨a, b, l, m, hx, hy, h1.mono e, h2.mono e, hc⟩
theorem mon_or (h : MonB D) (h' : MonB D') : MonB (fun x y c H => D x y c H ∨ D' x y c H) := fun x y c H H' e d => d.elim (fun d => .inl (h x y c H H' e d)) fun d => .inr (h' x y c H H' e d)
theorem eqB_flat : EqB X 0 BFlat := by
  intro A pins s σ H x y u v c sb I rx ry d
  obtain ⟨fx, fy, e⟩ := d
  have q := eqAt_V (A := A) (s := s) rx ry fx fy
  rw [e] at q
  exact q X.prog X.w X.xe _ ⟨rfl, H, I, Ext.rfl'⟩
theorem EqB.or (h : EqB X n D) (h' : EqB X n D') : EqB X n (fun x y c H => D x y c H ∨ D' x y c H) := fun A pins s σ H x y u v c sb I rx ry d => by
  rcases d with d | d
  · exact h A pins s σ H x y u v c sb I rx ry d
  · exact h' A pins s σ H x y u v c sb I rx ry d
theorem EqB.mono (h : EqB X n D) (hn : n ≤ m) : EqB X m D := fun A pins s σ H x y u v c sb => h A pins s σ H x y u v c (sb.mono hn)
theorem rcB_tup (hD : MonB D) (h : EqB X n D) : RcB X (n + 1) (BTup X.K D) := by
  intro A pins s σ H x y u v c sb I rx ry d
  obtain ⟨a, b, xs, ys, cs, rfl, rfl, ha, hb, p, hc⟩ := d
  cases rx
  cases ry
  obtain ⟨ia, ra, ea, -⟩ := I.tuple ha
  obtain ⟨ib, rb, eb, -⟩ := I.tuple hb
  have za : ia.toArray.size = xs.length := by rw [List.size_toArray, ra.length]
  have zb : ib.toArray.size = ys.length := by rw [List.size_toArray, rb.length]
  refine rc_eq sb.room.units0 (fun k t => (∀ j, j < k → cs[j]? = some true) ∧ LoopI X pins σ H t) ea eb (fun k k1 k2 t j => ?_) (fun t j => ?_) ⟨fun j hj => by omega, H, I, Ext.rfl'⟩
  · obtain ⟨j0, H1, I1, x1⟩ := j
    have q1 : k < xs.length := by omega
    have q2 : k < ys.length := by omega
    have q3 : k < cs.length := by rw [p.len]; omega
    obtain ⟨u, hu, ru⟩ := ra.get (List.getElem?_eq_getElem q1)
    obtain ⟨v, hv, rv⟩ := rb.get (List.getElem?_eq_getElem q2)
    have g1 : ia[k]? = some ia.toArray[k] := by simp
    have g2 : ib[k]? = some ib.toArray[k] := by simp
    rw [g1] at hu
    rw [g2] at hv
    rw [Option.some.inj hu, Option.some.inj hv]
    refine wpAny_mono (h A.in1 pins t σ H1 _ _ u v cs[k] sb.in1 I1 ru rv (hD _ _ _ _ _ x1 (p.at' k _ _ _ j0 (List.getElem?_eq_getElem q1) (List.getElem?_eq_getElem q2) (List.getElem?_eq_getElem q3)))) (fun r t2 q => ?_) fun _ _ x => x
    obtain ⟨hr, H2, I2, x2⟩ := q
    cases ec : cs[k] with
    | true =>
      refine .inl ⟨hr.trans ec, fun j hj => ?_, H2, I2, x1.trans x2⟩
      by_cases z : j = k
      · rw [z, List.getElem?_eq_getElem q3, ec]
      · exact j0 j (by omega)
    | false =>
      refine .inr ⟨hr.trans ec, ?_, H2, I2, x1.trans x2⟩
      have : cs.all id = false := by
        rw [List.all_eq_false]
        exact ⟨cs[k], List.getElem_mem q3, by rw [ec]; decide⟩
      rw [hc, this]
      rfl
  · obtain ⟨j0, l⟩ := j
    refine ⟨?_, l⟩
    have : cs.all id = true := by
      rw [List.all_eq_true]
      intro z hz
      obtain ⟨i, hi, rfl⟩ := List.getElem_of_mem hz
      have := j0 i (by rw [p.len] at hi; omega)
      rw [List.getElem?_eq_getElem hi] at this
      exact Option.some.inj this
    rw [hc, this, Bool.true_and, za, zb]
    congr 1
theorem RcB.eqB (h : RcB X n D) (hr : ∀ x y c H, D x y c H → ∃ a b, x = .ref a ∧ y = .ref b) : EqB X n (BSm D) := by
  intro A pins s σ H x y u v c sb I rx ry d
  obtain ⟨d, hs⟩ := d
  obtain ⟨a, b, rfl, rfl⟩ := hr _ _ _ _ d
  cases rx
  cases ry
  by_cases hab : a = b
  · subst hab
    rw [hs rfl]
    exact SeqAt.EqAt.same (A := A) (s := s) (.ref a) X.prog X.w X.xe _ ⟨rfl, H, I, Ext.rfl'⟩
  · refine GQ.eqBool_refG hab (wpAny_mono (h A pins s σ H (.ref a) (.ref b) _ _ c sb I rfl rfl d) (fun r s' q => ?_) fun _ _ x => x)
    exact ⟨c, q.1, rfl, q.2⟩
theorem eqB_tup (hD : MonB D) (h : EqB X n D) : EqB X (n + 1) (BSm (BTup X.K D)) := (rcB_tup hD h).eqB fun _ _ _ _ d => let ⟨a, b, _, _, _, hx, hy, _⟩ := d; ⟨a, b, hx, hy⟩
def spEqC (C : Addr) : Sp := fun vs H Q _ => ∃ (a b : Addr) (l m : List Nat), vs = [.ref a, .ref b] ∧ CP.ChAt C H l a ∧ CP.ChAt C H m b ∧ ∀ H', Ext H H' → Q (.bl (decide (l = m))) H'
theorem rcB_ch {C f : Addr} {fd : FuncData} (F : FnOk X.prog X.w X.K X.mg X.base CX0 n f fd ["self", "other"] (spEqC C)) (O : WO.Own X.K C f "__eq__") (hb : Binds X.K fd ["self", "other"] []) : RcB X n (BCh C) := by
  intro A pins s σ H x y u v c sb I rx ry d
  obtain ⟨a, b, l, m, rfl, rfl, h1, h2, hc⟩ := d
  cases rx
  cases ry
  obtain ⟨dx, t1, u1, g1, _⟩ := id h1
  obtain ⟨dy, t2, u2, g2, _⟩ := id h2
  obtain ⟨_, J, _⟩ := ins_get I.hok g1
  obtain ⟨_, J', _⟩ := ins_get I.hok g2
  obtain ⟨od, J, _⟩ := J.look
  obtain ⟨ow, J', _⟩ := J'.look
  obtain ⟨m0, hF⟩ := I.fr
  refine PySem.W.cmp_K (op := .Eq) (tb := .ref C) sb.room.units0 hF I.ok.mod.kin J J'.type (by simp [PySem.W.notFirst]) O.at' O.fn (WO.run_own F (A := A) (xs := [.ref a, .ref b]) (Z := fun v H1 => v = .bl c ∧ Ext H H1) (E := E0) sb hb pass0 I (.cons rfl (.cons rfl .nil)) ⟨a, b, l, m, rfl, h1, h2, fun H' e => ⟨by rw [hc], e⟩⟩ fun z u H1 s1 I1 rz q => ?_)
  obtain ⟨rfl, q⟩ := q
  cases rz
  exact ⟨rfl, H1, I1, q⟩
/-- x == y as an expression -/
def rEqB (D : Cmp) : R2 := fun x y H Q => ∃ c, D x y c H ∧ ∀ H', Ext H H' → Q (.bl c) H'
theorem op_eqB (h : RcB X n D) (hr : Room n X.A) : OpR X (compareOp .Eq) (rEqB D) := by
  intro pins s σ H x y v u Q I rx ry hq
  obtain ⟨c, d, q⟩ := hq
  show wpAny (model X.prog X.w) X.A (richCompare .Eq v u) (EP X pins σ Q) X.xe s
  refine wpAny_mono (h X.A pins s σ H x y v u c ⟨hr, rfl⟩ I rx ry d) (fun r t z => ?_) fun _ _ x => x
  obtain ⟨e, H1, I1, x1⟩ := z
  subst e
  exact ⟨.bl c, H1, I1, rfl, q H1 x1⟩
end
end EB

end
section
set_option autoImplicit false
set_option Elab.async false
set_option linter.all false
set_option maxRecDepth 100000
set_option maxHeartbeats 4000000
/-! ## plans as data; ways == with either answer -/
namespace CP
open PySem L2 G Y
mutual
/-- a plan as data -/
def dWay : M.Way → PyData
  | .mk h s => .tuple [.int (h : Int), .tuple (dSteps s)]
def dSteps : List M.Step → List PyData
  | [] => []
  | s :: r => dStep s :: dSteps r
def dStep : M.Step → PyData
  | .road size ts lw => .tuple [.str "road", .int (size : Int), .str (WP.sdS ts), .str (WP.lwS lw)]
  | .join most => .tuple [.str "join", .int (most : Int)]
  | .tunnel w most t => .tuple [.str "tunnel", dWay w, .int (most : Int), .str (WP.twS t)]
end
mutual
theorem dp_way {K : PySem.W.Frag} {H : Hp} : ∀ {w : M.Way} {v : V}, PlanAt H w v → Dp K H v (dWay w)
  | .mk h s, v, x => by
    unfold PlanAt at x
    unfold dWay
    obtain ⟨t, L, xs, rfl, h1, h2, h3⟩ := x
    exact .tup (SqT.of h1) (.cons (.int _) (.cons (.tup (SqT.of h2) (dp_steps h3)) .nil))
theorem dp_steps {K : PySem.W.Frag} {H : Hp} : ∀ {s : List M.Step} {xs : List V}, PlAll H s xs → DpAll K H xs (dSteps s)
  | [], xs, x => by
    unfold PlAll at x
    unfold dSteps
    subst x
    exact .nil
  | y :: r, xs, x => by
    unfold PlAll at x
    unfold dSteps
    obtain ⟨u, ys, rfl, h1, h2⟩ := x
    exact .cons (dp_step h1) (dp_steps h2)
theorem dp_step {K : PySem.W.Frag} {H : Hp} : ∀ {s : M.Step} {v : V}, PlStep H s v → Dp K H v (dStep s)
  | .road size ts lw, v, x => by
    unfold PlStep at x
    unfold dStep
    obtain ⟨t, rfl, h⟩ := x
    exact .tup (SqT.of h) (.cons (.str _) (.cons (.int _) (.cons (.str _) (.cons (.str _) .nil))))
  | .join most, v, x => by
    unfold PlStep at x
    unfold dStep
    obtain ⟨t, rfl, h⟩ := x
    exact .tup (SqT.of h) (.cons (.str _) (.cons (.int _) .nil))
  | .tunnel w most tw, v, x => by
    unfold PlStep at x
    unfold dStep
    obtain ⟨t, u, rfl, h, h2⟩ := x
    exact .tup (SqT.of h) (.cons (.str _) (.cons (dp_way h2) (.cons (.int _) (.cons (.str _) .nil))))
end
theorem lay_words : (∀ ts, (PyData.str (WP.sdS ts)).canLay0 = true) ∧ (∀ lw, (PyData.str (WP.lwS lw)).canLay0 = true) ∧ (∀ t, (PyData.str (WP.twS t)).canLay0 = true) ∧ (PyData.str "road").canLay0 = true ∧ (PyData.str "join").canLay0 = true ∧ (PyData.str "tunnel").canLay0 = true := by
  refine ⟨fun ts => ?_, fun lw => ?_, fun t => ?_, by decide +kernel, by decide +kernel, by decide +kernel⟩
  · cases ts <;> decide +kernel
  · cases lw <;> decide +kernel
  · cases t <;> decide +kernel
mutual
theorem lay_way : ∀ w : M.Way, (dWay w).canLay0 = true ∧ (dWay w).depth ≤ 3 * w.depth
  | .mk h s => by
    obtain ⟨a, b⟩ := lay_steps s
    unfold dWay M.Way.depth
    refine ⟨by simp only [PyData.canLay0, PyData.canLayAll0, a, Bool.and_self], ?_⟩
    simp only [PyData.depth, PyData.depthAll]
    omega
theorem lay_steps : ∀ s : List M.Step, PyData.canLayAll0 (dSteps s) = true ∧ PyData.depthAll (dSteps s) ≤ 3 * M.Step.deepest s + 1
  | [] => by
    unfold dSteps
    exact ⟨rfl, by simp only [PyData.depthAll]; omega⟩
  | y :: r => by
    obtain ⟨a, b⟩ := lay_step y
    obtain ⟨c, d⟩ := lay_steps r
    unfold dSteps
    rw [M.deep_cons]
    refine ⟨by simp only [PyData.canLayAll0, a, c, Bool.and_self], ?_⟩
    simp only [PyData.depthAll]
    omega
theorem lay_step : ∀ s : M.Step, (dStep s).canLay0 = true ∧ (dStep s).depth ≤ 3 * M.Step.dep s + 1
  | .road size ts lw => by
    unfold dStep
    refine ⟨by simp only [PyData.canLayAll0, show ∀ l, (PyData.tuple l).canLay0 = PyData.canLayAll0 l from fun l => by simp only [PyData.canLay0], lay_words.1, lay_words.2.1, lay_words.2.2.2.1, show (PyData.int (size : Int)).canLay0 = true from rfl, Bool.and_self], ?_⟩
    simp only [PyData.depth, PyData.depthAll]
    omega
  | .join most => by
    unfold dStep
    refine ⟨by simp only [PyData.canLayAll0, show ∀ l, (PyData.tuple l).canLay0 = PyData.canLayAll0 l from fun l => by simp only [PyData.canLay0], lay_words.2.2.2.2.1, show (PyData.int (most : Int)).canLay0 = true from rfl, Bool.and_self], ?_⟩
    simp only [PyData.depth, PyData.depthAll]
    omega
  | .tunnel w most t => by
    obtain ⟨a, b⟩ := lay_way w
    unfold dStep
    refine ⟨by simp only [PyData.canLayAll0, show ∀ l, (PyData.tuple l).canLay0 = PyData.canLayAll0 l from fun l => by simp only [PyData.canLay0], lay_words.2.2.1, lay_words.2.2.2.2.2, a, show (PyData.int (most : Int)).canLay0 = true from rfl, Bool.and_self], ?_⟩
    simp only [PyData.depth, PyData.depthAll]
    have e : M.Step.dep (.tunnel w most t) = w.depth := rfl
    omega
end
theorem shp_way {w : M.Way} (h : w.depth ≤ 3) : SeqAt.shaped (dWay w) = true := by
  obtain ⟨a, b⟩ := lay_way w
  unfold SeqAt.shaped
  rw [a, Bool.true_and]
  exact decide_eq_true (by omega)
theorem eqv_str {x y : Str} (h : PyData.eqv (.str x) (.str y) = true) : x = y := by
  simp only [PyData.eqv] at h
  exact eq_of_beq h
theorem eqv_nat {x y : Nat} (h : PyData.eqv (.int (x : Int)) (.int (y : Int)) = true) : x = y := by
  simp only [PyData.eqv] at h
  have := eq_of_beq h
  omega
theorem eqv_cons {x y : PyData} {xs ys : List PyData} (h : PyData.eqvAll (x :: xs) (y :: ys) = true) : PyData.eqv x y = true ∧ PyData.eqvAll xs ys = true := by
  simp only [PyData.eqvAll] at h
  exact Bool.and_eq_true_iff.mp h
theorem eqv_tp {xs ys : List PyData} (h : PyData.eqv (.tuple xs) (.tuple ys) = true) : PyData.eqvAll xs ys = true := by
  simp only [PyData.eqv] at h
  exact h
theorem sd_inj {a b : Bool} (h : WP.sdS a = WP.sdS b) : a = b := by
  cases a <;> cases b <;> first | rfl | exact absurd h (by decide +kernel)
theorem lw_inj {a b : M.LW} (h : WP.lwS a = WP.lwS b) : a = b := by
  cases a <;> cases b <;> first | rfl | exact absurd h (by decide +kernel)
theorem tw_inj {a b : M.TW} (h : WP.twS a = WP.twS b) : a = b := by
  cases a <;> cases b <;> first | rfl | exact absurd h (by decide +kernel)
theorem kinds_ne : ("road" : Str) ≠ "join" ∧ ("road" : Str) ≠ "tunnel" ∧ ("join" : Str) ≠ "road" ∧ ("join" : Str) ≠ "tunnel" ∧ ("tunnel" : Str) ≠ "road" ∧ ("tunnel" : Str) ≠ "join" := by decide +kernel
mutual
theorem way_inj : ∀ {w u : M.Way}, PyData.eqv (dWay w) (dWay u) = true → w = u
  | .mk h s, .mk g r, e => by
    unfold dWay at e
    obtain ⟨e1, e2⟩ := eqv_cons (eqv_tp e)
    obtain ⟨e3, _⟩ := eqv_cons e2
    rw [eqv_nat e1, steps_inj (eqv_tp e3)]
theorem steps_inj : ∀ {s r : List M.Step}, PyData.eqvAll (dSteps s) (dSteps r) = true → s = r
  | [], [], e => rfl
  | [], y :: r, e => by
    unfold dSteps at e
    simp only [PyData.eqvAll] at e
    cases e
  | x :: s, [], e => by
    unfold dSteps at e
    simp only [PyData.eqvAll] at e
    cases e
  | x :: s, y :: r, e => by
    unfold dSteps at e
    obtain ⟨e1, e2⟩ := eqv_cons e
    rw [step_inj e1, steps_inj e2]
theorem step_inj : ∀ {s r : M.Step}, PyData.eqv (dStep s) (dStep r) = true → s = r
  | .road a b c, .road a' b' c', e => by
    unfold dStep at e
    obtain ⟨_, e2⟩ := eqv_cons (eqv_tp e)
    obtain ⟨e3, e4⟩ := eqv_cons e2
    obtain ⟨e5, e6⟩ := eqv_cons e4
    obtain ⟨e7, _⟩ := eqv_cons e6
    rw [eqv_nat e3, sd_inj (eqv_str e5), lw_inj (eqv_str e7)]
  | .join a, .join b, e => by
    unfold dStep at e
    obtain ⟨_, e2⟩ := eqv_cons (eqv_tp e)
    obtain ⟨e3, _⟩ := eqv_cons e2
    rw [eqv_nat e3]
  | .tunnel w a b, .tunnel w' a' b', e => by
    unfold dStep at e
    obtain ⟨_, e2⟩ := eqv_cons (eqv_tp e)
    obtain ⟨e3, e4⟩ := eqv_cons e2
    obtain ⟨e5, e6⟩ := eqv_cons e4
    obtain ⟨e7, _⟩ := eqv_cons e6
    rw [way_inj e3, eqv_nat e5, tw_inj (eqv_str e7)]
  | .road a b c, .join d, e => by unfold dStep at e; exact absurd (eqv_str (eqv_cons (eqv_tp e)).1) kinds_ne.1
  | .road a b c, .tunnel x y z, e => by unfold dStep at e; exact absurd (eqv_str (eqv_cons (eqv_tp e)).1) kinds_ne.2.1
  | .join d, .road a b c, e => by unfold dStep at e; exact absurd (eqv_str (eqv_cons (eqv_tp e)).1) kinds_ne.2.2.1
  | .join d, .tunnel x y z, e => by unfold dStep at e; exact absurd (eqv_str (eqv_cons (eqv_tp e)).1) kinds_ne.2.2.2.1
  | .tunnel x y z, .road a b c, e => by unfold dStep at e; exact absurd (eqv_str (eqv_cons (eqv_tp e)).1) kinds_ne.2.2.2.2.1
  | .tunnel x y z, .join d, e => by unfold dStep at e; exact absurd (eqv_str (eqv_cons (eqv_tp e)).1) kinds_ne.2.2.2.2.2
end
theorem eqv_rfl (w : M.Way) : PyData.eqv (dWay w) (dWay w) = true := SeqAt.eqv_refl _ (lay_way w).1
def weq (a b : M.Way) : Bool := PyData.eqv (dWay a) (dWay b)
def seq (a b : M.Step) : Bool := PyData.eqv (dStep a) (dStep b)
theorem weq_iff {a b : M.Way} : weq a b = true ↔ a = b := ⟨way_inj, fun e => by rw [e]; exact eqv_rfl b⟩
theorem seq_refl (a : M.Step) : seq a a = true := SeqAt.eqv_refl _ (lay_step a).1
theorem seq_iff {a b : M.Step} : seq a b = true ↔ a = b := ⟨step_inj, fun e => by rw [e]; exact seq_refl b⟩
theorem all_steps : ∀ (s r : List M.Step), PyData.eqvAll (dSteps s) (dSteps r) = ((List.zipWith seq s r).all id && decide (s.length = r.length))
  | [], [] => by unfold dSteps; rfl
  | [], y :: r => by
    unfold dSteps
    simp only [PyData.eqvAll, List.zipWith_nil_left, List.length_nil, List.length_cons]
    simp
  | x :: s, [] => by
    unfold dSteps
    simp only [PyData.eqvAll, List.zipWith_nil_right, List.length_nil, List.length_cons]
    simp
  | x :: s, y :: r => by
    have ih := all_steps s r
    unfold dSteps
    simp only [PyData.eqvAll, List.zipWith_cons_cons, List.all_cons, id, List.length_cons, Nat.add_right_cancel_iff]
    rw [ih, Bool.and_assoc]
    rfl
theorem weq_mk (h g : Nat) (s r : List M.Step) : weq (.mk h s) (.mk g r) = (decide (h = g) && ((List.zipWith seq s r).all id && decide (s.length = r.length))) := by
  unfold weq dWay
  simp only [PyData.eqv, PyData.eqvAll, Bool.and_true]
  rw [all_steps]
  congr 1
  by_cases e : h = g
  · subst e
    simp
  · rw [decide_eq_false e]
    exact beq_eq_false_iff_ne.mpr (by omega)
end CP
namespace WP
open PySem L2 G
mutual
/-- what stands at a place is one way -/
theorem way_fun {C : Addr} {H : Hp} : ∀ {w u : M.Way} {a : Addr}, WayAt C H w a → WayAt C H u a → w = u
  | .mk h s, .mk g r, a, x, y => by
    unfold WayAt at x y
    obtain ⟨dx, t, xs, a1, a2, a3⟩ := x
    obtain ⟨dy, u, ys, b1, b2, b3⟩ := y
    rw [a1] at b1
    have e := HO.ins.inj (Option.some.inj b1)
    have e1 := flds_head (h : Int) t ((1 + M.Step.deepest s : Nat) : Int) ((s.length + M.Step.inner s : Nat) : Int)
    have e2 := flds_steps (h : Int) t ((1 + M.Step.deepest s : Nat) : Int) ((s.length + M.Step.inner s : Nat) : Int)
    rw [e.2.2, flds_head] at e1
    rw [e.2.2, flds_steps] at e2
    have e1 := V.int.inj (Option.some.inj e1)
    have e2 := V.ref.inj (Option.some.inj e2)
    subst e2
    rw [a2] at b2
    cases b2
    rw [show h = g by omega, steps_fun a3 b3]
theorem steps_fun {C : Addr} {H : Hp} : ∀ {s r : List M.Step} {xs : List V}, StepsAt C H s xs → StepsAt C H r xs → s = r
  | [], [], xs, _, _ => rfl
  | [], y :: r, xs, a, b => by
    unfold StepsAt at a b
    obtain ⟨_, _, e, _⟩ := b
    rw [a] at e
    cases e
  | x :: s, [], xs, a, b => by
    unfold StepsAt at a b
    obtain ⟨_, _, e, _⟩ := a
    rw [b] at e
    cases e
  | x :: s, y :: r, xs, a, b => by
    unfold StepsAt at a b
    obtain ⟨u, us, rfl, a1, a2⟩ := a
    obtain ⟨v, vs, e, b1, b2⟩ := b
    cases e
    rw [step_fun a1 b1, steps_fun a2 b2]
theorem step_fun {C : Addr} {H : Hp} : ∀ {s r : M.Step} {x : V}, StepAt C H s x → StepAt C H r x → s = r
  | .road a b c, .road a' b' c', x, h, k => by
    unfold StepAt at h k
    obtain ⟨t, rfl, h⟩ := h
    obtain ⟨u, e, k⟩ := k
    cases e
    rw [h] at k
    have e := HO.tup.inj (Option.some.inj k)
    simp only [List.cons.injEq, V.int.injEq, V.str.injEq, and_true, true_and] at e
    rw [show a = a' by omega, CP.sd_inj e.2.1, CP.lw_inj e.2.2]
  | .join a, .join b, x, h, k => by
    unfold StepAt at h k
    obtain ⟨t, rfl, h⟩ := h
    obtain ⟨u, e, k⟩ := k
    cases e
    rw [h] at k
    have e := HO.tup.inj (Option.some.inj k)
    simp only [List.cons.injEq, V.int.injEq, and_true, true_and] at e
    rw [show a = b by omega]
  | .tunnel w a b, .tunnel w' a' b', x, h, k => by
    unfold StepAt at h k
    obtain ⟨t, i, rfl, h, h2⟩ := h
    obtain ⟨u, j, e, k, k2⟩ := k
    cases e
    rw [h] at k
    have e := HO.tup.inj (Option.some.inj k)
    simp only [List.cons.injEq, V.int.injEq, V.str.injEq, V.ref.injEq, and_true, true_and] at e
    obtain ⟨e1, e2, e3⟩ := e
    subst e1
    rw [way_fun h2 k2, show a = a' by omega, CP.tw_inj e3]
  | .road a b c, .join d, x, h, k => by
    unfold StepAt at h k
    obtain ⟨t, rfl, h⟩ := h
    obtain ⟨u, e, k⟩ := k
    cases e
    rw [h] at k
    exact absurd (congrArg List.length (HO.tup.inj (Option.some.inj k))) (by simp)
  | .join d, .road a b c, x, h, k => by
    unfold StepAt at h k
    obtain ⟨t, rfl, h⟩ := h
    obtain ⟨u, e, k⟩ := k
    cases e
    rw [h] at k
    exact absurd (congrArg List.length (HO.tup.inj (Option.some.inj k))) (by simp)
  | .tunnel w a b, .join d, x, h, k => by
    unfold StepAt at h k
    obtain ⟨t, i, rfl, h, _⟩ := h
    obtain ⟨u, e, k⟩ := k
    cases e
    rw [h] at k
    exact absurd (congrArg List.length (HO.tup.inj (Option.some.inj k))) (by simp)
  | .join d, .tunnel w a b, x, h, k => by
    unfold StepAt at h k
    obtain ⟨t, rfl, h⟩ := h
    obtain ⟨u, i, e, k, _⟩ := k
    cases e
    rw [h] at k
    exact absurd (congrArg List.length (HO.tup.inj (Option.some.inj k))) (by simp)
  | .road a b c, .tunnel w d e0, x, h, k => by
    unfold StepAt at h k
    obtain ⟨t, rfl, h⟩ := h
    obtain ⟨u, i, e, k, _⟩ := k
    cases e
    rw [h] at k
    have e := HO.tup.inj (Option.some.inj k)
    simp only [List.cons.injEq, V.str.injEq] at e
    exact absurd e.1 (by decide +kernel)
  | .tunnel w d e0, .road a b c, x, h, k => by
    unfold StepAt at h k
    obtain ⟨t, i, rfl, h, _⟩ := h
    obtain ⟨u, e, k⟩ := k
    cases e
    rw [h] at k
    have e := HO.tup.inj (Option.some.inj k)
    simp only [List.cons.injEq, V.str.injEq] at e
    exact absurd e.1 (by decide +kernel)
end
end WP

end
section
set_option autoImplicit false
set_option Elab.async false
set_option linter.all false
set_option maxRecDepth 100000
set_option maxHeartbeats 4000000
/-! ## ways == ways with either answer; one way behind the other -/
namespace EB
open PySem PySem.Spec PyProof.Rows L2 WP
def BWy (C : Addr) (n : Nat) : Cmp := fun x y c H => ∃ a b w1 w2, x = .ref a ∧ y = .ref b ∧ WayAt C H w1 a ∧ WayAt C H w2 b ∧ w1.depth ≤ n ∧ c = CP.weq w1 w2
theorem mon_wy {C : Addr} {n : Nat} : MonB (BWy C n) := fun x y c H H' e d => by
  obtain ⟨a, b, w1, w2, hx, hy, h1, h2, hd, hc⟩ := d
  exact ⟨a, b, w1, w2, hx, hy, h1.mono e, h2.mono e, hd, hc⟩
def BIt (C : Addr) (n : Nat) : Cmp := fun x y c H => BFlat x y c H ∨ BSm (BWy C n) x y c H
theorem mon_bit {C : Addr} {n : Nat} : MonB (BIt C n) := mon_or mon_flat (mon_sm mon_wy)
def spWEB (C : Addr) (n : Nat) : Sp := fun vs H Q _ => ∃ (a b : Addr) (w1 w2 : M.Way), vs = [.ref a, .ref b] ∧ WayAt C H w1 a ∧ WayAt C H w2 b ∧ w1.depth ≤ n ∧ ∀ H', Ext H H' → Q (.bl (CP.weq w1 w2)) H'
section
variable {X : Cx} {n m : Nat}
theorem rcB_wy {C f : Addr} {fd : FuncData} (F : FnOk X.prog X.w X.K X.mg X.base CX0 n f fd ["self", "other"] (spWEB C m)) (O : WO.Own X.K C f "__eq__") (hb : Binds X.K fd ["self", "other"] []) : RcB X n (BWy C m) := by
  intro A pins s σ H x y u v c sb I rx ry d
  obtain ⟨a, b, w1, w2, rfl, rfl, h1, h2, hd, hc⟩ := d
  cases rx
  cases ry
  obtain ⟨da, fa, g1, _⟩ := head_fld h1
  obtain ⟨db, fb, g2, _⟩ := head_fld h2
  obtain ⟨_, J, _⟩ := ins_get I.hok g1
  obtain ⟨_, J', _⟩ := ins_get I.hok g2
  obtain ⟨od, J, _⟩ := J.look
  obtain ⟨ow, J', _⟩ := J'.look
  obtain ⟨m0, hF⟩ := I.fr
  refine PySem.W.cmp_K (op := .Eq) (tb := .ref C) sb.room.units0 hF I.ok.mod.kin J J'.type (by simp [PySem.W.notFirst]) O.at' O.fn (WO.run_own F (A := A) (xs := [.ref a, .ref b]) (Z := fun v H1 => v = .bl c ∧ Ext H H1) (E := E0) sb hb pass0 I (.cons rfl (.cons rfl .nil)) ⟨a, b, w1, w2, rfl, h1, h2, hd, fun H' e => ⟨by rw [hc], e⟩⟩ fun z u H1 s1 I1 rz q => ?_)
  obtain ⟨rfl, q⟩ := q
  cases rz
  exact ⟨rfl, H1, I1, q⟩
end
theorem fl_s (a b : Str) (H : Hp) : BFlat (.str a) (.str b) (a == b) H := ⟨rfl, rfl, rfl⟩
theorem fl_i (a b : Int) (H : Hp) : BFlat (.int a) (.int b) (a == b) H := ⟨rfl, rfl, rfl⟩
section
variable {K : PySem.W.Frag} {C : Addr}
/-- the first items differ: nothing more is asked -/
theorem prs_ne {H : Hp} {D : Cmp} {x y : V} {xs ys : List V} (h : D x y false H) : PrB D (x :: xs) (y :: ys) (false :: List.replicate (min xs.length ys.length) true) H := by
  refine ⟨by rw [List.length_cons, List.length_replicate, List.length_cons, List.length_cons]; omega, fun i x' y' c g0 g1 g2 g3 => ?_⟩
  cases i with
  | zero =>
    cases g1
    cases g2
    cases g3
    exact h
  | succ i =>
    have := g0 0 (Nat.succ_pos i)
    cases this
theorem prs_nil {H : Hp} {D : Cmp} : PrB D [] [] [] H := ⟨rfl, fun i x y c _ g1 _ _ => by cases g1⟩
theorem prs_cons {H : Hp} {D : Cmp} {x y : V} {c : Bool} {xs ys : List V} {cs : List Bool} (h : D x y c H) (p : PrB D xs ys cs H) : PrB D (x :: xs) (y :: ys) (c :: cs) H := by
  refine ⟨by rw [List.length_cons, List.length_cons, List.length_cons, p.len]; omega, fun i x' y' c' g0 g1 g2 g3 => ?_⟩
  cases i with
  | zero =>
    cases g1
    cases g2
    cases g3
    exact h
  | succ i => exact p.at' i x' y' c' (fun j hj => g0 (j + 1) (by omega)) g1 g2 g3
theorem sne {a b : Str} (h : a ≠ b) (H : Hp) : BFlat (.str a) (.str b) false H := ⟨rfl, rfl, by
  show (a == b) = false
  exact beq_eq_false_iff_ne.mpr h⟩
theorem bsame (C : Addr) (H : Hp) {w1 w2 : M.Way} {n : Nat} {a b : Addr} (h1 : WayAt C H w1 a) (h2 : WayAt C H w2 b) (hd : w1.depth ≤ n) : BSm (BWy C n) (.ref a) (.ref b) (CP.weq w1 w2) H :=
  ⟨⟨a, b, w1, w2, rfl, rfl, h1, h2, hd, rfl⟩, fun e => by
    cases e
    exact CP.weq_iff.mpr (WP.way_fun h1 h2)⟩
theorem tup_step {n : Nat} {H : Hp} {x y : V} {c : Bool} {t u : Addr} {xs ys : List V} {cs : List Bool} (hx : x = .ref t) (hy : y = .ref u) (h1 : H t = some (.tup xs)) (h2 : H u = some (.tup ys)) (p : PrB (BIt C n) xs ys cs H) (hc : c = (cs.all id && decide (xs.length = ys.length))) : BTup K (BIt C n) x y c H :=
  ⟨t, u, xs, ys, cs, hx, hy, SqT.of h1, SqT.of h2, p, hc⟩
theorem step_b {H : Hp} {n : Nat} : ∀ {s r : M.Step} {x y : V}, M.Step.dep s ≤ n → StepAt C H s x → StepAt C H r y → BTup K (BIt C n) x y (CP.seq s r) H
  | .road a b c, .road a' b' c', x, y, d, h, k => by
    unfold StepAt at h k
    obtain ⟨t, e, h⟩ := h
    obtain ⟨u, f, k⟩ := k
    refine tup_step e f h k (prs_cons (.inl (fl_s _ _ H)) (prs_cons (.inl (fl_i _ _ H)) (prs_cons (.inl (fl_s _ _ H)) (prs_cons (.inl (fl_s _ _ H)) prs_nil)))) ?_
    unfold CP.seq CP.dStep
    simp only [PyData.eqv, PyData.eqvAll, List.all_cons, List.all_nil, id, List.length_cons, List.length_nil, decide_true, Bool.and_true]
  | .join a, .join b, x, y, d, h, k => by
    unfold StepAt at h k
    obtain ⟨t, e, h⟩ := h
    obtain ⟨u, f, k⟩ := k
    refine tup_step e f h k (prs_cons (.inl (fl_s _ _ H)) (prs_cons (.inl (fl_i _ _ H)) prs_nil)) ?_
    unfold CP.seq CP.dStep
    simp only [PyData.eqv, PyData.eqvAll, List.all_cons, List.all_nil, id, List.length_cons, List.length_nil, decide_true, Bool.and_true]
  | .tunnel w a b, .tunnel w' a' b', x, y, d, h, k => by
    unfold StepAt at h k
    obtain ⟨t, i, e, h, h2⟩ := h
    obtain ⟨u, j, f, k, k2⟩ := k
    refine tup_step e f h k (prs_cons (.inl (fl_s _ _ H)) (prs_cons (.inr (bsame C H h2 k2 d)) (prs_cons (.inl (fl_i _ _ H)) (prs_cons (.inl (fl_s _ _ H)) prs_nil)))) ?_
    unfold CP.seq CP.dStep CP.weq
    simp only [PyData.eqv, PyData.eqvAll, List.all_cons, List.all_nil, id, List.length_cons, List.length_nil, decide_true, Bool.and_true]
  | .road a b c, .join d0, x, y, d, h, k => by
    unfold StepAt at h k
    obtain ⟨t, e, h⟩ := h
    obtain ⟨u, f, k⟩ := k
    refine tup_step e f h k (prs_ne (.inl (sne CP.kinds_ne.1 H))) ?_
    exact Bool.eq_false_iff.mpr fun q => by cases CP.seq_iff.mp q
  | .join d0, .road a b c, x, y, d, h, k => by
    unfold StepAt at h k
    obtain ⟨t, e, h⟩ := h
    obtain ⟨u, f, k⟩ := k
    refine tup_step e f h k (prs_ne (.inl (sne CP.kinds_ne.2.2.1 H))) ?_
    exact Bool.eq_false_iff.mpr fun q => by cases CP.seq_iff.mp q
  | .tunnel w a b, .join d0, x, y, d, h, k => by
    unfold StepAt at h k
    obtain ⟨t, i, e, h, _⟩ := h
    obtain ⟨u, f, k⟩ := k
    refine tup_step e f h k (prs_ne (.inl (sne CP.kinds_ne.2.2.2.2.2 H))) ?_
    exact Bool.eq_false_iff.mpr fun q => by cases CP.seq_iff.mp q
  | .join d0, .tunnel w a b, x, y, d, h, k => by
    unfold StepAt at h k
    obtain ⟨t, e, h⟩ := h
    obtain ⟨u, i, f, k, _⟩ := k
    refine tup_step e f h k (prs_ne (.inl (sne CP.kinds_ne.2.2.2.1 H))) ?_
    exact Bool.eq_false_iff.mpr fun q => by cases CP.seq_iff.mp q
  | .road a b c, .tunnel w d0 e0, x, y, d, h, k => by
    unfold StepAt at h k
    obtain ⟨t, e, h⟩ := h
    obtain ⟨u, i, f, k, _⟩ := k
    refine tup_step e f h k (prs_ne (.inl (sne CP.kinds_ne.2.1 H))) ?_
    exact Bool.eq_false_iff.mpr fun q => by cases CP.seq_iff.mp q
  | .tunnel w d0 e0, .road a b c, x, y, d, h, k => by
    unfold StepAt at h k
    obtain ⟨t, i, e, h, _⟩ := h
    obtain ⟨u, f, k⟩ := k
    refine tup_step e f h k (prs_ne (.inl (sne CP.kinds_ne.2.2.2.2.1 H))) ?_
    exact Bool.eq_false_iff.mpr fun q => by cases CP.seq_iff.mp q
theorem step_sb {H : Hp} {n : Nat} {s r : M.Step} {x y : V} (d : M.Step.dep s ≤ n) (h : StepAt C H s x) (k : StepAt C H r y) : BSm (BTup K (BIt C n)) x y (CP.seq s r) H :=
  ⟨step_b d h k, fun e => by
    subst e
    exact CP.seq_iff.mpr (WP.step_fun h k)⟩
theorem steps_b {H : Hp} {n : Nat} : ∀ {s r : List M.Step} {xs ys : List V}, M.Step.deepest s ≤ n → StepsAt C H s xs → StepsAt C H r ys → PrB (BSm (BTup K (BIt C n))) xs ys (List.zipWith CP.seq s r) H
  | [], [], xs, ys, d, h1, h2 => by
    unfold StepsAt at h1 h2
    subst h1 h2
    exact prs_nil
  | [], _ :: _, xs, ys, d, h1, h2 => by
    unfold StepsAt at h1
    subst h1
    exact ⟨by simp, fun i x y c _ g1 _ _ => by cases g1⟩
  | _ :: _, [], xs, ys, d, h1, h2 => by
    unfold StepsAt at h2
    subst h2
    exact ⟨by simp, fun i x y c _ _ g2 _ => by cases g2⟩
  | s :: s', r :: r', xs, ys, d, h1, h2 => by
    rw [M.deep_cons] at d
    unfold StepsAt at h1 h2
    obtain ⟨x, xs, rfl, a1, a2⟩ := h1
    obtain ⟨y, ys, rfl, b1, b2⟩ := h2
    rw [List.zipWith_cons_cons]
    exact prs_cons (step_sb (by omega) a1 b1) (steps_b (by omega) a2 b2)
end
section
variable {P : Program} {w : World} {K : PySem.W.Frag} {mg : Str → Option Value} {base : Heap} {C : Addr}
theorem ok_weqB {k n : Nat} {f : Addr} {fd : FuncData} (F : Fun K "__eq__" "Way.__eq__" sWEq f fd) (B : Bn mg) (T : Wt K mg C) (G0 : FnOk P w K mg base CX0 k f fd ["self", "other"] (spWEB C n)) (O : WO.Own K C f "__eq__") (b : Binds K fd ["self", "other"] []) : FnOk P w K mg base CX0 (k + 3) f fd ["self", "other"] (spWEB C (n + 1)) := by
  refine F.ok scWEq (fun vs H Q E h => ?_) (fun cdv A outer s H vs Q E hr h => ?_)
  · obtain ⟨a, b, w1, w2, rfl, _⟩ := h
    rfl
  · obtain ⟨x, y, w1, w2, rfl, ha, hb, hd, kk⟩ := h
    refine ⟨_, pss_one (ps_ret (pe_and (pe_callB call_isi (by rfl) B.isi (by decide +kernel) (pa_cons (pv 1) (pa_cons (pe_glob (v := .ref C) rfl T.g rfl) pa_nil)))
      (pe_and (pe_cmpR op_eq (pe_fld (pv 0) rfl) (pe_fld (pv 1) rfl) (nomark _))
      (pe_one (pe_cmpR (op_eqB (rcB_tup (mon_sm (mon_tup mon_bit)) (eqB_tup mon_bit ((eqB_flat.mono (Nat.zero_le k)).or ((rcB_wy G0 O b).eqB fun _ _ _ _ d => let ⟨a, b, _, _, hx, hy, _⟩ := d; ⟨a, b, hx, hy⟩)))) hr) (pe_fld (pv 0) rfl) (pe_fld (pv 1) rfl) (nomark _)))))), ?_⟩
    obtain ⟨da, fa, a1, a2⟩ := head_fld ha
    obtain ⟨db, fb, b1, b2⟩ := head_fld hb
    obtain ⟨dc, fc, t1, xs, c1, c2, c3, c4⟩ := steps_fld ha
    obtain ⟨de, fe, t2, ys, e1, e2, e3, e4⟩ := steps_fld hb
    refine ⟨_, rfl, _, _, _, _, true, rfl, .own C, .base (.ins b1 T.cl T.iA T.iN T.iT T.iM), ?_, _, rfl, iteT ?_⟩
    · unfold PySem.W.kitOne
      rw [if_pos (by simp)]
    refine ⟨_, rfl, x, C, da, fa, _, rfl, a1, T.cl, T.nH, a2, _, rfl, y, C, db, fb, _, rfl, b1, T.cl, T.nH, b2, rfl, _, rfl, ?_⟩
    obtain ⟨g1, s1⟩ := w1
    obtain ⟨g2, s2⟩ := w2
    have hl := c4.len
    have hm := e4.len
    change xs.length = s1.length at hl
    change ys.length = s2.length at hm
    change StepsAt C H s1 xs at c4
    change StepsAt C H s2 ys at e4
    show (if _ then _ else _)
    by_cases eh : g1 = g2
    · rw [decide_eq_true (show V.int (((M.Way.mk g1 s1).head : Nat) : Int) = V.int (((M.Way.mk g2 s2).head : Nat) : Int) from congrArg (fun n : Nat => V.int (n : Int)) eh)]
      refine iteT ⟨_, rfl, x, C, dc, fc, _, rfl, c1, T.cl, T.nS, c2, _, rfl, y, C, de, fe, _, rfl, e1, T.cl, T.nS, e2, ?_⟩
      unfold M.Way.depth at hd
      refine ⟨_, ⟨t1, t2, xs, ys, _, rfl, rfl, SqT.of c3, SqT.of e3, steps_b (by omega) c4 e4, rfl⟩, fun H' x => ?_⟩
      have := kk H' x
      rw [CP.weq_mk, decide_eq_true eh, Bool.true_and] at this
      rw [hl, hm]
      exact this
    · rw [decide_eq_false (show ¬ V.int (((M.Way.mk g1 s1).head : Nat) : Int) = V.int (((M.Way.mk g2 s2).head : Nat) : Int) from fun q => eh (Int.ofNat.inj (V.int.inj q)))]
      refine iteF ?_
      have := kk H Ext.rfl'
      rw [CP.weq_mk, decide_eq_false eh, Bool.false_and] at this
      exact this
theorem df_weqB {f : Addr} {fd : FuncData} (F : Fun K "__eq__" "Way.__eq__" sWEq f fd) (B : Bn mg) (T : Wt K mg C) (O : WO.Own K C f "__eq__") (b : Binds K fd ["self", "other"] []) : ∀ n, FnOk P w K mg base CX0 (1 + 3 * n) f fd ["self", "other"] (spWEB C n)
  | 0 => F.ok scWEq (fun vs H Q E h => by
      obtain ⟨a, b, w1, w2, rfl, _⟩ := h
      rfl) (fun cdv A outer s H vs Q E hr h => by
      exfalso
      obtain ⟨a, b, w1, w2, _, _, _, hd, _⟩ := h
      have := M.depth_pos w1
      omega)
  | n + 1 => ok_weqB F B T (df_weqB F B T O b n) O b
abbrev sAddW : Stmt := inClass (top 32) 5
def spAddW (C : Addr) : Sp := fun vs H Q _ => ∃ a b h s1 s2, vs = [.ref a, .ref b] ∧ WayAt C H (.mk h s1) a ∧ WayAt C H (.mk h s2) b ∧ 1 ≤ s1.length ∧ s1.length + s2.length ≤ 100 ∧ M.Way.fine (.mk h (s1 ++ s2)) ∧ ∀ c H', Same H H' → WayAt C H' (.mk h (s1 ++ s2)) c → Q (.ref c) H'
theorem scAW : FnScope ["self", "other"] ["self", "other"] (defScope sAddW) := ⟨rfl, rfl, rfl, by decide +kernel, rfl, by decide +kernel, by decide +kernel⟩
theorem ok_addW {f : Addr} {fd : FuncData} (F : Fun K "__add__" "Way.__add__" sAddW f fd) (T : Wt K mg C) (MW : Mw P w K mg base C) : FnOk P w K mg base CX0 8 f fd ["self", "other"] (spAddW C) := by
  obtain ⟨fI, fdI, GI, MK, bI⟩ := MW.ex
  refine F.ok scAW (fun vs H Q E h => ?_) (fun cdv A outer s H vs Q E hr h => ?_)
  · obtain ⟨a, b, h, s1, s2, rfl, _⟩ := h
    rfl
  · obtain ⟨a, b, h, s1, s2, rfl, h1, h2, n1, n2, hf, k⟩ := h
    refine ⟨_, pss_cons (ps_if (pt_cmpR op_ne (pe_fld (pv 1) rfl) (pe_fld (pv 0) rfl) (nomark _)) ps_dead pss_nil)
      (pss_one (ps_ret (pe_make MK GI hr rfl T.g bI .nil pass0 (pa_cons (pe_fld (pv 0) rfl) (pa_cons (pe_op op_catA (pe_fld (pv 0) rfl) (pe_fld (pv 1) rfl)) pa_nil))))), ?_⟩
    obtain ⟨da, fa, a1, a2⟩ := head_fld h1
    obtain ⟨db, fb, b1, b2⟩ := head_fld h2
    obtain ⟨dc, fc, t1, xs, c1, c2, c3, c4⟩ := steps_fld h1
    obtain ⟨de, fe, t2, ys, e1, e2, e3, e4⟩ := steps_fld h2
    refine ⟨_, rfl, b, C, db, fb, _, rfl, b1, T.cl, T.nH, b2, _, rfl, a, C, da, fa, _, rfl, a1, T.cl, T.nH, a2, rfl, _, rfl, iteNS rfl ?_⟩
    have lx := c4.len
    have ly := e4.len
    refine ⟨_, rfl, a, C, da, fa, _, rfl, a1, T.cl, T.nH, a2, ?_⟩
    refine ⟨_, rfl, a, C, dc, fc, _, rfl, c1, T.cl, T.nS, c2, _, rfl, b, C, de, fe, _, rfl, e1, T.cl, T.nS, e2, ?_⟩
    refine catA_own c3 e3 ?_ fun u G s hu => ?_
    · have q : xs.length + ys.length ≤ 100 := by rw [lx, ly]; exact n2
      exact Nat.le_trans q (by decide)
    · exact made_way (.inr hu) ((c4.mono s).app (e4.mono s)) hf fun x H' s2 wa => k x H' (s.trans s2) wa
end
end EB

end
section
set_option autoImplicit false
set_option Elab.async false
set_option linter.all false
set_option maxRecDepth 100000
set_option maxHeartbeats 4000000
/-! ## two ways with the same text are one -/
namespace TX
open PySem hiding Step
open TL M
theorem map_S_inj : ∀ {a b : List (List Nat)}, a.map S = b.map S → a = b
  | [], [], _ => rfl
  | [], _ :: _, h => by cases h
  | _ :: _, [], h => by cases h
  | x :: a, y :: b, h => by
    rw [List.map_cons, List.map_cons, List.cons.injEq] at h
    rw [S_inj h.1, map_S_inj h.2]
theorem wd_inj {a b : List (List Nat)} (ha : ∀ w ∈ a, Wd w) (hb : ∀ w ∈ b, Wd w) (na : a ≠ []) (nb : b ≠ []) (h : wd a = wd b) : a = b := by
  have x := split_wd ha na
  rw [h, split_wd hb nb] at x
  exact (map_S_inj x).symm
theorem plain_ne (s : Step) : plainW s ≠ [] := by cases s <;> simp [plainW]
/-- a list cut in two where the first sign is no blank -/
theorem two_parts {p : List Nat → Prop} : ∀ {a b c d : List (List Nat)}, (∀ l ∈ a, p l) → (∀ l ∈ b, p l) → (∀ l r, c = l :: r → ¬ p l) → (∀ l r, d = l :: r → ¬ p l) → a ++ c = b ++ d → a = b ∧ c = d
  | [], [], c, d, _, _, _, _, h => ⟨rfl, h⟩
  | [], y :: b, c, d, _, hb, hc, _, h => absurd (hb y List.mem_cons_self) (hc y (b ++ d) h)
  | x :: a, [], c, d, ha, _, _, hd, h => absurd (ha x List.mem_cons_self) (hd x (a ++ c) h.symm)
  | x :: a, y :: b, c, d, ha, hb, hc, hd, h => by
    rw [List.cons_append, List.cons_append, List.cons.injEq] at h
    obtain ⟨e, h⟩ := h
    obtain ⟨e1, e2⟩ := two_parts (fun l hl => ha l (List.mem_cons_of_mem _ hl)) (fun l hl => hb l (List.mem_cons_of_mem _ hl)) hc hd h
    exact ⟨by rw [e, e1], e2⟩
def Ind (l : List Nat) : Prop := ∃ r, l = 32 :: r
theorem wd_noind {ws : List (List Nat)} (h : ∀ w ∈ ws, Wd w) (hn : ws ≠ []) : ¬ Ind (wd ws) := by
  rintro ⟨r, e⟩
  cases ws with
  | nil => exact hn rfl
  | cons a ws =>
    obtain ⟨n, _, c⟩ := h a List.mem_cons_self
    cases a with
    | nil => exact n rfl
    | cons x a =>
      have : x = 32 := by
        cases ws with
        | nil =>
          unfold wd joinL at e
          exact (List.cons.inj e).1
        | cons b ws =>
          unfold wd joinL at e
          rw [List.cons_append] at e
          exact (List.cons.inj e).1
      exact (c x List.mem_cons_self).1 this
theorem first_noind {h : Nat} : ∀ {s : List Step}, Step.fineAll h s → ∀ l r, Step.linesAll s = l :: r → ¬ Ind l
  | [], _, l, r, e => by
    unfold Step.linesAll at e
    cases e
  | x :: s, hf, l, r, e => by
    unfold Step.fineAll at hf
    unfold Step.linesAll at e
    have q : l = wd (plainW x) := by
      cases x with
      | road a b c =>
        unfold Step.lines at e
        exact (List.cons.inj e).1.symm
      | join a =>
        unfold Step.lines at e
        exact (List.cons.inj e).1.symm
      | tunnel w m t =>
        unfold Step.lines at e
        exact (List.cons.inj e).1.symm
    rw [q]
    exact wd_noind (plainW_wd hf.1) (plain_ne x)
theorem sd_inj {a b : Bool} (h : sd a = sd b) : a = b := CP.sd_inj (ext_tl h)
theorem lw_inj {a b : LW} (h : lw a = lw b) : a = b := CP.lw_inj (ext_tl h)
theorem tw_inj {a b : TW} (h : tw a = tw b) : a = b := CP.tw_inj (ext_tl h)
mutual
theorem lines_inj : ∀ {w u : Way}, w.fine → u.fine → Way.lines w = Way.lines u → w = u
  | .mk h s, .mk g r, f1, f2, e => by
    unfold Way.fine at f1 f2
    unfold Way.lines at e
    rw [List.cons.injEq] at e
    obtain ⟨e1, e2⟩ := e
    have e1 := wd_inj (headW_wd f1.1.2) (headW_wd f2.1.2) (by simp [headW]) (by simp [headW]) e1
    unfold headW at e1
    simp only [List.cons.injEq, and_true, true_and] at e1
    rw [numL_inj e1, all_inj f1.2.2.1 f2.2.2.1 e2]
theorem all_inj {h g : Nat} : ∀ {s r : List Step}, Step.fineAll h s → Step.fineAll g r → Step.linesAll s = Step.linesAll r → s = r
  | [], [], _, _, _ => rfl
  | [], y :: r, _, _, e => by
    unfold Step.linesAll at e
    cases y <;> · unfold Step.lines at e; cases e
  | x :: s, [], _, _, e => by
    unfold Step.linesAll at e
    cases x <;> · unfold Step.lines at e; cases e
  | x :: s, y :: r, f1, f2, e => by
    have q1 := f1
    have q2 := f2
    unfold Step.fineAll at f1 f2
    unfold Step.linesAll at e
    obtain ⟨e1, e2⟩ := step_inj f1.1 f2.1 f1.2 f2.2 e
    rw [e1, all_inj f1.2 f2.2 e2]
theorem step_inj {h g : Nat} : ∀ {x y : Step} {s r : List Step}, x.fine h → y.fine g → Step.fineAll h s → Step.fineAll g r → Step.lines x ++ Step.linesAll s = Step.lines y ++ Step.linesAll r → x = y ∧ Step.linesAll s = Step.linesAll r
  | .road a b c, .road a' b' c', s, r, f1, f2, f3, f4, e => by
    unfold Step.lines at e
    rw [List.singleton_append, List.singleton_append, List.cons.injEq] at e
    have k := wd_inj (plainW_wd f1) (plainW_wd f2) (plain_ne _) (plain_ne _) e.1
    simp only [plainW, List.cons.injEq, and_true, true_and] at k
    rw [numL_inj k.1, sd_inj k.2.1, lw_inj k.2.2]
    exact ⟨rfl, e.2⟩
  | .join a, .join b, s, r, f1, f2, f3, f4, e => by
    unfold Step.lines at e
    rw [List.singleton_append, List.singleton_append, List.cons.injEq] at e
    have k := wd_inj (plainW_wd f1) (plainW_wd f2) (plain_ne _) (plain_ne _) e.1
    simp only [plainW, List.cons.injEq, and_true, true_and] at k
    rw [numL_inj k]
    exact ⟨rfl, e.2⟩
  | .tunnel w m t, .tunnel w' m' t', s, r, f1, f2, f3, f4, e => by
    have g1 := f1
    have g2 := f2
    unfold Step.fine at g1 g2
    unfold Step.lines at e
    rw [List.cons_append, List.cons_append, List.cons.injEq] at e
    have k := wd_inj (plainW_wd f1) (plainW_wd f2) (plain_ne _) (plain_ne _) e.1
    simp only [plainW, List.cons.injEq, and_true, true_and] at k
    obtain ⟨p1, p2⟩ := two_parts (p := Ind) (fun l hl => by
      obtain ⟨z, _, rfl⟩ := List.mem_map.mp hl
      exact ⟨_, rfl⟩) (fun l hl => by
      obtain ⟨z, _, rfl⟩ := List.mem_map.mp hl
      exact ⟨_, rfl⟩) (first_noind f3) (first_noind f4) e.2
    have p3 : Way.lines w = Way.lines w' := List.map_inj_right (fun a b h => List.append_cancel_left h) |>.mp p1
    rw [lines_inj g1.1 g2.1 p3, numL_inj k.1, tw_inj k.2]
    exact ⟨rfl, p2⟩
  | .road a b c, .join d, s, r, f1, f2, f3, f4, e => by
    exfalso
    unfold Step.lines at e
    rw [List.singleton_append, List.singleton_append, List.cons.injEq] at e
    have k := wd_inj (plainW_wd f1) (plainW_wd f2) (plain_ne _) (plain_ne _) e.1
    exact absurd (List.cons.inj k).1 (by decide)
  | .join d, .road a b c, s, r, f1, f2, f3, f4, e => by
    exfalso
    unfold Step.lines at e
    rw [List.singleton_append, List.singleton_append, List.cons.injEq] at e
    have k := wd_inj (plainW_wd f1) (plainW_wd f2) (plain_ne _) (plain_ne _) e.1
    exact absurd (List.cons.inj k).1 (by decide)
  | .tunnel w m t, .join d, s, r, f1, f2, f3, f4, e => by
    exfalso
    unfold Step.lines at e
    rw [List.cons_append, List.singleton_append, List.cons.injEq] at e
    have k := wd_inj (plainW_wd f1) (plainW_wd f2) (plain_ne _) (plain_ne _) e.1
    exact absurd (List.cons.inj k).1 (by decide)
  | .join d, .tunnel w m t, s, r, f1, f2, f3, f4, e => by
    exfalso
    unfold Step.lines at e
    rw [List.singleton_append, List.cons_append, List.cons.injEq] at e
    have k := wd_inj (plainW_wd f1) (plainW_wd f2) (plain_ne _) (plain_ne _) e.1
    exact absurd (List.cons.inj k).1 (by decide)
  | .road a b c, .tunnel w m t, s, r, f1, f2, f3, f4, e => by
    exfalso
    unfold Step.lines at e
    rw [List.singleton_append, List.cons_append, List.cons.injEq] at e
    have k := wd_inj (plainW_wd f1) (plainW_wd f2) (plain_ne _) (plain_ne _) e.1
    exact absurd (List.cons.inj k).1 (by decide)
  | .tunnel w m t, .road a b c, s, r, f1, f2, f3, f4, e => by
    exfalso
    unfold Step.lines at e
    rw [List.cons_append, List.singleton_append, List.cons.injEq] at e
    have k := wd_inj (plainW_wd f1) (plainW_wd f2) (plain_ne _) (plain_ne _) e.1
    exact absurd (List.cons.inj k).1 (by decide)
end
theorem lines_ne (w : Way) : Way.lines w ≠ [] := by
  obtain ⟨h, s⟩ := w
  unfold Way.lines
  simp
theorem text_inj {w u : Way} (f1 : w.fine) (f2 : u.fine) (e : text w = text u) : w = u := by
  have d1 : w.depth ≤ 3 := by obtain ⟨h, s⟩ := w; unfold Way.fine at f1; unfold Way.depth; omega
  have d2 : u.depth ≤ 3 := by obtain ⟨h, s⟩ := u; unfold Way.fine at f2; unfold Way.depth; omega
  have a := split_lines (fun l hl => ((way_lines w 3 f1 d1).1 l hl).2) (lines_ne w)
  have b := split_lines (fun l hl => ((way_lines u 3 f2 d2).1 l hl).2) (lines_ne u)
  have c : joinL [10] (Way.lines w) = joinL [10] (Way.lines u) := e
  rw [c, b] at a
  exact (lines_inj f1 f2 (map_S_inj a.symm))
end TX

end
section
set_option autoImplicit false
set_option Elab.async false
set_option linter.all false
set_option maxRecDepth 100000
set_option maxHeartbeats 4000000
/-! ## the law -/
namespace M
theorem fineAll_ap {h : Nat} {a b : List Step} (x : Step.fineAll h a) (y : Step.fineAll h b) : Step.fineAll h (a ++ b) :=
  fineAll_iff.mpr fun z hz => (List.mem_append.mp hz).elim (fineAll_iff.mp x z) (fineAll_iff.mp y z)
theorem Few.app {h n m z y : Nat} {a b : List Step} (f : Few h n z a) (g : Few h m y b) : Few h (n + m) (z + y) (a ++ b) := by
  have := f.l1
  have := f.ln
  have := g.ln
  have := f.sz
  have := g.sz
  refine ⟨by rw [List.length_append]; omega, by rw [List.length_append]; omega, fun z hz => (List.mem_append.mp hz).elim (f.fine z) (g.fine z), fun z hz => (List.mem_append.mp hz).elim (f.dp z) (g.dp z), by rw [inner_ap]; omega⟩
end M
namespace TX
open PySem hiding Step
open TL M
theorem linesAll_ap : ∀ (a b : List Step), Step.linesAll (a ++ b) = Step.linesAll a ++ Step.linesAll b
  | [], b => by
    show Step.linesAll b = Step.linesAll [] ++ Step.linesAll b
    rw [show Step.linesAll [] = [] by unfold Step.linesAll; rfl]
    rfl
  | x :: a, b => by
    have e : ∀ (y : Step) (l : List Step), Step.linesAll (y :: l) = Step.lines y ++ Step.linesAll l := fun y l => by
      conv => lhs; unfold Step.linesAll
    show Step.linesAll (x :: (a ++ b)) = Step.linesAll (x :: a) ++ Step.linesAll b
    rw [e, e, linesAll_ap a b, List.append_assoc]
theorem lines_mk (h : Nat) (s : List Step) : Way.lines (.mk h s) = wd (headW h) :: Step.linesAll s := by
  conv => lhs; unfold Way.lines
theorem joinL_two {S : List Nat} : ∀ {a b : List (List Nat)}, a ≠ [] → joinL S (joinL S a :: b) = joinL S (a ++ b)
  | [], b, h => absurd rfl h
  | [x], [], _ => rfl
  | [x], y :: b, _ => rfl
  | x :: y :: a, b, _ => by
    have ih := joinL_two (S := S) (a := y :: a) (b := b) (by simp)
    cases b with
    | nil =>
      rw [List.append_nil]
      rfl
    | cons z b =>
      have e1 : joinL S (joinL S (x :: y :: a) :: z :: b) = (x ++ (S ++ joinL S (y :: a))) ++ (S ++ joinL S (z :: b)) := rfl
      have e2 : joinL S (joinL S (y :: a) :: z :: b) = joinL S (y :: a) ++ (S ++ joinL S (z :: b)) := rfl
      have e3 : joinL S (x :: y :: a ++ z :: b) = x ++ (S ++ joinL S (y :: a ++ z :: b)) := rfl
      rw [e1, e3, ← ih, e2]
      simp only [List.append_assoc]
/-- the text of two ways, one behind the other -/
theorem text_two (h : Nat) (a b : List Step) : joinL [10] (text (.mk h a) :: Step.linesAll b) = text (.mk h (a ++ b)) := by
  unfold text
  rw [joinL_two (lines_ne _), lines_mk, lines_mk, linesAll_ap]
  rfl
end TX
namespace CP
open PySem L2 G Y QR
open TL TX
abbrev sLaw : Stmt := S.top 87
/-- numbers as the law draws them -/
def FC : M.FateA → Prop
  | .silent p => (∀ i ∈ p, i < 12) ∧ p.length ≤ 3
  | .told z p => z.natAbs < 2000 ∧ (∀ i ∈ p, i < 12) ∧ p.length ≤ 3
  | .comes n l => n < 1000000000000000000 ∧ l.natAbs < 1000000000000000000
theorem nd_fateC {fa : M.FateA} (h : FC fa) : Nd (dFate fa) 2 33 := by
  cases fa with
  | silent p => exact nd_fate (fa := .silent p) h
  | told z p => exact nd_fate (fa := .told z p) h
  | comes n l =>
    refine nd_tup (k := 1) (b := 10) (n := 3) (fun d hd => ?_) (Nat.le_refl 3)
    simp only [List.mem_cons, List.mem_nil_iff, or_false] at hd
    obtain ⟨h1, h2⟩ := h
    rcases hd with rfl | rfl | rfl
    · exact nd_words.2.2
    · exact nd_int (Nat.lt_of_lt_of_le (by omega : ((n : Nat) : Int).natAbs < 1000000000000000000) (by decide)) _ _
    · exact nd_int (Nat.lt_of_lt_of_le h2 (by decide)) _ _
theorem fate_fc {se : Bool} {wy : M.Way} {b : Nat} (hf : wy.fine) (hb : b < 1000000000000000000) : FC (fateOf (M.Way.lows se wy) b (M.chE se wy.head wy.steps [])) := by
  unfold fateOf
  have hd := fine_dep hf
  cases e : (M.Way.lows se wy).find? (fun g => decide (g.thr < (b : Int))) with
  | some g =>
    have hg := M.Way.lows_mem (List.mem_of_find?_eq_some e)
    have gb := M.Way.gb se wy hf g hg
    have gp := Nat.le_trans (M.Way.plen se wy g hg) hd
    show FC (fateG g)
    unfold fateG
    cases ea : g.ans with
    | none => exact ⟨gb.pl, gp⟩
    | some z =>
      have := gb.an z ea
      exact ⟨by omega, gb.pl, gp⟩
  | none =>
    have ckE : M.Ck (M.chE se wy.head wy.steps []) := M.ck_all M.ck_nil (fine_all hf).1
    show N.PC (M.chE se wy.head wy.steps []) b < 1000000000000000000 ∧ (stretchZ (M.chE se wy.head wy.steps []) b (N.PC (M.chE se wy.head wy.steps []) b)).natAbs < 1000000000000000000
    generalize M.chE se wy.head wy.steps [] = cs at ckE ⊢
    unfold stretchZ
    rw [if_pos rfl]
    unfold N.PC
    by_cases b0 : b = 0
    · rw [if_pos b0, N.B_zero, b0]
      decide
    · rw [if_neg b0]
      have h1 := N.L_le ckE.fall (b := b) (by omega)
      have h0 := N.L_pos cs ckE.fall b (by omega)
      have h2 := (N.below cs ckE.fall b (by omega) (N.L cs b - 1) fun e => by rw [e]; rfl).mpr (by omega)
      omega
theorem sh_fate {K : PySem.W.Frag} {H : Hp} {fa : M.FateA} {v : V} (hb : FC fa) (h : FAt H fa v) : ∃ t, v = .ref t ∧ Sh K H v (dFate fa).shown := by
  have n := nd_fateC hb
  have q := dr_fate (K := K) (m := true) h
  cases fa with
  | silent p =>
    obtain ⟨t, q, rfl, h1, h2⟩ := h
    exact ⟨t, rfl, .ref (by assumption) n.sh (Nat.le_trans n.dp (by decide)) n.ls (Nat.le_trans n.bk (by decide))⟩
  | told z p =>
    obtain ⟨t, q, rfl, h1, h2⟩ := h
    exact ⟨t, rfl, .ref (by assumption) n.sh (Nat.le_trans n.dp (by decide)) n.ls (Nat.le_trans n.bk (by decide))⟩
  | comes k l =>
    obtain ⟨t, rfl, h1⟩ := h
    exact ⟨t, rfl, .ref (by assumption) n.sh (Nat.le_trans n.dp (by decide)) n.ls (Nat.le_trans n.bk (by decide))⟩
theorem sh_gates {K : PySem.W.Frag} {H : Hp} {se : Bool} {wy : M.Way} {xs : List V} {G : Addr} (hf : wy.fine) (h2 : H G = some (.lst xs)) (h3 : GsAt H (M.Way.gates se wy) xs) :
    Sh K H (.ref G) (PyData.list ((M.Way.gates se wy).map dGate)).shown := by
  have hd := fine_dep hf
  have ll := M.Way.gates_len se wy
  have lz := (fine_all hf).2.2
  have nG : Nd (.list ((M.Way.gates se wy).map dGate)) 3 1040 := nd_lst (k := 2) (b := 12) (n := 80) (fun d hd2 => by
    obtain ⟨g, hg, rfl⟩ := List.mem_map.mp hd2
    exact nd_gate (M.Way.gb se wy hf g hg) hd (Nat.le_trans (M.Way.plen se wy g hg) hd)) (by rw [List.length_map]; omega)
  exact .ref (.lst (SqL.of h2) (dr_gates h3)) nG.sh (Nat.le_trans nG.dp (by decide)) nG.ls (Nat.le_trans nG.bk (by decide))
theorem text_len {wy : M.Way} (hf : wy.fine) : (text wy).length ≤ 5000 := by
  obtain ⟨len1, len2⟩ := lines_len hf
  have := join_len (S := [10]) 60 1 (by decide) (ps := Way.lines wy) len1
  unfold text
  omega
section
variable {P : Program} {w : World} {K : PySem.W.Frag} {mg : Str → Option Value} {base : Heap} {C CW : Addr}
theorem eq_wayB {H : Hp} {Q : VK} {x y : Addr} {w1 w2 : M.Way} (hx : WP.WayAt CW H w1 x) (hy : WP.WayAt CW H w2 y) (hd : w1.depth ≤ 3) (k : ∀ G, Same H G → Q (.bl (weq w1 w2)) G) : WO.rEqO CW (EB.spWEB CW 3) E0 (.ref x) (.ref y) H Q := by
  obtain ⟨dx, fx, h1, _⟩ := WP.head_fld hx
  obtain ⟨dy, fy, h2, _⟩ := WP.head_fld hy
  exact ⟨x, y, rfl, rfl, ⟨dx, fx, h1⟩, ⟨dy, fy, h2⟩, x, y, w1, w2, rfl, hx, hy, hd, fun G s => ⟨_, rfl, k G s⟩⟩
theorem add_way {H : Hp} {Q : VK} {x y : Addr} {h : Nat} {s1 s2 : List M.Step} (hx : WP.WayAt CW H (.mk h s1) x) (hy : WP.WayAt CW H (.mk h s2) y) (h1 : 1 ≤ s1.length) (h2 : s1.length + s2.length ≤ 100) (hf : M.Way.fine (.mk h (s1 ++ s2))) (k : ∀ c G, Same H G → WP.WayAt CW G (.mk h (s1 ++ s2)) c → Q (.ref c) G) : WO.rAddO CW (EB.spAddW CW) E0 (.ref x) (.ref y) H Q := by
  obtain ⟨dx, fx, g1, _⟩ := WP.head_fld hx
  obtain ⟨dy, fy, g2, _⟩ := WP.head_fld hy
  exact ⟨x, y, rfl, rfl, ⟨dx, fx, g1⟩, ⟨dy, fy, g2⟩, x, y, h, s1, s2, rfl, hx, hy, h1, h2, hf, fun c G s wa => ⟨c, rfl, k c G s wa⟩⟩
theorem eq_wayT {H : Hp} {Q : VK} {x y : Addr} {w1 : M.Way} (hx : WP.WayAt CW H w1 x) (hy : WP.WayAt CW H w1 y) (hd : w1.depth ≤ 3) (k : ∀ G, Same H G → Q (.bl true) G) : WO.rEqO CW (EB.spWEB CW 3) E0 (.ref x) (.ref y) H Q :=
  eq_wayB hx hy hd fun G s => by
    rw [weq_iff.mpr rfl]
    exact k G s
structure DGk (P : Program) (w : World) (K : PySem.W.Frag) (mg : Str → Option Value) (base : Heap) (k : Nat) (sp : Sp) : Prop where
  ex : ∃ (f : Addr) (fd : FuncData), FnOk P w K mg base CX0 k f fd ["way", "sealed"] sp ∧ mg "gates" = some (.ref f) ∧ PySem.W.keepIn K (.ref f) = true ∧ KBinds K fd ["way", "sealed"] ["sealed"] g11 g11
structure DFk (P : Program) (w : World) (K : PySem.W.Frag) (mg : Str → Option Value) (base : Heap) (k : Nat) (sp : Sp) : Prop where
  ex : ∃ (f : Addr) (fd : FuncData), FnOk P w K mg base CX0 k f fd ["way", "body", "sealed"] sp ∧ mg "fate" = some (.ref f) ∧ PySem.W.keepIn K (.ref f) = true ∧ KBinds K fd ["way", "body", "sealed"] ["sealed"] g21 g21
structure DFp (P : Program) (w : World) (K : PySem.W.Frag) (mg : Str → Option Value) (base : Heap) (k : Nat) (sp : Sp) : Prop where
  ex : ∃ (f : Addr) (fd : FuncData), FnOk P w K mg base CX0 k f fd ["way", "upto"] sp ∧ mg "form" = some (.ref f) ∧ PySem.W.keepIn K (.ref f) = true ∧ Binds K fd ["way", "upto"] [.none]
structure EwB (P : Program) (w : World) (K : PySem.W.Frag) (mg : Str → Option Value) (base : Heap) (C : Addr) : Prop where
  ex : ∃ (f : Addr) (fd : FuncData), FnOk P w K mg base CX0 10 f fd ["self", "other"] (EB.spWEB C 3) ∧ WO.Own K C f "__eq__" ∧ Binds K fd ["self", "other"] []
structure AwB (P : Program) (w : World) (K : PySem.W.Frag) (mg : Str → Option Value) (base : Heap) (C : Addr) : Prop where
  ex : ∃ (f : Addr) (fd : FuncData), FnOk P w K mg base CX0 8 f fd ["self", "other"] (EB.spAddW C) ∧ WO.Own K C f "__add__" ∧ PySem.W.selfFirst K C = true ∧ Binds K fd ["self", "other"] []
theorem vnon : Vals [V.non] [Value.none] := .cons rfl .nil
def spLaw (K : PySem.W.Frag) : Sp := fun vs H Q _ => ∃ (a : Addr) (ns : List Int), vs = [.ref a] ∧ SqL K H a (ns.map V.int) ∧ ns.length ≤ 63 ∧ (∀ z ∈ ns, Builtin.Int.intBits z ≤ 1048576) ∧ ∀ H', Q (.bl true) H'
theorem scLa : FnScope ["script", "start", "stream", "plan", "bent", "one", "two", "rest", "three", "kind", "many"] ["script"] (defScope sLaw) := ⟨rfl, rfl, rfl, by decide +kernel, rfl, by decide +kernel, by decide +kernel⟩
theorem ok_law {f : Addr} {fd : FuncData} (F : Fun K "law" "law" sLaw f fd) (B : Bn mg) (T2 : Cn2 K C) (DU : Df P w K mg base 1 "_law_stream" ["script", "start"] (S.spSource K)) (DD : Df P w K mg base 1 "_law_draw" ["stream", "size"] S.spDraw) (DC : Df P w K mg base 2 "_law_choose" ["stream", "items"] (S.spChoose K))
    (DP : Df P w K mg base 10 "_law_plan" ["stream", "depth", "base"] (spLPlan 3)) (DB : Df P w K mg base 10 "_law_bent_plan" ["stream", "plan"] spBent) (DY : Df P w K mg base 11 "_law_way" ["plan"] (spLWay CW 3)) (DS : G.Du P w K mg base 1 "_law_same" ["one", "two"] (S.spSame K))
    (DT : Df P w K mg base 5 "way_text" ["way"] (spWText CW)) (DR : Df P w K mg base 10 "read_way" ["text"] (spRead CW))
    (DA : DFk P w K mg base 19 (spFate C CW 3)) (DG : DGk P w K mg base 17 (spGates CW 3)) (DM : DFp P w K mg base 20 (spForm C CW 3)) (DE : Oe P w K mg base C 1 "__eq__" ["self", "other"] (spCEq C)) (DW : EwB P w K mg base CW) (DX : AwB P w K mg base CW) : G.Ok P w K mg base CX0 21 f fd ["script"] (spLaw K) := by
  obtain ⟨fU, fdU, GU, gU, kU, bU⟩ := DU.ex
  obtain ⟨fD, fdD, GD, gD, kD, bD⟩ := DD.ex
  obtain ⟨fC, fdC, GC, gC, kC, bC⟩ := DC.ex
  obtain ⟨fP, fdP, GP, gP, kP, bP⟩ := DP.ex
  obtain ⟨fB, fdB, GB, gB, kB, bB⟩ := DB.ex
  obtain ⟨fY, fdY, GY, gY, kY, bY⟩ := DY.ex
  obtain ⟨fS, fdS, GS, gS, kS, bS⟩ := DS.ex
  obtain ⟨fT, fdT, GT, gT, kT, bT⟩ := DT.ex
  obtain ⟨fR, fdR, GR, gR, kR, bR⟩ := DR.ex
  obtain ⟨fA, fdA, GA, gA, kA, kbA⟩ := DA.ex
  obtain ⟨fG, fdG, GG, gG, kG, kbG⟩ := DG.ex
  obtain ⟨fM, fdM, GM, gM, kM, bM⟩ := DM.ex
  obtain ⟨fE, fdE, GE, OE, bE⟩ := DE.ex
  obtain ⟨fW, fdW, GW, OW, bW⟩ := DW.ex
  obtain ⟨fX, fdX, GX, OX, sX, bX⟩ := DX.ex
  refine G.mk F scLa (fun vs H Q E h => ?_) (fun cdv A outer s H vs Q E hg hr h => ?_)
  · obtain ⟨a, ns, rfl, _⟩ := h
    rfl
  · obtain ⟨a, ns, rfl, hS, hl, hb, k⟩ := h
    refine ⟨_, pss_cons (ps_for PassesOwn.never rfl (pi_range1 (by rfl) B.range (pa_cons (pe_callB (call_max2 rfl) (by rfl) B.max (by decide +kernel) (pa_cons (pe_int) (pa_cons (pe_callB (call_min2 rfl) (by rfl) B.min (by decide +kernel) (pa_cons (pe_int) (pa_cons (pe_callB call_len_seq (by rfl) B.len PySem.boot_len (pa_cons (pv 0) pa_nil)) pa_nil))) pa_nil))) pa_nil)) (pg_name (i := 1) scLa.nd rfl (Or.inl rfl)) (pss_cons (ps_set (i := 2) scLa.nd rfl (Or.inl rfl) (pe_call GU (hr.mono (by omega)) rfl gU kU bU .nil pass0 (pa_cons (pv 0) (pa_cons (pv 1) pa_nil))))
      (pss_cons (ps_set (i := 3) scLa.nd rfl (Or.inl rfl) (pe_call GP (hr.mono (by omega)) rfl gP kP bP .nil pass0 (pa_cons (pv 2) (pa_cons (pe_int) (pa_cons (pe_int) pa_nil)))))
      (pss_cons (ps_set (i := 4) scLa.nd rfl (Or.inl rfl) (pe_call GC (hr.mono (by omega)) rfl gC kC bC .nil pass0 (pa_cons (pv 2) (pa_cons (pe_lst (pa_cons (pv 3) (pa_cons (pe_call GB (hr.mono (by omega)) rfl gB kB bB .nil pass0 (pa_cons (pv 2) (pa_cons (pv 3) pa_nil))) pa_nil))) pa_nil))))
      (pss_cons (ps_par (i := 5) (j := 6) (by rfl) scLa.nd rfl rfl (by decide) rfl rfl (pa_cons (pe_call GY (hr.mono (by omega)) rfl gY kY bY .nil pass0 (pa_cons (pv 3) pa_nil)) (pa_cons (pe_call GY (hr.mono (by omega)) rfl gY kY bY .nil pass0 (pa_cons (pv 4) pa_nil)) pa_nil)) (by rfl))
      (pss_cons (ps_if (PW.pt (pw_or (pt_cmpR (op_ne) (pe_cmpR (op_eq) (pe_call GT (hr.mono (by omega)) rfl gT kT bT .nil pass0 (pa_cons (pv 5) pa_nil)) (pe_call GT (hr.mono (by omega)) rfl gT kT bT .nil pass0 (pa_cons (pv 6) pa_nil)) (nomark _)) (pe_cmpR (WO.op_eqO GW (hr.mono (by omega)) OW bW pass0) (pv 5) (pv 6) (nomark _)) (nomark _)) (pw_or1 (pt_cmpR (op_ne) (pe_cmpR (WO.op_eqO GW (hr.mono (by omega)) OW bW pass0) (pv 5) (pv 6) (nomark _)) (pe_cmpR (op_eqD hr.units) (pv 3) (pv 4) (nomark _)) (nomark _))))) (pss_one (ps_ret (pe_bl))) (pss_nil))
      (pss_cons (ps_set (i := 7) scLa.nd rfl (Or.inl rfl) (pe_slice sl_list (pe_split (pe_call GT (hr.mono (by omega)) rfl gT kT bT .nil pass0 (pa_cons (pv 6) pa_nil)) (pe_str)) (po_some (pe_int)) po_none))
      (pss_cons (ps_if (pt_cmpR (op_ne) (pe_call GT (hr.mono (by omega)) rfl gT kT bT .nil pass0 (pa_cons (pe_op (WO.op_addO GX (hr.mono (by omega)) OX sX bX pass0) (pv 5) (pv 6)) pa_nil)) (pe_join (pe_str) (pe_op (op_cat) (pe_lst (pa_cons (pe_call GT (hr.mono (by omega)) rfl gT kT bT .nil pass0 (pa_cons (pv 5) pa_nil)) pa_nil)) (pv 7))) (nomark _)) (pss_one (ps_ret (pe_bl))) (pss_nil))
      (pss_cons (ps_set (i := 8) scLa.nd rfl (Or.inl rfl) (pe_call GR (hr.mono (by omega)) rfl gR kR bR .nil pass0 (pa_cons (pe_call GT (hr.mono (by omega)) rfl gT kT bT .nil pass0 (pa_cons (pe_op (WO.op_addO GX (hr.mono (by omega)) OX sX bX pass0) (pv 5) (pv 6)) pa_nil)) pa_nil)))
      (pss_cons (ps_if (PW.pt (pw_or (pt_not (pt_cmpR (WO.op_eqO GW (hr.mono (by omega)) OW bW pass0) (pv 8) (pe_op (WO.op_addO GX (hr.mono (by omega)) OX sX bX pass0) (pv 5) (pv 6)) (nomark _))) (pw_or1 (pt_cmpR (NQ.op_neT (mon_it _ _) (eqG_it GE OE bE) (hr.mono (by omega))) (pe_call GM (hr.mono (by omega)) rfl gM kM bM vnon pass0 (pa_cons (pv 8) pa_nil)) (pe_call GM (hr.mono (by omega)) rfl gM kM bM vnon pass0 (pa_cons (pe_op (WO.op_addO GX (hr.mono (by omega)) OX sX bX pass0) (pv 5) (pv 6)) pa_nil)) (nomark _))))) (pss_one (ps_ret (pe_bl))) (pss_nil))
      (pss_one (ps_for PassesOwn.never rfl (pi_tup (pe_tup (pa_cons (pe_bl) (pa_cons (pe_bl) pa_nil)))) (pg_name (i := 9) scLa.nd rfl (Or.inl rfl)) (pss_cons (ps_if (pt_not (pt_val (pe_callG hg GS (hr.mono (by omega)) rfl gS kS bS pass0 (pa_cons (pe_callK GG (hr.mono (by omega)) rfl gG kG kbG pass0 (pa_cons (pv 8) pa_nil) (pk_cons (pv 9) pk_nil)) (pa_cons (pe_callK GG (hr.mono (by omega)) rfl gG kG kbG pass0 (pa_cons (pe_op (WO.op_addO GX (hr.mono (by omega)) OX sX bX pass0) (pv 5) (pv 6)) pa_nil) (pk_cons (pv 9) pk_nil)) pa_nil))))) (pss_one (ps_ret (pe_bl))) (pss_nil))
      (pss_one (ps_for PassesOwn.never rfl (pi_list (pe_lst (pa_cons (pe_call GD (hr.mono (by omega)) rfl gD kD bD .nil pass0 (pa_cons (pv 2) (pa_cons (pe_int) pa_nil))) (pa_cons (pe_call GD (hr.mono (by omega)) rfl gD kD bD .nil pass0 (pa_cons (pv 2) (pa_cons (pe_op (op_powN) (pe_int) (pe_int)) pa_nil))) pa_nil)))) (pg_name (i := 10) scLa.nd rfl (Or.inl rfl)) (pss_one (ps_if (pt_not (pt_val (pe_callG hg GS (hr.mono (by omega)) rfl gS kS bS pass0 (pa_cons (pe_callK GA (hr.mono (by omega)) rfl gA kA kbA pass0 (pa_cons (pv 8) (pa_cons (pv 10) pa_nil)) (pk_cons (pv 9) pk_nil)) (pa_cons (pe_callK GA (hr.mono (by omega)) rfl gA kA kbA pass0 (pa_cons (pe_op (WO.op_addO GX (hr.mono (by omega)) OX sX bX pass0) (pv 5) (pv 6)) (pa_cons (pv 10) pa_nil)) (pk_cons (pv 9) pk_nil)) pa_nil))))) (pss_one (ps_ret (pe_bl))) (pss_nil))))))))))))))))))
      (pss_one (ps_ret (pe_bl))), ?_⟩
    refine ⟨_, rfl, a, _, rfl, .inl hS, _, _, rfl, _, _, rfl, _, rfl, by split <;> omega, by split <;> (try split) <;> omega, for_range (n := Int.toNat _) (fun i σ G => Same H G ∧ ∃ q1 q2 q3 q4 q5 q6 q7 q8 q9 q10, σ = [some (.ref a), q1, q2, q3, q4, q5, q6, q7, q8, q9, q10])
      ⟨Same.refl H, _, _, _, _, _, _, _, _, _, _, rfl⟩ ?_ ?_⟩
    · rintro i σ G hi ⟨s0, q1, q2, q3, q4, q5, q6, q7, q8, q9, q10, rfl⟩
      dsimp only
      refine set_then (i := 2) ⟨_, rfl, _, rfl, a, ns, i, by show [V.ref a, V.int (0 + (i : Int))] = _; rw [Int.zero_add], ?_, s0.seq hS, hl, hb, fun p r m hp hf => ?_⟩
      · split at hi <;> (try split at hi) <;> omega
      have hp0 : H p = none := s0.free hp
      have s1 : Same H (upd G p (.lst (S.Two r m))) := s0.trans (of_upd hp)
      have at1 : S.At (upd G p (.lst (S.Two r m))) p := ⟨r, m, upd_same, hf⟩
      generalize upd G p (.lst (S.Two r m)) = G1 at s1 at1 ⊢
      clear hp hf
      dsimp only
      refine set_then (i := 3) ⟨_, rfl, p, 1, 0, rfl, at1, by decide, by decide, by decide, fun wy v G3 b3 pl sm => ?_⟩
      have s3 := sameBt s1 hp0 b3
      have a3 := b3.2
      clear b3 at1 s1
      dsimp only
      obtain ⟨h, st1⟩ := wy
      obtain ⟨few1, hh1, hh2⟩ := M.few_of sm
      have few1 : M.Few h 3 9 st1 := few1
      have hh1 : 1 ≤ h := hh1
      have hh2 : h ≤ 40 := hh2
      refine set_then (i := 4) ⟨_, rfl, _, rfl, _, rfl, _, rfl, p, v, .mk h st1, rfl, a3, pl, sm, fun stb v2 G4 b4 pl2 fewb => ⟨line2.1, fun l hl => ?_⟩⟩
      refine choose_new (E := E0) b4.2 hl (by show 1 ≤ 2; decide) (by show 2 ≤ 1000; decide) fun vb G5 hvb b5 => ?_
      have bl5 := b5
      have plv := (pl.keep (bt_keepT b4 a3)).keep (bt_keepT bl5 b4.2)
      have plv2 := pl2.keep (bt_keepT bl5 b4.2)
      obtain ⟨st2, few2, plb⟩ : ∃ st2, M.Few h 4 18 st2 ∧ PlanAt G5 (.mk h st2) vb := by
        simp only [List.mem_cons, List.mem_nil_iff, or_false] at hvb
        rcases hvb with rfl | rfl
        · exact ⟨st1, few1.weak (by decide) (by decide), plv⟩
        · exact ⟨stb, fewb, plv2⟩
      have s5 := sameBt (sameBt s3 hp0 b4) hp0 bl5
      have a5 := bl5.2
      clear b4 b5 bl5 hl hvb pl2 pl s3 a3 plv2 fewb stb sm
      obtain ⟨hf1, hd1⟩ := few1.way hh1 hh2 (by decide) (by decide)
      obtain ⟨hf2, hd2⟩ := few2.way hh1 hh2 (by decide) (by decide)
      have few3 := few1.app few2
      obtain ⟨hf3, hd3⟩ := few3.way hh1 hh2 (by decide) (by decide)
      try dsimp only
      refine ⟨_, rfl, v, .mk h st1, rfl, plv, hf1, by omega, fun x1 G6 s6 w6 => ⟨_, rfl, vb, .mk h st2, rfl, plb.keep (same_keepT s6), hf2, by omega, fun x2 G7 s7 w7 => ⟨_, _, rfl, ?_⟩⟩⟩
      have w6 := w6.mono s7
      have s67 := s6.trans s7
      have s7 := s5.trans s67
      have a7 := sameAt s67 a5
      have plv := plv.keep (same_keepT s67)
      have plb := plb.keep (same_keepT s67)
      clear s5 a5 s6 s67
      have eT : decide (V.str (TX.S (text (.mk h st1))) = V.str (TX.S (text (.mk h st2)))) = weq (.mk h st1) (.mk h st2) := by
        by_cases e : M.Way.mk h st1 = .mk h st2
        · rw [decide_eq_true (by rw [e]), weq_iff.mpr e]
        · rw [decide_eq_false fun q => e (text_inj hf1 hf2 (S_inj (V.str.inj q))), Bool.eq_false_iff.mpr fun q => e (weq_iff.mp q)]
      refine ⟨_, rfl, x1, _, rfl, w6, hf1, fun H1 t1 => ⟨_, rfl, x2, _, rfl, w7.mono t1, hf2, fun H2 t2 => ⟨rfl, ?_⟩⟩⟩
      have u2 := t1.trans t2
      refine ⟨_, rfl, _, rfl, eq_wayB (w6.mono u2) (w7.mono u2) (by omega) fun H3 t3 => ⟨rfl, _, rfl, iteNS (congrArg V.bl eT) ?_⟩⟩
      have u3 := u2.trans t3
      refine ⟨_, rfl, _, rfl, eq_wayB (w6.mono u3) (w7.mono u3) (by omega) fun H4 t4 => ?_⟩
      have u4 := u3.trans t4
      refine ⟨_, rfl, _, rfl, _, _, dp_way (plv.keep (same_keepT u4)), dp_way (plb.keep (same_keepT u4)), shp_way (by omega), shp_way (by omega), rfl, _, rfl, iteNS rfl ?_⟩
      have s8 := s7.trans u4
      have a8 := sameAt u4 a7
      have w8 := w6.mono u4
      have v8 := w7.mono u4
      clear u2 u3 t1 t2 t3 t4 w6 w7 plv plb eT s7 a7
      try unfold tNext
      dsimp only
      -- rest
      have big : ∀ {n : Nat}, n ≤ 1000000 → n ≤ sizeLine := fun h => Nat.le_trans h (by decide)
      have ltx : ∀ {wy : M.Way}, wy.fine → (TX.S (text wy)).length ≤ 5000 := fun hf => by
        rw [S_len]
        exact text_len hf
      have e1 : Txt.split (TX.S (text (.mk h st2))) ("\n" : Str) = (Way.lines (.mk h st2)).map TX.S := by
        rw [k_nl]
        exact split_lines (fun l hl => ((way_lines (.mk h st2) 3 hf2 (by omega)).1 l hl).2) (lines_ne _)
      obtain ⟨len1, len2⟩ := lines_len hf2
      refine set_then (i := 7) ⟨_, rfl, x2, _, rfl, v8, hf2, fun H1 t1 => ⟨⟨_, rfl⟩, _, _, rfl, rfl, by decide +kernel, big (by have := ltx hf2; omega), fun l hl => ?_⟩⟩
      rw [e1, ← sv_strs]
      have t2 := of_upd (o := .lst (sv (Way.lines (.mk h st2)))) hl
      have el : upd H1 l (.lst (sv (Way.lines (.mk h st2)))) l = some (.lst (sv (Way.lines (.mk h st2)))) := upd_same
      generalize upd H1 l (.lst (sv (Way.lines (.mk h st2)))) = H2 at t2 el ⊢
      refine ⟨_, rfl, ?_⟩
      dsimp only [tNoPart]
      refine ⟨l, _, rfl, SqL.of el, fun p2 hp2 => ?_⟩
      have ec : cutV (sv (Way.lines (.mk h st2))) (some 1) none = sv (Step.linesAll st2) := by
        rw [show (1 : Int) = ((1 : Nat) : Int) from rfl, WP.cut_lo, lines_mk]
        rfl
      rw [ec]
      have t3 := of_upd (o := .lst (sv (Step.linesAll st2))) hp2
      have er : upd H2 p2 (.lst (sv (Step.linesAll st2))) p2 = some (.lst (sv (Step.linesAll st2))) := upd_same
      have t4 := (t1.trans t2).trans t3
      generalize upd H2 p2 (.lst (sv (Step.linesAll st2))) = H3 at t3 t4 er ⊢
      have s9 := s8.trans t4
      have a9 := sameAt t4 a8
      have w9 := w8.mono t4
      have v9 := v8.mono t4
      clear t1 t2 t3 t4 hl hp2 el s8 a8 w8 v8 ec e1
      have lr : (Step.linesAll st2).length ≤ 81 := by
        rw [lines_mk, List.length_cons] at len2
        omega
      have lr1 : ∀ l ∈ Step.linesAll st2, l.length ≤ 60 := fun l hl => len1 l (by rw [lines_mk]; exact List.mem_cons_of_mem _ hl)
      dsimp only
      have n1 : 1 ≤ st1.length := few1.l1
      have n12 : st1.length + st2.length ≤ 100 := by
        have := few1.ln
        have := few2.ln
        omega
      have hd3 : (M.Way.mk h (st1 ++ st2)).depth ≤ 3 := by omega
      refine ⟨_, rfl, _, rfl, add_way w9 v9 n1 n12 hf3 fun y1 H1 t1 z1 => ⟨y1, _, rfl, z1, hf3, fun H2 t2 => ⟨⟨_, rfl⟩, _, rfl, x1, _, rfl, (w9.mono t1).mono t2, hf1, fun H4 t4 => ⟨line2.2.2.1, fun l hl => ⟨_, rfl, l, p2, _, _, rfl, rfl, upd_same, of_upd hl _ _ (t4 _ _ (t2 _ _ (t1 _ _ er))), ?_, fun D hD => ?_⟩⟩⟩⟩⟩
      · rw [sv_len]
        exact big (by show 1 + _ ≤ _; omega)
      have u1 := of_upd (o := .lst [V.str (TX.S (text (.mk h st1)))]) hl
      have ej : ([V.str (TX.S (text (.mk h st1)))] ++ sv (Step.linesAll st2)) = ((text (.mk h st1) :: Step.linesAll st2).map TX.S).map V.str := by
        rw [← sv_strs]
        rfl
      have u2 := of_upd (o := .lst ([V.str (TX.S (text (.mk h st1)))] ++ sv (Step.linesAll st2))) hD
      refine ⟨_, D, (text (.mk h st1) :: Step.linesAll st2).map TX.S, rfl, rfl, .inl (SqL.of (by rw [upd_same, ej])), ?_, ?_⟩
      · have := sum_len (k := 5000) (ws := text (.mk h st1) :: Step.linesAll st2) fun w hw => by
          rcases List.mem_cons.mp hw with e | e
          · rw [e]
            exact text_len hf1
          · exact Nat.le_trans (lr1 w e) (by decide)
        rw [List.length_map, show ("\n" : Str).length = 1 from by rw [len_tl, k_nl, tl_S]; rfl]
        rw [List.length_cons] at this ⊢
        exact big (by omega)
      rw [k_nl, join_lines, text_two]
      refine ⟨rfl, _, rfl, iteNS rfl ?_⟩
      have t6 := (((t1.trans t2).trans t4).trans u1).trans u2
      generalize upd _ D _ = H5 at t6 ⊢
      have s10 := s9.trans t6
      have a10 := sameAt t6 a9
      have w10 := w9.mono t6
      have v10 := v9.mono t6
      clear t1 t2 t4 u1 u2 t6 hl hD er z1 s9 a9 w9 v9 ej
      try unfold tNext
      dsimp only
      refine set_then (i := 8) ⟨_, rfl, _, rfl, add_way w10 v10 n1 n12 hf3 fun y1 H1 t1 z1 => ⟨y1, _, rfl, z1, hf3, fun H2 t2 => ⟨_, rfl, hf3, fun x3 H3 t3 w3 => ?_⟩⟩⟩
      have t4 := (t1.trans t2).trans t3
      have s11 := s10.trans t4
      have a11 := sameAt t4 a10
      have w11 := w10.mono t4
      have v11 := v10.mono t4
      clear t1 t2 t3 t4 z1 s10 a10 w10 v10 lr1 lr len1 len2
      dsimp only
      have hN : ∀ z : Int, none = some z → 0 ≤ z := fun z hz => nomatch hz
      refine ⟨_, rfl, _, rfl, _, rfl, add_way w11 v11 n1 n12 hf3 fun y1 H1 t1 z1 => eq_wayT (w3.mono t1) z1 hd3 fun H2 t2 => ⟨_, rfl, iteF ?_⟩⟩
      have t3 := t1.trans t2
      refine ⟨_, rfl, x3, _, none, rfl, w3.mono t3, hf3, hd3, hN, fun q1 H4 t4 k1 => ⟨_, rfl, _, rfl, add_way ((w11.mono t3).mono t4) ((v11.mono t3).mono t4) n1 n12 hf3 fun y2 H5 t5 z2 => ⟨y2, _, none, rfl, z2, hf3, hd3, hN, fun q2 H6 t6 k2 => ne_form (FormAt.mono t6 (FormAt.mono t5 k1)) k2 fun H7 t7 => ⟨_, rfl, iteF ?_⟩⟩⟩⟩
      have t8 := (((t3.trans t4).trans t5).trans t6).trans t7
      have s12 := s11.trans t8
      have a12 := sameAt t8 a11
      have w12 := w11.mono t8
      have v12 := v11.mono t8
      have x12 := w3.mono t8
      clear t1 t2 t3 t4 t5 t6 t7 t8 z1 z2 k1 k2 s11 a11 w11 v11 w3
      try unfold tNext
      dsimp only
      refine ⟨line2.1, fun tk htk => ?_⟩
      have g1 := of_upd (o := .tup [V.bl true, V.bl false]) htk
      have etk : upd H7 tk (.tup [V.bl true, V.bl false]) tk = some (.tup [V.bl true, V.bl false]) := upd_same
      have s13 := s12.trans g1
      have a13 := sameAt g1 a12
      have w13 := w12.mono g1
      have v13 := v12.mono g1
      have x13 := x12.mono g1
      generalize upd H7 tk (.tup [V.bl true, V.bl false]) = H8 at etk s13 a13 w13 v13 x13 ⊢
      clear htk g1 s12 a12 w12 v12 x12
      refine ⟨tk, rfl, ⟨_, SqT.of etk⟩, ?_⟩
      refine for_it walk_tup (fun i2 σ G => Y.Bt p H8 G ∧ Same H G ∧ ∃ q9 q10 rl, σ = [some (.ref a), some (.int (0 + (i : Int))), some (.ref p), some v, some vb, some (.ref x1), some (.ref x2), rl, some (.ref x3), q9, q10]) ⟨Bt.same (Same.refl _) a13, s13, _, _, _, rfl⟩ (fun i2 σ G _ z => SqT.of ((bt_keepT z.1 a13).tup etk)) ?_ ?_
      · rintro i2 vk σ G9 G9' hi2 ⟨b9, s14, q9, q10, rl, rfl⟩ ⟨rfl, hv⟩
        obtain ⟨se, rfl⟩ : ∃ se, vk = .bl se := by
          have := List.mem_of_getElem? hv
          simp only [List.mem_cons, List.mem_nil_iff, or_false] at this
          rcases this with e | e
          · exact ⟨true, e⟩
          · exact ⟨false, e⟩
        have kt := bt_keepT b9 a13
        have w14 := w13.keep kt
        have v14 := v13.keep kt
        have x14 := x13.keep kt
        have a14 := b9.2
        dsimp only
        refine ⟨_, rfl, _, rfl, x3, se, _, rfl, x14, hf3, hd3, fun D1 xs1 H1 t1 f1 e1 k1 => ⟨_, rfl, _, rfl, add_way (w14.mono t1) (v14.mono t1) n1 n12 hf3 fun y2 H2 t2 z2 => ⟨_, rfl, y2, se, _, rfl, z2, hf3, hd3, fun D2 xs2 H3 t3 f3 e3 k3 => ?_⟩⟩⟩
        have t23 := t2.trans t3
        refine ⟨.ref D1, .ref D2, _, rfl, sh_gates hf3 (t23 _ _ e1) (k1.mono t23), sh_gates hf3 e3 k3, _, rfl, iteF ?_⟩
        have t4 := t1.trans t23
        have b10 := b9.trans (Bt.same t4 a14)
        have s15 := s14.trans t4
        have w15 := w14.mono t4
        have v15 := v14.mono t4
        have x15 := x14.mono t4
        clear t1 t2 t3 t23 t4 f1 f3 e1 e3 k1 k3 z2 kt b9 a14 s14 w14 v14 x14
        try unfold tNext
        dsimp only
        refine draw_vv rfl b10.2 (by decide) (by decide +kernel) fun j1 H4 j10 j11 b11 => ?_
        refine draw_te (i := 2) (n := 1000000000000000000) rfl (fun Q2 q => ⟨_, _, rfl, rfl, ⟨by decide, by decide⟩, q⟩) b11.2 (by decide) (by decide +kernel) fun j2 H5 j20 j21 b12 => ⟨line2.1, fun L hL => ?_⟩
        have g5 := of_upd (o := .lst [V.int j1, V.int j2]) hL
        have eL : upd H5 L (.lst [V.int j1, V.int j2]) L = some (.lst [V.int j1, V.int j2]) := upd_same
        have b13 := (b11.trans b12).trans (Bt.same g5 b12.2)
        have kt := bt_keepT b13 b10.2
        have w16 := w15.keep kt
        have v16 := v15.keep kt
        have x16 := x15.keep kt
        have b16 := b10.trans b13
        have s16 := sameBt s15 hp0 b13
        generalize upd H5 L (.lst [V.int j1, V.int j2]) = H6 at eL b13 w16 v16 x16 b16 s16 ⊢
        clear kt b13 g5 b11 b12 b10 hL s15 w15 v15 x15
        obtain ⟨m1, rfl⟩ := Int.eq_ofNat_of_zero_le j10
        obtain ⟨m2, rfl⟩ := Int.eq_ofNat_of_zero_le j20
        refine ⟨L, rfl, ⟨_, SqL.of eL⟩, ?_⟩
        refine for_it walk_list (fun i3 σ G => Same H6 G ∧ ∃ q10, σ = [some (.ref a), some (.int (0 + (i : Int))), some (.ref p), some v, some vb, some (.ref x1), some (.ref x2), rl, some (.ref x3), some (.bl se), q10]) ⟨Same.refl _, _, rfl⟩ (fun i3 σ G _ z => SqL.of (z.1 _ _ eL)) ?_ ?_
        · rintro i3 vk σ G G' hi3 ⟨s17, q10, rfl⟩ ⟨rfl, hv3⟩
          obtain ⟨m, hm, rfl⟩ : ∃ m : Nat, m < 1000000000000000000 ∧ vk = .int (m : Int) := by
            have := List.mem_of_getElem? hv3
            simp only [List.mem_cons, List.mem_nil_iff, or_false] at this
            rcases this with e | e
            · exact ⟨m1, by omega, e⟩
            · exact ⟨m2, by omega, e⟩
          have fc := fate_fc (se := se) hf3 hm
          dsimp only
          refine ⟨_, rfl, _, rfl, _, rfl, x3, m, se, _, rfl, x16.mono s17, hf3, hd3, by omega, fun fv H1 t1 k1 => ⟨_, rfl, _, rfl, add_way ((w16.mono s17).mono t1) ((v16.mono s17).mono t1) n1 n12 hf3 fun y2 H2 t2 z2 => ⟨_, rfl, _, rfl, y2, m, se, _, rfl, z2, hf3, hd3, by omega, fun fv2 H3 t3 k3 => ?_⟩⟩⟩
          obtain ⟨r1, rfl, sh1⟩ := sh_fate fc (FAt.mono t3 (FAt.mono t2 k1))
          obtain ⟨r2, rfl, sh2⟩ := sh_fate fc k3
          exact ⟨_, _, _, rfl, sh1, sh2, _, rfl, iteF ⟨((s17.trans t1).trans t2).trans t3, _, rfl⟩⟩
        · rintro σ G ⟨s17, q10, rfl⟩
          exact ⟨b16.trans (Bt.same s17 b16.2), s16.trans s17, _, _, _, rfl⟩
      · rintro σ G9 ⟨b9, s14, q9, q10, rl, rfl⟩
        exact ⟨s14, _, _, _, _, _, _, _, _, _, _, rfl⟩
    · rintro σ G ⟨s0, q1, q2, q3, q4, q5, q6, q7, q8, q9, q10, rfl⟩
      exact k G
end
end CP

end
section
set_option autoImplicit false
set_option Elab.async false
set_option linter.all false
set_option maxRecDepth 100000
set_option maxHeartbeats 4000000
/-! ## HN: the head by one run of the kernel; what is asked of the state behind the top: named facts, defs, and looks of one's own -/
namespace HN
open PySem PySem.Spec PyProof.Rows L2
/-- addresses as numbers, one after another -/
def frc {α : Type} : List Addr → (List Addr → α) → α
  | [], k => k []
  | a :: r, k => HandSHeadRun.frNat a fun a => frc r fun r => k (a :: r)
def refV : Value → List Addr
  | .ref a => [a]
  | _ => []
def refsF (fd : FuncData) : List Addr := refV fd.code ++ refV fd.defaults ++ refV fd.kwdefaults
def vals (g : Addr → Option Obj) (a : Addr) : List Addr := match g a with
  | some ⟨_, _, .dict es _, _⟩ => es.toList.flatMap fun e => refV e.val
  | _ => []
def isC (g : Addr → Option Obj) (a : Addr) : Bool := match g a with
  | some ⟨_, _, .cls _, _⟩ => true
  | _ => false
def nsOf (g : Addr → Option Obj) (a : Addr) : List Addr := match g a with
  | some ⟨_, _, .cls cd, _⟩ => [a, cd.ns]
  | _ => []
def fnOf (g : Addr → Option Obj) (a : Addr) : List Addr := match g a with
  | some ⟨_, _, .func fd, _⟩ => a :: refsF fd
  | some ⟨_, _, .cls _, _⟩ => []
  | _ => [a]
def asY {α : Type} (g : Addr → Option Obj) (k : List Addr → α) : α := frc (vals g mainGlobals) fun l1 => frc (l1.flatMap (nsOf g)) fun cs => frc (cs.flatMap (vals g)) fun ms => frc ((ms ++ l1).flatMap (fnOf g)) fun fs => k (mainGlobals :: (cs ++ fs))
theorem frc_eq {α : Type} : ∀ (l : List Addr) (k : List Addr → α), frc l k = k l
  | [], k => rfl
  | a :: r, k => by
    show HandSHeadRun.frNat a (fun a => frc r fun r => k (a :: r)) = _
    rw [HandSHeadRun.frNat_eq, frc_eq r]
/-- the objects that are looked at: the module's names, classes with their names, defs with their code -/
def asL (g : Addr → Option Obj) : List Addr := mainGlobals :: (((vals g mainGlobals).flatMap (nsOf g)) ++ ((((vals g mainGlobals).flatMap (nsOf g)).flatMap (vals g)) ++ vals g mainGlobals).flatMap (fnOf g))
theorem asY_eq {α : Type} (g : Addr → Option Obj) (k : List Addr → α) : asY g k = k (asL g) := by
  unfold asY asL
  rw [frc_eq, frc_eq, frc_eq, frc_eq]
abbrev Ex : Type := PySem.W.Frag → Bool
abbrev AlX : Type := He.AlD × Bool
def obsX (fa : List He.Fa) (fn : List He.DefD) (ex : List Ex) (K : PySem.W.Frag) : AlX := (He.obsD fa fn K, ex.all fun f => f K)
def valX (fn : List He.DefD) : AlX := (He.valD fn, true)
def Says (fa : List He.Fa) (fn : List He.DefD) (ex : List Ex) (K : PySem.W.Frag) : Prop := obsX fa fn ex K = valX fn
def obsG (fa : List He.Fa) (fn : List He.DefD) (ex : List Ex) (g : Addr → Option Obj) : AlX := asY g fun l => obsX fa fn ex (He.frG g l)
def hookX (fa : List He.Fa) (fn : List He.DefD) (ex : List Ex) : PySem.W.Hook where
  α := AlX
  obs := fun s => obsG fa fn ex s.heap.get?
  val := fun _ => valX fn
  says := fun _ h => ∃ K : PySem.W.Frag, K.In h ∧ Says fa fn ex K
  of := fun _ s e => ⟨He.frG s.heap.get? (asL s.heap.get?), He.frG_in, by
    unfold obsG at e
    rw [asY_eq] at e
    exact e⟩
  keeps := fun _ _ _ ⟨K, hK, c⟩ k => ⟨K, PySem.W.Frag.In.keeps hK k, c⟩
theorem obsG_eq {fa : List He.Fa} {fn : List He.DefD} {ex : List Ex} {g : Addr → Option Obj} {s : Shared} (h : ∀ a, g a = s.heap.get? a) : obsG fa fn ex g = (hookX fa fn ex).obs s := by
  have e : g = s.heap.get? := funext h
  rw [e] <;> rfl
section
variable {fa : List He.Fa} {fn : List He.DefD} {ex : List Ex} {K : PySem.W.Frag}
theorem Says.sd (c : Says fa fn ex K) : He.SaysD fa fn K := congrArg (fun z : AlX => z.1) c
theorem Says.fact (c : Says fa fn ex K) (i : Nat) (f : He.Fa) (h : fa[i]? = some f) : f.ok K = true := c.sd.fact i h
theorem Says.def_ (c : Says fa fn ex K) (i : Nat) (d : He.DefD) (h : fn[i]? = some d) : ∃ fd, FunD K d.name d.qual d.params d.body d.scope (d.dvs K) (d.kws K) (He.fAd K d.at_) fd := c.sd.def_ i h
theorem Says.look (c : Says fa fn ex K) (i : Nat) (f : Ex) (h : ex[i]? = some f) : f K = true := List.all_eq_true.mp (congrArg (fun z : AlX => z.2) c) f (List.mem_of_getElem? h)
theorem Says.prop (c : Says fa fn ex K) (i : Nat) {p : PySem.W.Frag → Prop} [∀ K, Decidable (p K)] (h : ex[i]? = some fun K => decide (p K)) : p K := of_decide_eq_true (c.look i _ h)
end
/-- a def of no default by place -/
theorem funOf {K : PySem.W.Frag} {x qual : Str} {st : Stmt} {kws : List (Str × V)} {f : Addr} {fd : FuncData} (F : FunD K x qual (defArgs st) (defBody st) (defScope st) [] kws f fd) : Fun K x qual st f fd := by
  obtain ⟨oc, od, dV, kV, doc, pm, an, cdv, ct, osl, e, lk, cd, hD, hK⟩ := F.ex
  rcases hD with ⟨_, rfl⟩ | ⟨ne, _⟩
  · exact ⟨⟨oc, od, kV, doc, pm, an, cdv, ct, osl, e, lk, cd⟩, F.kp⟩
  · exact absurd rfl ne
end HN
namespace G
open PySem PySem.Spec PyProof.Rows L2
/-- G.walk, the written part told by the state behind the top -/
theorem walkE {l : PySem.W.OpenLaw} {n k : Nat} {q : Program} {loose : List Str} {XP : (Str → Option Value) → Heap → Prop} {YP : World → Heap → Prop} {d : DefRec} {x : Str}
    (hn : l.most = some n) (hn2 : n ≤ sizeLine) (hdf : d.params.defaults = []) (hr : Room k callerA)
    (F : ∀ (w : World) (mg : Str → Option Value) (fa : Addr) (h : Heap), YP w h → h.Ns mainGlobals mg → mg d.name = some (.ref fa) →
      ∃ (K : PySem.W.Frag) (fd : FuncData) (sp : Sp), K.In h ∧ (∀ (s : Shared) (u : Value), BindsTo s fd ⟨[u], []⟩ [(x, u)]) ∧
        (∀ (H : Hp) (a : Addr) (ns : List Int), ns.length ≤ n → (∀ z ∈ ns, Builtin.Int.intBits z ≤ 1048576) → SqL K H a (ns.map V.int) → sp [.ref a] H (fun v _ => v = .bl true) fun _ _ _ => False) ∧
        ∀ base : Heap, K.In base → base.Ns mainGlobals mg → Ok l.prog w K mg base CX0 k fa fd [x] sp) :
    PySem.W.WalkO q loose XP YP l.row.toRowW d [] (fun f vs => PySem.call f vs) := by
  refine Att.attach_callB hn hdf ?_
  intro w s₀ s₁ mg mb fa o pm cd doc a vs ns G Y ho hd hcd hmg hobj hints hlen hbits hg
  obtain ⟨K, fd, sp, KX, hb, hsp, hF⟩ := F w mg fa _ Y G.T.g hmg
  have rv := vals_ints hints
  have zl : ns.length ≤ sizeLine := Nat.le_trans hlen hn2
  have wish := fun (H : Hp) (S : SqL K H a (ns.map V.int)) => hsp H a ns hlen hbits S
  by_cases hk : K.lookup a = none
  · refine enter (H := fun b => if b = a then some (.frz { cls := .type "list", data := .seq vs.toArray } (.lst (ns.map V.int))) else none) KX G.T.g G.T.b G.T.builtins G.T.nolimit hg hobj hr hF hb ?_ ?_ ?_ (fun _ => hk) (wish _ ?_) fun _ _ _ z => z
    · intro b
      by_cases e : b = a
      · exact .inr ⟨_, _, if_pos e⟩
      · exact .inl (if_neg e)
    · intro b o e
      by_cases z : b = a
      · subst z
        cases (if_pos rfl).symm.trans e
        exact ⟨hobj, by rw [List.length_map]; exact zl, vs, _, rv, hobj⟩
      · cases (if_neg z).symm.trans e
    · intro b o e
      by_cases z : b = a
      · exact z
      · cases (if_neg z).symm.trans e
    · exact .inl (.inr ⟨_, if_pos rfl⟩)
  · obtain ⟨o, ek⟩ := Option.ne_none_iff_exists'.mp hk
    have eo := (KX a o ek).symm.trans hobj
    cases eo
    refine enter (H := fun _ => none) KX G.T.g G.T.b G.T.builtins G.T.nolimit hg hobj hr hF hb (fun _ => .inl rfl) (fun b o e => nomatch e) (fun b o e => nomatch e) (fun ⟨o, e⟩ => nomatch e) (wish _ ?_) fun _ _ _ z => z
    refine .inr ⟨_, vs.toArray, _, ek, rfl, rfl, rfl, ?_, by simpa using rv⟩
    rw [List.size_toArray, hints.length]
    exact zl
end G

end
section
set_option autoImplicit false
set_option Elab.async false
set_option linter.all false
set_option maxRecDepth 100000
set_option maxHeartbeats 4000000
/-! ## what the top leaves -/
namespace CP
open PySem L2 G Y
theorem ln1 {α : Type} {l : List α} (h : l.length = 1) : ∃ a0, l = [a0] := by
  match l, h with
  | [a0], _ => exact ⟨a0, rfl⟩
theorem ln2 {α : Type} {l : List α} (h : l.length = 2) : ∃ a0 a1, l = [a0, a1] := by
  match l, h with
  | [a0, a1], _ => exact ⟨a0, a1, rfl⟩
theorem ln3 {α : Type} {l : List α} (h : l.length = 3) : ∃ a0 a1 a2, l = [a0, a1, a2] := by
  match l, h with
  | [a0, a1, a2], _ => exact ⟨a0, a1, a2, rfl⟩
theorem ln4 {α : Type} {l : List α} (h : l.length = 4) : ∃ a0 a1 a2 a3, l = [a0, a1, a2, a3] := by
  match l, h with
  | [a0, a1, a2, a3], _ => exact ⟨a0, a1, a2, a3, rfl⟩
theorem ln5 {α : Type} {l : List α} (h : l.length = 5) : ∃ a0 a1 a2 a3 a4, l = [a0, a1, a2, a3, a4] := by
  match l, h with
  | [a0, a1, a2, a3, a4], _ => exact ⟨a0, a1, a2, a3, a4, rfl⟩
/-- a def as it stands behind the top -/
structure Fa (K : PySem.W.Frag) (mg : Str → Option Value) (x : Str) (st : Stmt) (ps : List Str) : Prop where
  ex : ∃ (f : Addr) (fd : FuncData), Fun K x x st f fd ∧ mg x = some (.ref f) ∧ PySem.W.keepIn K (.ref f) = true ∧ Binds K fd ps []
theorem Fa.df {P : Program} {w : World} {K : PySem.W.Frag} {mg : Str → Option Value} {base : Heap} {x : Str} {st : Stmt} {ps : List Str} {k : Nat} {sp : Sp} (h : Fa K mg x st ps) (ok : ∀ f fd, Fun K x x st f fd → FnOk P w K mg base CX0 k f fd ps sp) : Df P w K mg base k x ps sp := by
  obtain ⟨f, fd, h1, h2, h3, h4⟩ := h.ex
  exact ⟨f, fd, ok f fd h1, h2, h3, h4⟩
theorem Fa.dw {P : Program} {w : World} {K : PySem.W.Frag} {mg : Str → Option Value} {base : Heap} {x : Str} {st : Stmt} {ps : List Str} {k : Nat} {sp : Sp} (h : Fa K mg x st ps) (ok : ∀ f fd, Fun K x x st f fd → FnOk P w K mg base CX0 k f fd ps sp) : WP.Df P w K mg base k x ps sp := by
  obtain ⟨f, fd, h1, h2, h3, h4⟩ := h.ex
  exact ⟨f, fd, ok f fd h1, h2, h3, h4⟩
/-- a def with one argument behind the star -/
structure Fg (K : PySem.W.Frag) (mg : Str → Option Value) (x : Str) (st : Stmt) (ps ks : List Str) : Prop where
  ex : ∃ (f : Addr) (fd : FuncData), Fun K x x st f fd ∧ mg x = some (.ref f) ∧ KBinds K fd ps ks g11 g11
theorem Fg.d {P : Program} {w : World} {K : PySem.W.Frag} {mg : Str → Option Value} {base : Heap} {x : Str} {st : Stmt} {ps ks : List Str} {k : Nat} {sp : Sp} (F : Fg K mg x st ps ks) (ok : ∀ f fd, Fun K x x st f fd → FnOk P w K mg base CX0 k f fd ps sp) : Dg P w K mg base k x ps ks sp := by
  obtain ⟨f, fd, h1, h2, h3⟩ := F.ex
  exact ⟨f, fd, ok f fd h1, h2, h1.kp, h3⟩
/-- gates and form: the argument behind the star by name, all by name, left out -/
structure Fo (K : PySem.W.Frag) (mg : Str → Option Value) (x : Str) (st : Stmt) (ps ks ka : List Str) (d : V) (e : Value) : Prop where
  ex : ∃ (f : Addr) (fd : FuncData), Fun K x x st f fd ∧ mg x = some (.ref f) ∧ KBinds K fd ps ks g11 g11 ∧ KBinds K fd ps ka (g0 o1) (g0 o1) ∧ KBinds K fd ps ["way"] (g0 (m1 e)) (g0 (m1 d))
theorem Fo.g {K : PySem.W.Frag} {mg : Str → Option Value} {x : Str} {st : Stmt} {ps ks ka : List Str} {d : V} {e : Value} (F : Fo K mg x st ps ks ka d e) : Fg K mg x st ps ks := by
  obtain ⟨f, fd, h1, h2, h3, h4, h5⟩ := F.ex
  exact ⟨f, fd, h1, h2, h3⟩
structure Ff (K : PySem.W.Frag) (mg : Str → Option Value) : Prop where
  ex : ∃ (f : Addr) (fd : FuncData), Fun K "fate" "fate" sFate f fd ∧ mg "fate" = some (.ref f) ∧ KBinds K fd ["way", "body", "sealed"] ["sealed"] g21 g21
structure Fp (K : PySem.W.Frag) (mg : Str → Option Value) : Prop where
  ex : ∃ (f : Addr) (fd : FuncData), Fun K "form" "form" sForm f fd ∧ mg "form" = some (.ref f) ∧ PySem.W.keepIn K (.ref f) = true ∧ Binds K fd ["way", "upto"] [.none]
structure Fc (K : PySem.W.Frag) (mg : Str → Option Value) : Prop where
  ex : ∃ (f : Addr) (fd : FuncData), Fun K "chain_of" "chain_of" sChainOf f fd ∧ mg "chain_of" = some (.ref f) ∧ Binds K fd ["way"] []
theorem ne_cls {K : PySem.W.Frag} {C D : Addr} {m : Str} {v : Value} (a : PySem.W.findIn K (.ref C) m = some (some v)) (b : PySem.W.findIn K (.ref D) m = some none) : C ≠ D := fun e => by
  rw [e, b] at a
  cases a
section
variable {P : Program} {w : World} {K : PySem.W.Frag} {mg : Str → Option Value} {base : Heap} {C CW : Addr}
theorem dl_tlines (B : Bn mg) (hstr : mg "str" = none) (gI : ∃ t, mg "INDENTATION" = some (.str "  " t)) (T : WP.Wt K mg CW) (z : Fa K mg "_lines" sTLines ["way"]) : ∀ n, Df P w K mg base (1 + n) "_lines" ["way"] (spTLines CW n)
  | 0 => z.df fun f fd F => F.ok scTl (fun vs H Q E h => by
      obtain ⟨a, wy, rfl, _⟩ := h
      rfl) (fun cdv A outer s H vs Q E hr h => by
      exfalso
      obtain ⟨a, wy, _, _, _, hd, _⟩ := h
      have := M.depth_pos wy
      omega)
  | n + 1 => z.df fun f fd F => ok_tlines F B hstr gI T (by show 1 ≤ 1 + n; omega) (dl_tlines B hstr gI T z n)
theorem dg_gates (B : Bn mg) (T : Ct K mg C) (TW : WP.Wt K mg CW) (nP : ∃ t, mg "NOTHING_PASSES" = some (.int (-1) t)) (zg : Fg K mg "gates" sGates ["way", "sealed"] ["sealed"]) (zt : Fa K mg "_tunnel_gates" sTunG ["head", "tunnel", "chain", "sealed"]) (za : Fa K mg "_gates_at" sGAt ["head", "step", "chain", "sealed"])
    (DM : Df P w K mg base 4 "_most_gates" ["most", "chain"] (spMostG C)) (DC : Df P w K mg base 7 "chains_before" ["way", "sealed"] (spChB C CW)) (DL : Df P w K mg base 1 "_leaves_more" ["chain", "stretch"] (spLeaves C)) (DT : Df P w K mg base 1 "_turned" ["answer", "inner_head", "tells"] spTurnG) (DR : Df P w K mg base 2 "_road_gates" ["head", "road", "chain", "sealed"] (spRoadG C)) :
    ∀ n, n ≤ 10 → ∀ f fd, Fun K "gates" "gates" sGates f fd → FnOk P w K mg base CX0 (8 + 3 * n) f fd ["way", "sealed"] (spGates CW n)
  | 0, _, f, fd, F => F.ok scGt (fun vs H Q E h => by
      obtain ⟨a, se, wy, rfl, _⟩ := h
      rfl) (fun cdv A outer s H vs Q E hr h => by
      exfalso
      obtain ⟨a, se, wy, _, _, _, hd, _⟩ := h
      have := M.depth_pos wy
      omega)
  | n + 1, hn, f, fd, F => by
    have DG : Dg P w K mg base (8 + 3 * n) "gates" ["way", "sealed"] ["sealed"] (spGates CW n) := zg.d fun f fd F => dg_gates B T TW nP zg zt za DM DC DL DT DR n (by omega) f fd F
    have DU : Df P w K mg base (8 + 3 * n + 1) "_tunnel_gates" ["head", "tunnel", "chain", "sealed"] (spTunG C CW n) := zt.df fun f fd F => ok_tung F (by omega) B TW nP DG DM DC DL DT
    have DA : Df P w K mg base (8 + 3 * n + 1 + 1) "_gates_at" ["head", "step", "chain", "sealed"] (spGsAt C CW n) := za.df fun f fd F => ok_gsat F (by omega) DR DM DU
    have r : FnOk P w K mg base CX0 (8 + 3 * n + 1 + 1 + 1) f fd ["way", "sealed"] (spGates CW (n + 1)) := ok_gates F (by omega) (by omega) B TW DC DA
    exact r
theorem dl_plan (B : Bn mg) (zp : Fa K mg "_law_plan" sLPlan ["stream", "depth", "base"]) (zs : Fa K mg "_law_plan_step" sLStep ["stream", "depth", "base", "head"]) (DD : Df P w K mg base 1 "_law_draw" ["stream", "size"] S.spDraw) (DP : Df P w K mg base 2 "_law_choose" ["stream", "items"] (S.spChoose K)) (DM : Df P w K mg base 3 "_law_most" ["stream"] spLMost) :
    ∀ n, Df P w K mg base (4 + 2 * n) "_law_plan" ["stream", "depth", "base"] (spLPlan n)
  | 0 => zp.df fun f fd F => F.ok scPn (fun vs H Q E h => by
      obtain ⟨p, d, b, rfl, _⟩ := h
      rfl) (fun cdv A outer s H vs Q E hr h => by
      exfalso
      obtain ⟨p, d, b, _, _, hd, _⟩ := h
      omega)
  | n + 1 => by
    have D0 := dl_plan B zp zs DD DP DM n
    have DS : Df P w K mg base (4 + 2 * n + 1) "_law_plan_step" ["stream", "depth", "base", "head"] (spLStep n) := zs.df fun f fd F => ok_lstep F (by omega) B DD DP DM D0
    have r : Df P w K mg base (4 + 2 * n + 1 + 1) "_law_plan" ["stream", "depth", "base"] (spLPlan (n + 1)) := zp.df fun f fd F => ok_lplan F (by omega) B DD DP DS
    exact r
theorem dl_way (T : WP.Wt K mg CW) (MW : WP.Mw P w K mg base CW) (z : Fa K mg "_law_way" sLWay ["plan"]) : ∀ n, Df P w K mg base (8 + n) "_law_way" ["plan"] (spLWay CW n)
  | 0 => z.df fun f fd F => F.ok scLw (fun vs H Q E h => by
      obtain ⟨v, wy, rfl, _⟩ := h
      rfl) (fun cdv A outer s H vs Q E hr h => by
      exfalso
      obtain ⟨v, wy, _, _, _, hd, _⟩ := h
      have := M.depth_pos wy
      omega)
  | n + 1 => z.df fun f fd F => ok_lway F T MW (by show 7 ≤ 8 + n; omega) (dl_way T MW z n)
end
section
variable {K : PySem.W.Frag} {mg : Str → Option Value} {h : Heap} {f : Addr} {fd : FuncData}
theorem fd_I (X : K.In h) (Gn : h.Ns mainGlobals mg) (a : PySem.W.nsIn K mainGlobals "is_integer" = some (some (.ref f))) (F : Fun K "is_integer" "is_integer" sInteger f fd) : Fa K mg "is_integer" sInteger ["value"] :=
  ⟨f, fd, F, PySem.W.mg_of X Gn a, F.kp, F.binds fun _ _ _ _ _ _ us hl => by obtain ⟨a0, rfl⟩ := ln1 hl; rfl⟩
theorem fd_W (X : K.In h) (Gn : h.Ns mainGlobals mg) (a : PySem.W.nsIn K mainGlobals "is_within" = some (some (.ref f))) (F : Fun K "is_within" "is_within" sWithin f fd) : Fa K mg "is_within" sWithin ["value", "least", "greatest"] :=
  ⟨f, fd, F, PySem.W.mg_of X Gn a, F.kp, F.binds fun _ _ _ _ _ _ us hl => by obtain ⟨a0, a1, a2, rfl⟩ := ln3 hl; rfl⟩
theorem fd_ar (X : K.In h) (Gn : h.Ns mainGlobals mg) (a : PySem.W.nsIn K mainGlobals "_are_cuts" = some (some (.ref f))) (F : Fun K "_are_cuts" "_are_cuts" sAreCuts f fd) : Fa K mg "_are_cuts" sAreCuts ["value"] :=
  ⟨f, fd, F, PySem.W.mg_of X Gn a, F.kp, F.binds fun _ _ _ _ _ _ us hl => by obtain ⟨a0, rfl⟩ := ln1 hl; rfl⟩
theorem fd_co (X : K.In h) (Gn : h.Ns mainGlobals mg) (a : PySem.W.nsIn K mainGlobals "_piece_counts" = some (some (.ref f))) (F : Fun K "_piece_counts" "_piece_counts" sCounts f fd) : Fa K mg "_piece_counts" sCounts ["cuts"] :=
  ⟨f, fd, F, PySem.W.mg_of X Gn a, F.kp, F.binds fun _ _ _ _ _ _ us hl => by obtain ⟨a0, rfl⟩ := ln1 hl; rfl⟩
theorem fd_pi (X : K.In h) (Gn : h.Ns mainGlobals mg) (a : PySem.W.nsIn K mainGlobals "_pieces" = some (some (.ref f))) (F : Fun K "_pieces" "_pieces" sPieces f fd) : Fa K mg "_pieces" sPieces ["body", "cuts", "counts"] :=
  ⟨f, fd, F, PySem.W.mg_of X Gn a, F.kp, F.binds fun _ _ _ _ _ _ us hl => by obtain ⟨a0, a1, a2, rfl⟩ := ln3 hl; rfl⟩
theorem fd_mk (X : K.In h) (Gn : h.Ns mainGlobals mg) (a : PySem.W.nsIn K mainGlobals "_marks" = some (some (.ref f))) (F : Fun K "_marks" "_marks" sMarks f fd) : Fa K mg "_marks" sMarks ["chain", "length"] :=
  ⟨f, fd, F, PySem.W.mg_of X Gn a, F.kp, F.binds fun _ _ _ _ _ _ us hl => by obtain ⟨a0, a1, rfl⟩ := ln2 hl; rfl⟩
theorem fd_lp (X : K.In h) (Gn : h.Ns mainGlobals mg) (a : PySem.W.nsIn K mainGlobals "least_periods" = some (some (.ref f))) (F : Fun K "least_periods" "least_periods" sLeastP f fd) : Fa K mg "least_periods" sLeastP ["marks"] :=
  ⟨f, fd, F, PySem.W.mg_of X Gn a, F.kp, F.binds fun _ _ _ _ _ _ us hl => by obtain ⟨a0, rfl⟩ := ln1 hl; rfl⟩
theorem fd_bo (X : K.In h) (Gn : h.Ns mainGlobals mg) (a : PySem.W.nsIn K mainGlobals "borders" = some (some (.ref f))) (F : Fun K "borders" "borders" sBorders f fd) : Fa K mg "borders" sBorders ["marks"] :=
  ⟨f, fd, F, PySem.W.mg_of X Gn a, F.kp, F.binds fun _ _ _ _ _ _ us hl => by obtain ⟨a0, rfl⟩ := ln1 hl; rfl⟩
theorem fd_fc (X : K.In h) (Gn : h.Ns mainGlobals mg) (a : PySem.W.nsIn K mainGlobals "_first_cut" = some (some (.ref f))) (F : Fun K "_first_cut" "_first_cut" sFirstCut f fd) : Fa K mg "_first_cut" sFirstCut ["chain"] :=
  ⟨f, fd, F, PySem.W.mg_of X Gn a, F.kp, F.binds fun _ _ _ _ _ _ us hl => by obtain ⟨a0, rfl⟩ := ln1 hl; rfl⟩
theorem fd_le (X : K.In h) (Gn : h.Ns mainGlobals mg) (a : PySem.W.nsIn K mainGlobals "_length" = some (some (.ref f))) (F : Fun K "_length" "_length" sLength f fd) : Fa K mg "_length" sLength ["places", "limit"] :=
  ⟨f, fd, F, PySem.W.mg_of X Gn a, F.kp, F.binds fun _ _ _ _ _ _ us hl => by obtain ⟨a0, a1, rfl⟩ := ln2 hl; rfl⟩
theorem fd_wd (X : K.In h) (Gn : h.Ns mainGlobals mg) (a : PySem.W.nsIn K mainGlobals "_word" = some (some (.ref f))) (F : Fun K "_word" "_word" sWord f fd) : Fa K mg "_word" sWord ["road", "sealed"] :=
  ⟨f, fd, F, PySem.W.mg_of X Gn a, F.kp, F.binds fun _ _ _ _ _ _ us hl => by obtain ⟨a0, a1, rfl⟩ := ln2 hl; rfl⟩
theorem fd_ga (X : K.In h) (Gn : h.Ns mainGlobals mg) (a : PySem.W.nsIn K mainGlobals "_gates_at" = some (some (.ref f))) (F : Fun K "_gates_at" "_gates_at" sGAt f fd) : Fa K mg "_gates_at" sGAt ["head", "step", "chain", "sealed"] :=
  ⟨f, fd, F, PySem.W.mg_of X Gn a, F.kp, F.binds fun _ _ _ _ _ _ us hl => by obtain ⟨a0, a1, a2, a3, rfl⟩ := ln4 hl; rfl⟩
theorem fd_rg (X : K.In h) (Gn : h.Ns mainGlobals mg) (a : PySem.W.nsIn K mainGlobals "_road_gates" = some (some (.ref f))) (F : Fun K "_road_gates" "_road_gates" sRoadG f fd) : Fa K mg "_road_gates" sRoadG ["head", "road", "chain", "sealed"] :=
  ⟨f, fd, F, PySem.W.mg_of X Gn a, F.kp, F.binds fun _ _ _ _ _ _ us hl => by obtain ⟨a0, a1, a2, a3, rfl⟩ := ln4 hl; rfl⟩
theorem fd_lv (X : K.In h) (Gn : h.Ns mainGlobals mg) (a : PySem.W.nsIn K mainGlobals "_leaves_more" = some (some (.ref f))) (F : Fun K "_leaves_more" "_leaves_more" sLeaves f fd) : Fa K mg "_leaves_more" sLeaves ["chain", "stretch"] :=
  ⟨f, fd, F, PySem.W.mg_of X Gn a, F.kp, F.binds fun _ _ _ _ _ _ us hl => by obtain ⟨a0, a1, rfl⟩ := ln2 hl; rfl⟩
theorem fd_mg (X : K.In h) (Gn : h.Ns mainGlobals mg) (a : PySem.W.nsIn K mainGlobals "_most_gates" = some (some (.ref f))) (F : Fun K "_most_gates" "_most_gates" sMostG f fd) : Fa K mg "_most_gates" sMostG ["most", "chain"] :=
  ⟨f, fd, F, PySem.W.mg_of X Gn a, F.kp, F.binds fun _ _ _ _ _ _ us hl => by obtain ⟨a0, a1, rfl⟩ := ln2 hl; rfl⟩
theorem fd_tg (X : K.In h) (Gn : h.Ns mainGlobals mg) (a : PySem.W.nsIn K mainGlobals "_tunnel_gates" = some (some (.ref f))) (F : Fun K "_tunnel_gates" "_tunnel_gates" sTunG f fd) : Fa K mg "_tunnel_gates" sTunG ["head", "tunnel", "chain", "sealed"] :=
  ⟨f, fd, F, PySem.W.mg_of X Gn a, F.kp, F.binds fun _ _ _ _ _ _ us hl => by obtain ⟨a0, a1, a2, a3, rfl⟩ := ln4 hl; rfl⟩
theorem fd_tu (X : K.In h) (Gn : h.Ns mainGlobals mg) (a : PySem.W.nsIn K mainGlobals "_turned" = some (some (.ref f))) (F : Fun K "_turned" "_turned" sTurnG f fd) : Fa K mg "_turned" sTurnG ["answer", "inner_head", "tells"] :=
  ⟨f, fd, F, PySem.W.mg_of X Gn a, F.kp, F.binds fun _ _ _ _ _ _ us hl => by obtain ⟨a0, a1, a2, rfl⟩ := ln3 hl; rfl⟩
theorem fd_cb (X : K.In h) (Gn : h.Ns mainGlobals mg) (a : PySem.W.nsIn K mainGlobals "chains_before" = some (some (.ref f))) (F : Fun K "chains_before" "chains_before" sChB f fd) : Fa K mg "chains_before" sChB ["way", "sealed"] :=
  ⟨f, fd, F, PySem.W.mg_of X Gn a, F.kp, F.binds fun _ _ _ _ _ _ us hl => by obtain ⟨a0, a1, rfl⟩ := ln2 hl; rfl⟩
theorem fd_sr (X : K.In h) (Gn : h.Ns mainGlobals mg) (a : PySem.W.nsIn K mainGlobals "_stairs" = some (some (.ref f))) (F : Fun K "_stairs" "_stairs" sStairs f fd) : Fa K mg "_stairs" sStairs ["way", "sealed", "upto"] :=
  ⟨f, fd, F, PySem.W.mg_of X Gn a, F.kp, F.binds fun _ _ _ _ _ _ us hl => by obtain ⟨a0, a1, a2, rfl⟩ := ln3 hl; rfl⟩
theorem fd_wr (X : K.In h) (Gn : h.Ns mainGlobals mg) (a : PySem.W.nsIn K mainGlobals "written_integer" = some (some (.ref f))) (F : Fun K "written_integer" "written_integer" sWritten f fd) : Fa K mg "written_integer" sWritten ["word"] :=
  ⟨f, fd, F, PySem.W.mg_of X Gn a, F.kp, F.binds fun _ _ _ _ _ _ us hl => by obtain ⟨a0, rfl⟩ := ln1 hl; rfl⟩
theorem fd_tp (X : K.In h) (Gn : h.Ns mainGlobals mg) (a : PySem.W.nsIn K mainGlobals "_step" = some (some (.ref f))) (F : Fun K "_step" "_step" sTStep f fd) : Fa K mg "_step" sTStep ["words", "head"] :=
  ⟨f, fd, F, PySem.W.mg_of X Gn a, F.kp, F.binds fun _ _ _ _ _ _ us hl => by obtain ⟨a0, a1, rfl⟩ := ln2 hl; rfl⟩
theorem fd_tl2 (X : K.In h) (Gn : h.Ns mainGlobals mg) (a : PySem.W.nsIn K mainGlobals "_lines" = some (some (.ref f))) (F : Fun K "_lines" "_lines" sTLines f fd) : Fa K mg "_lines" sTLines ["way"] :=
  ⟨f, fd, F, PySem.W.mg_of X Gn a, F.kp, F.binds fun _ _ _ _ _ _ us hl => by obtain ⟨a0, rfl⟩ := ln1 hl; rfl⟩
theorem fd_wt (X : K.In h) (Gn : h.Ns mainGlobals mg) (a : PySem.W.nsIn K mainGlobals "way_text" = some (some (.ref f))) (F : Fun K "way_text" "way_text" sWText f fd) : Fa K mg "way_text" sWText ["way"] :=
  ⟨f, fd, F, PySem.W.mg_of X Gn a, F.kp, F.binds fun _ _ _ _ _ _ us hl => by obtain ⟨a0, rfl⟩ := ln1 hl; rfl⟩
theorem fd_rw (X : K.In h) (Gn : h.Ns mainGlobals mg) (a : PySem.W.nsIn K mainGlobals "read_way" = some (some (.ref f))) (F : Fun K "read_way" "read_way" sRead f fd) : Fa K mg "read_way" sRead ["text"] :=
  ⟨f, fd, F, PySem.W.mg_of X Gn a, F.kp, F.binds fun _ _ _ _ _ _ us hl => by obtain ⟨a0, rfl⟩ := ln1 hl; rfl⟩
theorem fd_be (X : K.In h) (Gn : h.Ns mainGlobals mg) (a : PySem.W.nsIn K mainGlobals "_law_bent_plan" = some (some (.ref f))) (F : Fun K "_law_bent_plan" "_law_bent_plan" sBent f fd) : Fa K mg "_law_bent_plan" sBent ["stream", "plan"] :=
  ⟨f, fd, F, PySem.W.mg_of X Gn a, F.kp, F.binds fun _ _ _ _ _ _ us hl => by obtain ⟨a0, a1, rfl⟩ := ln2 hl; rfl⟩
theorem fd_ls (X : K.In h) (Gn : h.Ns mainGlobals mg) (a : PySem.W.nsIn K mainGlobals "_law_stream" = some (some (.ref f))) (F : Fun K "_law_stream" "_law_stream" S.sSource f fd) : Fa K mg "_law_stream" S.sSource ["script", "start"] :=
  ⟨f, fd, F, PySem.W.mg_of X Gn a, F.kp, F.binds fun _ _ _ _ _ _ us hl => by obtain ⟨a0, a1, rfl⟩ := ln2 hl; rfl⟩
theorem fd_ld (X : K.In h) (Gn : h.Ns mainGlobals mg) (a : PySem.W.nsIn K mainGlobals "_law_draw" = some (some (.ref f))) (F : Fun K "_law_draw" "_law_draw" S.sDraw f fd) : Fa K mg "_law_draw" S.sDraw ["stream", "size"] :=
  ⟨f, fd, F, PySem.W.mg_of X Gn a, F.kp, F.binds fun _ _ _ _ _ _ us hl => by obtain ⟨a0, a1, rfl⟩ := ln2 hl; rfl⟩
theorem fd_lch (X : K.In h) (Gn : h.Ns mainGlobals mg) (a : PySem.W.nsIn K mainGlobals "_law_choose" = some (some (.ref f))) (F : Fun K "_law_choose" "_law_choose" S.sPick f fd) : Fa K mg "_law_choose" S.sPick ["stream", "items"] :=
  ⟨f, fd, F, PySem.W.mg_of X Gn a, F.kp, F.binds fun _ _ _ _ _ _ us hl => by obtain ⟨a0, a1, rfl⟩ := ln2 hl; rfl⟩
theorem fd_sm (X : K.In h) (Gn : h.Ns mainGlobals mg) (a : PySem.W.nsIn K mainGlobals "_law_same" = some (some (.ref f))) (F : Fun K "_law_same" "_law_same" S.sSame f fd) : Fa K mg "_law_same" S.sSame ["one", "two"] :=
  ⟨f, fd, F, PySem.W.mg_of X Gn a, F.kp, F.binds fun _ _ _ _ _ _ us hl => by obtain ⟨a0, a1, rfl⟩ := ln2 hl; rfl⟩
theorem fd_pn (X : K.In h) (Gn : h.Ns mainGlobals mg) (a : PySem.W.nsIn K mainGlobals "_law_plan" = some (some (.ref f))) (F : Fun K "_law_plan" "_law_plan" sLPlan f fd) : Fa K mg "_law_plan" sLPlan ["stream", "depth", "base"] :=
  ⟨f, fd, F, PySem.W.mg_of X Gn a, F.kp, F.binds fun _ _ _ _ _ _ us hl => by obtain ⟨a0, a1, a2, rfl⟩ := ln3 hl; rfl⟩
theorem fd_lm (X : K.In h) (Gn : h.Ns mainGlobals mg) (a : PySem.W.nsIn K mainGlobals "_law_most" = some (some (.ref f))) (F : Fun K "_law_most" "_law_most" sLMost f fd) : Fa K mg "_law_most" sLMost ["stream"] :=
  ⟨f, fd, F, PySem.W.mg_of X Gn a, F.kp, F.binds fun _ _ _ _ _ _ us hl => by obtain ⟨a0, rfl⟩ := ln1 hl; rfl⟩
theorem fd_ps (X : K.In h) (Gn : h.Ns mainGlobals mg) (a : PySem.W.nsIn K mainGlobals "_law_plan_step" = some (some (.ref f))) (F : Fun K "_law_plan_step" "_law_plan_step" sLStep f fd) : Fa K mg "_law_plan_step" sLStep ["stream", "depth", "base", "head"] :=
  ⟨f, fd, F, PySem.W.mg_of X Gn a, F.kp, F.binds fun _ _ _ _ _ _ us hl => by obtain ⟨a0, a1, a2, a3, rfl⟩ := ln4 hl; rfl⟩
theorem fd_lw (X : K.In h) (Gn : h.Ns mainGlobals mg) (a : PySem.W.nsIn K mainGlobals "_law_way" = some (some (.ref f))) (F : Fun K "_law_way" "_law_way" sLWay f fd) : Fa K mg "_law_way" sLWay ["plan"] :=
  ⟨f, fd, F, PySem.W.mg_of X Gn a, F.kp, F.binds fun _ _ _ _ _ _ us hl => by obtain ⟨a0, rfl⟩ := ln1 hl; rfl⟩
theorem fd_B (X : K.In h) (Gn : h.Ns mainGlobals mg) (a : PySem.W.nsIn K mainGlobals "is_body" = some (some (.ref f))) (F : Fun K "is_body" "is_body" WP.sBody f fd) : Fa K mg "is_body" WP.sBody ["value"] :=
  ⟨f, fd, F, PySem.W.mg_of X Gn a, F.kp, F.binds fun _ _ _ _ _ _ us hl => by obtain ⟨a0, rfl⟩ := ln1 hl; rfl⟩
theorem fd_li (X : K.In h) (Gn : h.Ns mainGlobals mg) (a : PySem.W.nsIn K mainGlobals "is_step_list" = some (some (.ref f))) (F : Fun K "is_step_list" "is_step_list" WP.sList f fd) : Fa K mg "is_step_list" WP.sList ["value"] :=
  ⟨f, fd, F, PySem.W.mg_of X Gn a, F.kp, F.binds fun _ _ _ _ _ _ us hl => by obtain ⟨a0, rfl⟩ := ln1 hl; rfl⟩
theorem fd_st (X : K.In h) (Gn : h.Ns mainGlobals mg) (a : PySem.W.nsIn K mainGlobals "_is_step" = some (some (.ref f))) (F : Fun K "_is_step" "_is_step" WP.sStep f fd) : Fa K mg "_is_step" WP.sStep ["value", "head"] :=
  ⟨f, fd, F, PySem.W.mg_of X Gn a, F.kp, F.binds fun _ _ _ _ _ _ us hl => by obtain ⟨a0, a1, rfl⟩ := ln2 hl; rfl⟩
theorem fd_rd (X : K.In h) (Gn : h.Ns mainGlobals mg) (a : PySem.W.nsIn K mainGlobals "is_road" = some (some (.ref f))) (F : Fun K "is_road" "is_road" WP.sRoad f fd) : Fa K mg "is_road" WP.sRoad ["size", "sealed", "loose", "least"] :=
  ⟨f, fd, F, PySem.W.mg_of X Gn a, F.kp, F.binds fun _ _ _ _ _ _ us hl => by obtain ⟨a0, a1, a2, a3, rfl⟩ := ln4 hl; rfl⟩
theorem fd_tl (X : K.In h) (Gn : h.Ns mainGlobals mg) (a : PySem.W.nsIn K mainGlobals "is_tells" = some (some (.ref f))) (F : Fun K "is_tells" "is_tells" WP.sTells f fd) : Fa K mg "is_tells" WP.sTells ["value"] :=
  ⟨f, fd, F, PySem.W.mg_of X Gn a, F.kp, F.binds fun _ _ _ _ _ _ us hl => by obtain ⟨a0, rfl⟩ := ln1 hl; rfl⟩
theorem fd_mo (X : K.In h) (Gn : h.Ns mainGlobals mg) (a : PySem.W.nsIn K mainGlobals "is_most" = some (some (.ref f))) (F : Fun K "is_most" "is_most" WP.sMost f fd) : Fa K mg "is_most" WP.sMost ["value"] :=
  ⟨f, fd, F, PySem.W.mg_of X Gn a, F.kp, F.binds fun _ _ _ _ _ _ us hl => by obtain ⟨a0, rfl⟩ := ln1 hl; rfl⟩
theorem fd_hd (X : K.In h) (Gn : h.Ns mainGlobals mg) (a : PySem.W.nsIn K mainGlobals "is_head" = some (some (.ref f))) (F : Fun K "is_head" "is_head" WP.sHead f fd) : Fa K mg "is_head" WP.sHead ["value"] :=
  ⟨f, fd, F, PySem.W.mg_of X Gn a, F.kp, F.binds fun _ _ _ _ _ _ us hl => by obtain ⟨a0, rfl⟩ := ln1 hl; rfl⟩
theorem words_of {a : Addr} {dd : Option Addr} {sl : Array (Option Value)} {n : Nat} {us : List Value} {xs : List V} (lk : K.lookup a = some ⟨.type "tuple", dd, .seq us.toArray n, sl⟩) (hl : xs.length ≤ sizeLine) (r : Vals xs us) : ∀ H, SqT K H a xs := fun H => .inr ⟨_, us.toArray, _, lk, rfl, rfl, by rw [List.size_toArray, ← r.length]; exact hl, by simpa using r⟩
theorem fund_mk {x y : Str} {v : V} {u : Value} {st : Stmt} {oc : Value} {od an : Option Addr} {osl : Array (Option Value)} {D : Addr} {doc pm cdv ct : Value} (l : K.lookup f = some ⟨oc, od, .func (PySem.W.fnOf x x (defArgs st) (defBody st) (defScope st) .none (.ref D) doc pm an cdv ct), osl⟩)
    (c : PySem.W.codeIn K cdv x = true) (k : PySem.W.keepIn K (.ref f) = true) (n : PySem.W.nsIn K D y = some (some u)) (r : RelV v u) : FunD K x x (defArgs st) (defBody st) (defScope st) [] [(y, v)] f (PySem.W.fnOf x x (defArgs st) (defBody st) (defScope st) .none (.ref D) doc pm an cdv ct) :=
  ⟨⟨oc, od, _, _, doc, pm, an, cdv, ct, osl, rfl, l, c, .inl ⟨rfl, rfl⟩, .inr ⟨D, rfl, fun q hq => by
    rw [List.mem_singleton.mp hq]
    exact ⟨_, n, r⟩⟩⟩, k⟩
theorem kl_gt (F : Fun K "gates" "gates" sGates f fd) : KBinds K fd ["way", "sealed"] ["sealed"] g11 g11 := by
  obtain ⟨oc, od, kV, doc, pm, an, cdv, ct, osl, rfl, lk, hcd⟩ := F.ex
  refine ⟨fun _ us ws _ hl => ?_, fun {vs us zs ws} r rz => rel11 r rz⟩
  match us, ws, hl with
  | [_], [_], _ => exact .of_eq rfl
theorem fk_gt (X : K.In h) (Gn : h.Ns mainGlobals mg) (a : PySem.W.nsIn K mainGlobals "gates" = some (some (.ref f))) (F : Fun K "gates" "gates" sGates f fd) : Fg K mg "gates" sGates ["way", "sealed"] ["sealed"] := ⟨f, fd, F, PySem.W.mg_of X Gn a, kl_gt F⟩
theorem kl_lo (F : Fun K "lows" "lows" sLows f fd) : KBinds K fd ["way", "sealed"] ["sealed"] g11 g11 := by
  obtain ⟨oc, od, kV, doc, pm, an, cdv, ct, osl, rfl, lk, hcd⟩ := F.ex
  refine ⟨fun _ us ws _ hl => ?_, fun {vs us zs ws} r rz => rel11 r rz⟩
  match us, ws, hl with
  | [_], [_], _ => exact .of_eq rfl
theorem fk_lo (X : K.In h) (Gn : h.Ns mainGlobals mg) (a : PySem.W.nsIn K mainGlobals "lows" = some (some (.ref f))) (F : Fun K "lows" "lows" sLows f fd) : Fg K mg "lows" sLows ["way", "sealed"] ["sealed"] := ⟨f, fd, F, PySem.W.mg_of X Gn a, kl_lo F⟩
theorem kl_no (F : Fun K "normal" "normal" sNormal f fd) : KBinds K fd ["chain", "limit"] ["limit"] g11 g11 := by
  obtain ⟨oc, od, kV, doc, pm, an, cdv, ct, osl, rfl, lk, hcd⟩ := F.ex
  refine ⟨fun _ us ws _ hl => ?_, fun {vs us zs ws} r rz => rel11 r rz⟩
  match us, ws, hl with
  | [_], [_], _ => exact .of_eq rfl
theorem fk_no (X : K.In h) (Gn : h.Ns mainGlobals mg) (a : PySem.W.nsIn K mainGlobals "normal" = some (some (.ref f))) (F : Fun K "normal" "normal" sNormal f fd) : Fg K mg "normal" sNormal ["chain", "limit"] ["limit"] := ⟨f, fd, F, PySem.W.mg_of X Gn a, kl_no F⟩
theorem non_of {ds : List Value} (r : Vals [V.non] ds) : ds = [.none] := by
  cases r with
  | cons a b =>
    cases b
    cases a
    rfl
theorem bp_fm {oc : Value} {od an : Option Addr} {osl : Array (Option Value)} {D : Addr} {doc pm cdv ct : Value} (X : K.In h) (Gn : h.Ns mainGlobals mg) (a : PySem.W.nsIn K mainGlobals "form" = some (some (.ref f))) (l : K.lookup f = some ⟨oc, od, .func (PySem.W.fnOf "form" "form" (defArgs sForm) (defBody sForm) (defScope sForm) .none (.ref D) doc pm an cdv ct), osl⟩)
    (c : PySem.W.codeIn K cdv "form" = true) (k : PySem.W.keepIn K (.ref f) = true) (n : PySem.W.nsIn K D "upto" = some (some .none)) : Fp K mg := by
  obtain ⟨ds, r, b⟩ := (fund_mk l c k n (v := .non) rfl).binds0 (ps := ["way", "upto"]) 1 (by simp) rfl fun D doc pm an cdv ct us ks hu hk => match us, ks, hu, hk with
    | [_], [_], _, _ => ⟨_, _, _, _, _, _, rfl, rfl, rfl⟩
  rw [non_of r] at b
  exact ⟨f, _, fun_mk l c k, PySem.W.mg_of X Gn a, k, b⟩
theorem bq_fm (X : K.In h) (Gn : h.Ns mainGlobals mg) (a : PySem.W.nsIn K mainGlobals "form" = some (some (.ref f))) (F : FunD K "form" "form" (defArgs sForm) (defBody sForm) (defScope sForm) [] [("upto", .non)] f fd) : Fp K mg := by
  obtain ⟨ds, r, b⟩ := F.binds0 (ps := ["way", "upto"]) 1 (by simp) rfl fun D doc pm an cdv ct us ks hu hk => match us, ks, hu, hk with
    | [_], [_], _, _ => ⟨_, _, _, _, _, _, rfl, rfl, rfl⟩
  rw [non_of r] at b
  exact ⟨f, fd, HN.funOf F, PySem.W.mg_of X Gn a, F.kp, b⟩
theorem kl_fa (F : Fun K "fate" "fate" sFate f fd) : KBinds K fd ["way", "body", "sealed"] ["sealed"] g21 g21 := by
  obtain ⟨oc, od, kV, doc, pm, an, cdv, ct, osl, rfl, lk, hcd⟩ := F.ex
  refine ⟨fun _ us ws _ hl => ?_, fun {vs us zs ws} r rz => rel21 r rz⟩
  match us, ws, hl with
  | [_, _], [_], _ => exact .of_eq rfl
theorem fk_fa (X : K.In h) (Gn : h.Ns mainGlobals mg) (a : PySem.W.nsIn K mainGlobals "fate" = some (some (.ref f))) (F : Fun K "fate" "fate" sFate f fd) : Ff K mg := ⟨f, fd, F, PySem.W.mg_of X Gn a, kl_fa F⟩
theorem fk_co (X : K.In h) (Gn : h.Ns mainGlobals mg) (a : PySem.W.nsIn K mainGlobals "chain_of" = some (some (.ref f))) (F : Fun K "chain_of" "chain_of" sChainOf f fd) : Fc K mg := ⟨f, fd, F, PySem.W.mg_of X Gn a, F.binds fun _ _ _ _ _ _ us hl => by obtain ⟨a0, rfl⟩ := ln1 hl; rfl⟩
theorem bn_mk (X : K.In h) (Gn : h.Ns mainGlobals mg) (a0 : PySem.W.nsIn K mainGlobals "isinstance" = some none) (a1 : PySem.W.nsIn K mainGlobals "bool" = some none) (a2 : PySem.W.nsIn K mainGlobals "int" = some none) (a3 : PySem.W.nsIn K mainGlobals "tuple" = some none) (a4 : PySem.W.nsIn K mainGlobals "list" = some none) (a5 : PySem.W.nsIn K mainGlobals "len" = some none) (a6 : PySem.W.nsIn K mainGlobals "range" = some none) (a7 : PySem.W.nsIn K mainGlobals "zip" = some none) (a8 : PySem.W.nsIn K mainGlobals "min" = some none) (a9 : PySem.W.nsIn K mainGlobals "max" = some none) (a10 : PySem.W.nsIn K mainGlobals "sorted" = some none) (a11 : PySem.W.nsIn K mainGlobals "set" = some none) (a12 : PySem.W.nsIn K mainGlobals "enumerate" = some none) : Bn mg := ⟨PySem.W.mg_none_of X Gn a0, PySem.W.mg_none_of X Gn a1, PySem.W.mg_none_of X Gn a2, PySem.W.mg_none_of X Gn a3, PySem.W.mg_none_of X Gn a4, PySem.W.mg_none_of X Gn a5, PySem.W.mg_none_of X Gn a6, PySem.W.mg_none_of X Gn a7, PySem.W.mg_none_of X Gn a8, PySem.W.mg_none_of X Gn a9, PySem.W.mg_none_of X Gn a10, PySem.W.mg_none_of X Gn a11, PySem.W.mg_none_of X Gn a12⟩
theorem no_mk {x : Str} (X : K.In h) (Gn : h.Ns mainGlobals mg) (a : PySem.W.nsIn K mainGlobals x = some none) : mg x = none := PySem.W.mg_none_of X Gn a
theorem ct_mk {C : Addr} (X : K.In h) (Gn : h.Ns mainGlobals mg) (cg : PySem.W.nsIn K mainGlobals "Chain" = some (some (.ref C))) (c1 : PySem.W.plainGet K C Str.empty = true) (c2 : PySem.W.hasDictIn K C = true) (c3 : PySem.W.plainOver K C = true) (c4 : PySem.W.findIn K (.ref C) "__setattr__" = some (some (.builtin "object.__setattr__")))
    (c5 : PySem.W.findIn K (.ref C) "cuts" = some none) (c6 : PySem.W.findIn K (.ref C) "_counts" = some none) : Ct K mg C := ⟨PySem.W.mg_of X Gn cg, ⟨c1, c2, c3, c4⟩, c5, c6⟩
theorem bt_mk {C : Addr} (X : K.In h) (Gn : h.Ns mainGlobals mg) (cg : PySem.W.nsIn K mainGlobals "BegunWay" = some (some (.ref C))) (c1 : PySem.W.plainGet K C Str.empty = true) (c2 : PySem.W.hasDictIn K C = true) (c3 : PySem.W.plainOver K C = true) (c4 : PySem.W.findIn K (.ref C) "__setattr__" = some (some (.builtin "object.__setattr__")))
    (c5 : PySem.W.findIn K (.ref C) "most" = some none) (c6 : PySem.W.findIn K (.ref C) "tells" = some none) (c7 : PySem.W.findIn K (.ref C) "head" = some none) (c8 : PySem.W.findIn K (.ref C) "steps" = some none) : Bt K mg C := ⟨PySem.W.mg_of X Gn cg, ⟨c1, c2, c3, c4⟩, c5, c6, c7, c8⟩
theorem rt_mk {C : Addr} (X : K.In h) (Gn : h.Ns mainGlobals mg) (cg : PySem.W.nsIn K mainGlobals "Reader" = some (some (.ref C))) (c1 : PySem.W.plainGet K C Str.empty = true) (c2 : PySem.W.hasDictIn K C = true) (c3 : PySem.W.plainOver K C = true) (c4 : PySem.W.findIn K (.ref C) "__setattr__" = some (some (.builtin "object.__setattr__")))
    (c5 : PySem.W.findIn K (.ref C) "_begun" = some none) (c6 : PySem.W.findIn K (.ref C) "_size" = some none) : Rt K mg C := ⟨PySem.W.mg_of X Gn cg, ⟨c1, c2, c3, c4⟩, c5, c6⟩
theorem str_mk {t : Tok} {x z : Str} (X : K.In h) (Gn : h.Ns mainGlobals mg) (d : PySem.W.nsIn K mainGlobals x = some (some (.str z t))) : ∃ t, mg x = some (.str z t) := ⟨t, PySem.W.mg_of X Gn d⟩
theorem num_mk {t : Tok} {x : Str} {n : Int} (X : K.In h) (Gn : h.Ns mainGlobals mg) (d : PySem.W.nsIn K mainGlobals x = some (some (.int n t))) : ∃ t, mg x = some (.int n t) := ⟨t, PySem.W.mg_of X Gn d⟩
theorem wt_mk {C aS aL aT : Addr} {t0 t1 t2 t3 t4 t5 u1 u2 u3 u4 u5 u6 u7 u8 : Tok} {dS dL dT : Option Addr} {nS nL nT : Nat} {sS sL sT : Array (Option Value)} (X : K.In h) (Gn : h.Ns mainGlobals mg) (cg : PySem.W.nsIn K mainGlobals "Way" = some (some (.ref C)))
    (c1 : PySem.W.plainGet K C Str.empty = true) (c2 : PySem.W.hasDictIn K C = true) (c3 : PySem.W.plainOver K C = true) (c4 : PySem.W.findIn K (.ref C) "__setattr__" = some (some (.builtin "object.__setattr__")))
    (c5 : PySem.W.findIn K (.ref C) "head" = some none) (c6 : PySem.W.findIn K (.ref C) "steps" = some none) (c7 : PySem.W.findIn K (.ref C) "depth" = some none) (c8 : PySem.W.findIn K (.ref C) "size" = some none)
    (iA : PySem.W.findIn K (.ref C) "__class__" = some (some (.builtin "object.__class__"))) (iN : PySem.W.specialIn K (.builtin "object.__class__") "__get__" = some (some (.builtin "getset_descriptor.__get__"))) (iT : PySem.W.takesIn K (.builtin "object.__class__") = some true) (iM : PySem.W.mroIn K C (.type "object") = some true)
    (d0 : PySem.W.nsIn K mainGlobals "GREATEST_HEAD" = some (some (.int 40 t0))) (d1 : PySem.W.nsIn K mainGlobals "GREATEST_ROAD" = some (some (.int 1000 t1))) (d2 : PySem.W.nsIn K mainGlobals "GREATEST_MOST" = some (some (.int 1000000000000 t2))) (d3 : PySem.W.nsIn K mainGlobals "MOST_STEPS" = some (some (.int 12 t3))) (d4 : PySem.W.nsIn K mainGlobals "GREATEST_DEPTH" = some (some (.int 3 t4))) (d5 : PySem.W.nsIn K mainGlobals "GREATEST_SIZE" = some (some (.int 40 t5)))
    (e1 : PySem.W.nsIn K mainGlobals "SEALED_WORDS" = some (some (.ref aS))) (f1 : K.lookup aS = some ⟨.type "tuple", dS, .seq [Value.str "tell" u1, .str "drop" u2].toArray nS, sS⟩)
    (e2 : PySem.W.nsIn K mainGlobals "LOOSE_WORDS" = some (some (.ref aL))) (f2 : K.lookup aL = some ⟨.type "tuple", dL, .seq [Value.str "cut" u3, .str "tell" u4, .str "drop" u5].toArray nL, sL⟩)
    (e3 : PySem.W.nsIn K mainGlobals "TELLS_WORDS" = some (some (.ref aT))) (f3 : K.lookup aT = some ⟨.type "tuple", dT, .seq [Value.str "turn" u6, .str "keep" u7, .str "lose" u8].toArray nT, sT⟩)     : WP.Wt K mg C :=
  ⟨PySem.W.mg_of X Gn cg, ⟨c1, c2, c3, c4⟩, c5, c6, c7, c8, iA, iN, iT, iM, ⟨_, PySem.W.mg_of X Gn d0⟩, ⟨_, PySem.W.mg_of X Gn d1⟩, ⟨_, PySem.W.mg_of X Gn d2⟩, ⟨_, PySem.W.mg_of X Gn d3⟩, ⟨_, PySem.W.mg_of X Gn d4⟩, ⟨_, PySem.W.mg_of X Gn d5⟩,
    ⟨_, PySem.W.mg_of X Gn e1, words_of f1 (by decide) (.cons ⟨_, rfl⟩ (.cons ⟨_, rfl⟩ .nil))⟩, ⟨_, PySem.W.mg_of X Gn e2, words_of f2 (by decide) (.cons ⟨_, rfl⟩ (.cons ⟨_, rfl⟩ (.cons ⟨_, rfl⟩ .nil)))⟩, ⟨_, PySem.W.mg_of X Gn e3, words_of f3 (by decide) (.cons ⟨_, rfl⟩ (.cons ⟨_, rfl⟩ (.cons ⟨_, rfl⟩ .nil)))⟩⟩
end
theorem all_mk {l : PySem.W.OpenLaw} {w : World} {K : PySem.W.Frag} {h : Heap} {mg : Str → Option Value} {fa C CW CR CB fIn fIw fIr fIb fWe fWa fPc fBd fX fE fA fG fTk fWo fWy fLv fTh fTs fTt fEi fLaw : Addr} {dIn dIw dIr dIb dWe dWa dPc dBd dX dE dA dG dTk dWo dWy dLv dTh dTs dTt dEi dLaw : FuncData} (X : K.In h) (Gn : h.Ns mainGlobals mg) (hfa : mg "law" = some (.ref fa)) (B : Bn mg) (hsum : mg "sum" = none) (hrep : mg "repr" = none) (hstr : mg "str" = none) (hall : mg "all" = none) (TB : Bt K mg CB) (TR : Rt K mg CR) (gD : ∃ t, mg "DIGITS" = some (.str "0123456789" t)) (gI : ∃ t, mg "INDENTATION" = some (.str "  " t)) (gMd : ∃ t, mg "MOST_DIGITS" = some (.int 60 t)) (T : Ct K mg C) (gC : ∃ t, mg "GREATEST_CUT" = some (.int 1000 t)) (nP : ∃ t, mg "NOTHING_PASSES" = some (.int (-1) t)) (gB : ∃ t, mg "GREATEST_BODY" = some (.int 1000000000000000000 t)) (T2 : Cn2 K C) (sfC : PySem.W.selfFirst K C = true) (nfG : PySem.W.fnIn K fG = true) (TW : WP.Wt K mg CW)
    (z_I : Fa K mg "is_integer" sInteger ["value"])
    (z_W : Fa K mg "is_within" sWithin ["value", "least", "greatest"])
    (z_ar : Fa K mg "_are_cuts" sAreCuts ["value"])
    (z_co : Fa K mg "_piece_counts" sCounts ["cuts"])
    (z_pi : Fa K mg "_pieces" sPieces ["body", "cuts", "counts"])
    (z_mk : Fa K mg "_marks" sMarks ["chain", "length"])
    (z_lp : Fa K mg "least_periods" sLeastP ["marks"])
    (z_bo : Fa K mg "borders" sBorders ["marks"])
    (z_fc : Fa K mg "_first_cut" sFirstCut ["chain"])
    (z_le : Fa K mg "_length" sLength ["places", "limit"])
    (z_wd : Fa K mg "_word" sWord ["road", "sealed"])
    (z_ga : Fa K mg "_gates_at" sGAt ["head", "step", "chain", "sealed"])
    (z_rg : Fa K mg "_road_gates" sRoadG ["head", "road", "chain", "sealed"])
    (z_lv : Fa K mg "_leaves_more" sLeaves ["chain", "stretch"])
    (z_mg : Fa K mg "_most_gates" sMostG ["most", "chain"])
    (z_tg : Fa K mg "_tunnel_gates" sTunG ["head", "tunnel", "chain", "sealed"])
    (z_tu : Fa K mg "_turned" sTurnG ["answer", "inner_head", "tells"])
    (z_cb : Fa K mg "chains_before" sChB ["way", "sealed"])
    (z_sr : Fa K mg "_stairs" sStairs ["way", "sealed", "upto"])
    (z_wr : Fa K mg "written_integer" sWritten ["word"])
    (z_tp : Fa K mg "_step" sTStep ["words", "head"])
    (z_tl2 : Fa K mg "_lines" sTLines ["way"])
    (z_wt : Fa K mg "way_text" sWText ["way"])
    (z_rw : Fa K mg "read_way" sRead ["text"])
    (z_be : Fa K mg "_law_bent_plan" sBent ["stream", "plan"])
    (z_ls : Fa K mg "_law_stream" S.sSource ["script", "start"])
    (z_ld : Fa K mg "_law_draw" S.sDraw ["stream", "size"])
    (z_lch : Fa K mg "_law_choose" S.sPick ["stream", "items"])
    (z_sm : Fa K mg "_law_same" S.sSame ["one", "two"])
    (z_pn : Fa K mg "_law_plan" sLPlan ["stream", "depth", "base"])
    (z_lm : Fa K mg "_law_most" sLMost ["stream"])
    (z_ps : Fa K mg "_law_plan_step" sLStep ["stream", "depth", "base", "head"])
    (z_lw : Fa K mg "_law_way" sLWay ["plan"])
    (z_B : Fa K mg "is_body" WP.sBody ["value"])
    (z_li : Fa K mg "is_step_list" WP.sList ["value"])
    (z_st : Fa K mg "_is_step" WP.sStep ["value", "head"])
    (z_rd : Fa K mg "is_road" WP.sRoad ["size", "sealed", "loose", "least"])
    (z_tl : Fa K mg "is_tells" WP.sTells ["value"])
    (z_mo : Fa K mg "is_most" WP.sMost ["value"])
    (z_hd : Fa K mg "is_head" WP.sHead ["value"])
    (z_gt : Fg K mg "gates" sGates ["way", "sealed"] ["sealed"]) (z_fm : Fp K mg) (z_lo : Fg K mg "lows" sLows ["way", "sealed"] ["sealed"]) (z_no : Fg K mg "normal" sNormal ["chain", "limit"] ["limit"]) (z_fa : Ff K mg) (z_cof : Fc K mg)
    (MI : Mk K C fIn) (FIn : Fun K "__init__" "Chain.__init__" sCInit fIn dIn) (MIw : Mk K CW fIw) (FIw : Fun K "__init__" "Way.__init__" WP.sInit fIw dIw)
    (mPc : Meth K C "pieces" fPc) (FPc : Fun K "pieces" "Chain.pieces" sCPieces fPc dPc)
    (mBd : Meth K C "_boundary" fBd) (FBd : Fun K "_boundary" "Chain._boundary" sCBoundary fBd dBd)
    (mX : Meth K C "stretch" fX) (FX : Fun K "stretch" "Chain.stretch" sCStretch fX dX)
    (oE : WO.Own K C fE "__eq__") (FE : Fun K "__eq__" "Chain.__eq__" sCEq fE dE) 
    (oA : WO.Own K C fA "__add__") (FA : Fun K "__add__" "Chain.__add__" sCAdd fA dA) 
    (oG : WO.Own K C fG "__getitem__") (FG : Fun K "__getitem__" "Chain.__getitem__" sCGet fG dG) 
    (MIr : Mk K CR fIr) (FIr : Fun K "__init__" "Reader.__init__" sRInit fIr dIr) (MIb : Mk K CB fIb) (FIb : Fun K "__init__" "BegunWay.__init__" sBInit fIb dIb)
    (oWe : WO.Own K CW fWe "__eq__") (FWe : Fun K "__eq__" "Way.__eq__" WP.sWEq fWe dWe) (oWa : WO.Own K CW fWa "__add__") (FWa : Fun K "__add__" "Way.__add__" EB.sAddW fWa dWa) (sfW : PySem.W.selfFirst K CW = true) (nB : PySem.W.findIn K (.ref CB) "__add__" = some none) (nR : PySem.W.findIn K (.ref CR) "__add__" = some none)
    (mTk : Meth K CR "takes" fTk) (FTk : Fun K "takes" "Reader.takes" sRTakes fTk dTk)
    (mWo : Meth K CR "is_whole" fWo) (FWo : Fun K "is_whole" "Reader.is_whole" sRWhole fWo dWo)
    (mWy : Meth K CR "way" fWy) (FWy : Fun K "way" "Reader.way" sRWay fWy dWy)
    (mLv : Meth K CR "_level" fLv) (FLv : Fun K "_level" "Reader._level" sRLevel fLv dLv)
    (mTh : Meth K CR "_takes_head" fTh) (FTh : Fun K "_takes_head" "Reader._takes_head" sRHead fTh dTh)
    (mTs : Meth K CR "_takes_step" fTs) (FTs : Fun K "_takes_step" "Reader._takes_step" sRStep fTs dTs)
    (mTt : Meth K CR "_takes_tunnel" fTt) (FTt : Fun K "_takes_tunnel" "Reader._takes_tunnel" sRTun fTt dTt)
    (mEi : Meth K CR "_end_inner" fEi) (FEi : Fun K "_end_inner" "Reader._end_inner" sREnd fEi dEi)
    (aL : PySem.W.nsIn K mainGlobals "law" = some (some (.ref fLaw))) (FLaw : Fun K "law" "law" sLaw fLaw dLaw) :
    ∃ fd : FuncData, (∀ (s : Shared) (u : Value), BindsTo s fd ⟨[u], []⟩ [("script", u)]) ∧ ∀ base : Heap, K.In base → base.Ns mainGlobals mg → G.Ok l.prog w K mg base CX0 21 fa fd ["script"] (spLaw K) := by
  have e := hfa.symm.trans (PySem.W.mg_of X Gn aL)
  cases e
  refine ⟨dLaw, ?_, fun base _ _ => ?_⟩
  · obtain ⟨_, _, _, _, _, _, _, _, _, rfl, _, _⟩ := FLaw.ex
    exact fun s u => .of_eq rfl
  have DI : Df l.prog w K mg base 1 "is_integer" ["value"] spInteger := z_I.df fun f fd F => ok_integer F B
  have DW : Df l.prog w K mg base 2 "is_within" ["value", "least", "greatest"] spWithin := z_W.df fun f fd F => ok_within F DI
  have DP : Df l.prog w K mg base 1 "_pieces" ["body", "cuts", "counts"] (spPieces K) := z_pi.df fun f fd F => ok_pieces F B
  have DC : Df l.prog w K mg base 2 "_piece_counts" ["cuts"] (spCounts K) := z_co.df fun f fd F => ok_counts F B DP
  have DA : Df l.prog w K mg base 3 "_are_cuts" ["value"] spAre := z_ar.df fun f fd F => ok_are F B gC DW
  have MW : Mw l.prog w K mg base C := ⟨fIn, dIn, ok_cinit FIn B T DA DC, MI, FIn.binds fun _ _ _ _ _ _ us hl => by obtain ⟨a0, a1, rfl⟩ := ln2 hl; rfl⟩
  have MP : Me l.prog w K mg base C 2 "pieces" ["self", "body"] (spCPieces C) := ⟨fPc, dPc, ok_cpieces FPc T DP, mPc, FPc.binds fun _ _ _ _ _ _ us hl => by obtain ⟨a0, a1, rfl⟩ := ln2 hl; rfl⟩
  have MB : Me l.prog w K mg base C 1 "_boundary" ["self", "number"] (spCBound C) := ⟨fBd, dBd, ok_cbound FBd B T, mBd, FBd.binds fun _ _ _ _ _ _ us hl => by obtain ⟨a0, a1, rfl⟩ := ln2 hl; rfl⟩
  have MX : Me l.prog w K mg base C 3 "stretch" ["self", "body", "number"] (spCStretch C) := ⟨fX, dX, ok_cstretch FX T DW MP MB, mX, FX.binds fun _ _ _ _ _ _ us hl => by obtain ⟨a0, a1, a2, rfl⟩ := ln3 hl; rfl⟩
  have DE : Oe l.prog w K mg base C 1 "__eq__" ["self", "other"] (spCEq C) := ⟨fE, dE, ok_ceq FE B T T2, oE, FE.binds fun _ _ _ _ _ _ us hl => by obtain ⟨a0, a1, rfl⟩ := ln2 hl; rfl⟩
  have DAd : Oq l.prog w K mg base C 6 "__add__" ["self", "other"] (spCAdd C) := ⟨fA, dA, ok_cadd FA B T gC MW, oA, FA.binds fun _ _ _ _ _ _ us hl => by obtain ⟨a0, a1, rfl⟩ := ln2 hl; rfl⟩
  have DGt : Op l.prog w K mg base C 2 "__getitem__" ["self", "at"] (spCGet C) := ⟨fG, dG, ok_cget FG B T DI MB, oG, FG.binds fun _ _ _ _ _ _ us hl => by obtain ⟨a0, a1, rfl⟩ := ln2 hl; rfl, nfG⟩
  have n1 : CW ≠ CB := ne_cls oWa.at' nB
  have n2 : CW ≠ CR := ne_cls oWa.at' nR
  have Bi : S.Bi mg := ⟨B.int, B.len⟩
  have DU : Df l.prog w K mg base 1 "_law_stream" ["script", "start"] (S.spSource K) := z_ls.df fun f fd F => S.ok_source F Bi
  have DR : Df l.prog w K mg base 1 "_law_draw" ["stream", "size"] S.spDraw := z_ld.df fun f fd F => S.ok_draw F Bi
  have DC2 : Df l.prog w K mg base 2 "_law_choose" ["stream", "items"] (S.spChoose K) := z_lch.df fun f fd F => S.ok_choose F B.len DR
  have DS : G.Du l.prog w K mg base 1 "_law_same" ["one", "two"] (S.spSame K) := by
    obtain ⟨f, fd, F, g1, g2, g3⟩ := z_sm.ex
    exact ⟨f, fd, S.ok_same F hrep, g1, g2, g3⟩
  have DM : Df l.prog w K mg base 1 "_marks" ["chain", "length"] (spMarks C) := z_mk.df fun f fd F => ok_marks F B T
  have DBo : Df l.prog w K mg base 1 "borders" ["marks"] spBorders := z_bo.df fun f fd F => ok_borders F
  have DLp : Df l.prog w K mg base 2 "least_periods" ["marks"] spLeastP := z_lp.df fun f fd F => ok_leastp F B DBo
  have DFc : Df l.prog w K mg base 1 "_first_cut" ["chain"] (spFirst C) := z_fc.df fun f fd F => ok_first F B T
  have DLe : Df l.prog w K mg base 1 "_length" ["places", "limit"] spLen := z_le.df fun f fd F => ok_length F B
  have DN : Dg l.prog w K mg base 6 "normal" ["chain", "limit"] ["limit"] (spNormal C) := z_no.d fun f fd F => ok_normal F B T MW DFc DLe DM DLp
  -- ways
  have BW : WP.Bn mg := ⟨B.isi, B.bool, B.int, B.tuple, B.list, B.len, B.enum, B.max, hsum⟩
  obtain ⟨fN, fdN, FN, gN, kN, bN⟩ := z_I.ex
  obtain ⟨fW, fdW, FW, gW, kW, bW⟩ := z_W.ex
  obtain ⟨tB, gB⟩ := gB
  obtain ⟨tM, gM⟩ := TW.gMost
  have W0 : WP.Wi l.prog w K mg base fW fdW := ⟨WP.ok_within FW BW FN gN bN, gW, kW, bW⟩
  have EW : WP.Df l.prog w K mg base 2 "is_within" ["value", "least", "greatest"] WP.spWithin := ⟨fW, fdW, W0.ok, gW, kW, bW⟩
  have DBd : Df l.prog w K mg base 3 "is_body" ["value"] (WP.spIn1 0 1000000000000000000) := z_B.df fun f fd F => WP.ok_body F W0 gB
  have EM : WP.Df l.prog w K mg base 3 "is_most" ["value"] (WP.spIn1 1 1000000000000) := z_mo.dw fun f fd F => WP.ok_most F W0 gM
  have ERd : WP.Df l.prog w K mg base 3 "is_road" ["size", "sealed", "loose", "least"] WP.spRoad := z_rd.dw fun f fd F => WP.ok_road F TW EW
  have ETn : WP.Df l.prog w K mg base 1 "is_tells" ["value"] WP.spTells := z_tl.dw fun f fd F => WP.ok_tells F TW
  obtain ⟨tH, gH⟩ := TW.gHead
  have EHd : WP.Df l.prog w K mg base 3 "is_head" ["value"] (WP.spIn1 1 40) := z_hd.dw fun f fd F => WP.ok_head F W0 gH
  have ELi : WP.Df l.prog w K mg base 1 "is_step_list" ["value"] (WP.spList K) := z_li.dw fun f fd F => WP.ok_list F BW TW
  have ESt : WP.Df l.prog w K mg base 5 "_is_step" ["value", "head"] (WP.spStep CW) := z_st.dw fun f fd F => WP.ok_step F BW TW ERd EM ETn
  have MWw : WP.Mw l.prog w K mg base CW := ⟨fIw, dIw, WP.ok_init FIw BW TW EHd ELi ESt, MIw, FIw.binds fun _ _ _ _ _ _ us hl => by obtain ⟨a0, a1, a2, rfl⟩ := ln3 hl; rfl⟩
  have EM2 : Df l.prog w K mg base 3 "is_most" ["value"] (WP.spIn1 1 1000000000000) := z_mo.df fun f fd F => WP.ok_most F W0 gM
  have ERd2 : Df l.prog w K mg base 3 "is_road" ["size", "sealed", "loose", "least"] WP.spRoad := z_rd.df fun f fd F => WP.ok_road F TW EW
  have ETn2 : Df l.prog w K mg base 1 "is_tells" ["value"] WP.spTells := z_tl.df fun f fd F => WP.ok_tells F TW
  have EHd2 : Df l.prog w K mg base 3 "is_head" ["value"] (WP.spIn1 1 40) := z_hd.df fun f fd F => WP.ok_head F W0 gH
  have DLm : Df l.prog w K mg base 3 "_law_most" ["stream"] spLMost := z_lm.df fun f fd F => ok_lmost F DR DC2
  have DPl2 : Df l.prog w K mg base 8 "_law_plan" ["stream", "depth", "base"] (spLPlan 2) := dl_plan B z_pn z_ps DR DC2 DLm 2
  have DPs : Df l.prog w K mg base 9 "_law_plan_step" ["stream", "depth", "base", "head"] (spLStep 2) := z_ps.df fun f fd F => ok_lstep F (by omega) B DR DC2 DLm DPl2
  have DPl : Df l.prog w K mg base 10 "_law_plan" ["stream", "depth", "base"] (spLPlan 3) := dl_plan B z_pn z_ps DR DC2 DLm 3
  have DBe : Df l.prog w K mg base 10 "_law_bent_plan" ["stream", "plan"] spBent := z_be.df fun f fd F => ok_bent F B DR DC2 DPs
  have DLw : Df l.prog w K mg base 11 "_law_way" ["plan"] (spLWay CW 3) := dl_way TW MWw z_lw 3
  -- gates
  have GWd : Df l.prog w K mg base 1 "_word" ["road", "sealed"] spWord := z_wd.df fun f fd F => ok_word F
  have GLv : Df l.prog w K mg base 1 "_leaves_more" ["chain", "stretch"] (spLeaves C) := z_lv.df fun f fd F => ok_leaves F B T
  have GTu : Df l.prog w K mg base 1 "_turned" ["answer", "inner_head", "tells"] spTurnG := z_tu.df fun f fd F => ok_turng F
  have GMg : Df l.prog w K mg base 4 "_most_gates" ["most", "chain"] (spMostG C) := z_mg.df fun f fd F => ok_mostg F B T DGt
  have GRg : Df l.prog w K mg base 2 "_road_gates" ["head", "road", "chain", "sealed"] (spRoadG C) := z_rg.df fun f fd F => ok_roadg F GWd GLv
  have GCb : Df l.prog w K mg base 7 "chains_before" ["way", "sealed"] (spChB C CW) := z_cb.df fun f fd F => ok_chb (sfC := sfC) F T TW MW DAd GWd
  have okG := dg_gates (P := l.prog) (w := w) (base := base) B T TW nP z_gt z_tg z_ga GMg GCb GLv GTu GRg 3 (by decide)
  have GG : Dg l.prog w K mg base 17 "gates" ["way", "sealed"] ["sealed"] (spGates CW 3) := z_gt.d okG
  have GGa : DGk l.prog w K mg base 17 (spGates CW 3) := by
    obtain ⟨f, fd, h1, h2, h3⟩ := z_gt.ex
    exact ⟨f, fd, okG f fd h1, h2, h1.kp, h3⟩
  have GLo : Dg l.prog w K mg base 18 "lows" ["way", "sealed"] ["sealed"] (spLows CW 3) := z_lo.d fun f fd F => ok_lows F B GG
  have GCo : Df l.prog w K mg base 8 "chain_of" ["way"] (spChainOf C CW) := by
    obtain ⟨f, fd, h1, h2, h3⟩ := z_cof.ex
    exact ⟨f, fd, ok_chainof h1 GCb, h2, h1.kp, h3⟩
  have GSt : Df l.prog w K mg base 19 "_stairs" ["way", "sealed", "upto"] (spStairs CW 3) := z_sr.df fun f fd F => ok_stairs F B GLo
  have GFm : DFp l.prog w K mg base 20 (spForm C CW 3) := by
    obtain ⟨f, fd, h1, h2, h3, h4⟩ := z_fm.ex
    exact ⟨f, fd, ok_form h1 (by decide) B GSt GCo DN, h2, h3, h4⟩
  have GFa : DFk l.prog w K mg base 19 (spFate C CW 3) := by
    obtain ⟨f, fd, h1, h2, h3⟩ := z_fa.ex
    exact ⟨f, fd, ok_fate h1 (by decide) T DBd GLo GCb MP MX, h2, h1.kp, h3⟩
  have DTl : Df l.prog w K mg base 4 "_lines" ["way"] (spTLines CW 3) := dl_tlines B hstr gI TW z_tl2 3
  have DWt : Df l.prog w K mg base 5 "way_text" ["way"] (spWText CW) := z_wt.df fun f fd F => ok_wtext F DTl
  have DWr : Df l.prog w K mg base 1 "written_integer" ["word"] spWritten := z_wr.df fun f fd F => ok_written F B hall gD gMd
  have DTs : Df l.prog w K mg base 4 "_step" ["words", "head"] (spTStep CW) := z_tp.df fun f fd F => ok_tstep F B DWr EM2 ERd2
  have NB : Mn l.prog w K mg base CB 1 ["self", "most", "tells"] (spBInit CB CW) := ⟨fIb, dIb, ok_binit FIb TB, MIb, FIb.binds fun _ _ _ _ _ _ us hl => by obtain ⟨a0, a1, a2, rfl⟩ := ln3 hl; rfl⟩
  have NR : Mn l.prog w K mg base CR 3 ["self"] (spRInit CR CB CW) := ⟨fIr, dIr, ok_rinit FIr TR TB NB, MIr, FIr.binds fun _ _ _ _ _ _ us hl => by obtain ⟨a0, rfl⟩ := ln1 hl; rfl⟩
  have RWo : Mr l.prog w K mg base CR 1 "is_whole" ["self"] (spWhole CR CB CW) := ⟨fWo, dWo, ok_whole FWo B TR TB, mWo, FWo.binds fun _ _ _ _ _ _ us hl => by obtain ⟨a0, rfl⟩ := ln1 hl; rfl⟩
  have RLv : Mr l.prog w K mg base CR 2 "_level" ["self", "line"] (spLevel CR CB CW) := ⟨fLv, dLv, ok_level FLv B TR gI RWo, mLv, FLv.binds fun _ _ _ _ _ _ us hl => by obtain ⟨a0, a1, rfl⟩ := ln2 hl; rfl⟩
  have RTh : Mr l.prog w K mg base CR 4 "_takes_head" ["self", "words"] (spTHead CR CB CW) := ⟨fTh, dTh, ok_thead n1 n2 FTh B TR TB DWr EHd2, mTh, FTh.binds fun _ _ _ _ _ _ us hl => by obtain ⟨a0, a1, rfl⟩ := ln2 hl; rfl⟩
  have REi : Mr l.prog w K mg base CR 8 "_end_inner" ["self"] (spREnd CR CB CW) := ⟨fEi, dEi, ok_rend n1 n2 FEi TR TB TW MWw, mEi, FEi.binds fun _ _ _ _ _ _ us hl => by obtain ⟨a0, rfl⟩ := ln1 hl; rfl⟩
  have RTt : Mr l.prog w K mg base CR 4 "_takes_tunnel" ["self", "words"] (spRTun CR CB CW) := ⟨fTt, dTt, ok_rtun n1 n2 FTt B TR TB TW DWr EM2 ETn2 NB, mTt, FTt.binds fun _ _ _ _ _ _ us hl => by obtain ⟨a0, a1, rfl⟩ := ln2 hl; rfl⟩
  have RTs : Mr l.prog w K mg base CR 5 "_takes_step" ["self", "words"] (spRStep CR CB CW) := ⟨fTs, dTs, ok_rstep n1 n2 FTs B TR TB TW DTs RTt, mTs, FTs.binds fun _ _ _ _ _ _ us hl => by obtain ⟨a0, a1, rfl⟩ := ln2 hl; rfl⟩
  have RTk : Mr l.prog w K mg base CR 9 "takes" ["self", "line"] (spTakes CR CB CW) := ⟨fTk, dTk, ok_takes n1 n2 FTk B TR TB gI RLv RTh REi RTs, mTk, FTk.binds fun _ _ _ _ _ _ us hl => by obtain ⟨a0, a1, rfl⟩ := ln2 hl; rfl⟩
  have RWy : Mr l.prog w K mg base CR 9 "way" ["self"] (spRWay CR CB CW) := ⟨fWy, dWy, ok_rway FWy B TR TB TW REi MWw, mWy, FWy.binds fun _ _ _ _ _ _ us hl => by obtain ⟨a0, rfl⟩ := ln1 hl; rfl⟩
  have DRw : Df l.prog w K mg base 10 "read_way" ["text"] (spRead CW) := z_rw.df fun f fd F => ok_read F B hstr TR NR RTk RWo RWy
  have bWe : Binds K dWe ["self", "other"] [] := FWe.binds fun _ _ _ _ _ _ us hl => by obtain ⟨a0, a1, rfl⟩ := ln2 hl; rfl
  have GEw : EwB l.prog w K mg base CW := ⟨fWe, dWe, EB.df_weqB FWe BW TW oWe bWe 3, oWe, bWe⟩
  have GAw : AwB l.prog w K mg base CW := ⟨fWa, dWa, EB.ok_addW FWa TW MWw, oWa, sfW, FWa.binds fun _ _ _ _ _ _ us hl => by obtain ⟨a0, a1, rfl⟩ := ln2 hl; rfl⟩
  exact ok_law FLaw B T2 DU DR DC2 DPl DBe DLw DS DWt DRw GFa GGa GFm DE GEw GAw
end CP

end
section
set_option Elab.async false
set_option linter.all false
set_option maxRecDepth 100000
set_option maxHeartbeats 0
/-! ## the head -/
namespace HT
open PySem PySem.Spec PyProof.Rows L2
def lo0 : List PySem.Str := ["GREATEST_BODY",
  "DIGITS",
  "MOST_DIGITS",
  "is_integer",
  "is_within",
  "is_body",
  "written_integer",
  "RoadError",
  "BadHead",
  "BadSteps",
  "BadStep",
  "TooDeep",
  "TooGreat",
  "OtherHead",
  "NoStep",
  "BadBody",
  "BadChain",
  "NoBoundary",
  "NoPiece",
  "BadText",
  "GREATEST_HEAD",
  "GREATEST_ROAD",
  "GREATEST_MOST",
  "MOST_STEPS",
  "GREATEST_DEPTH",
  "GREATEST_SIZE",
  "SEALED_WORDS",
  "LOOSE_WORDS",
  "TELLS_WORDS",
  "Way"]
def lo1 : List PySem.Str := ["is_head",
  "is_step_list",
  "is_road",
  "is_most",
  "is_tells",
  "_is_step",
  "INDENTATION",
  "way_text",
  "read_way",
  "_lines",
  "BegunWay",
  "Reader",
  "_step",
  "GREATEST_CUT",
  "Chain",
  "_are_cuts",
  "_piece_counts",
  "_pieces",
  "NOTHING_PASSES",
  "gates",
  "lows",
  "chains_before",
  "_word",
  "_gates_at",
  "_road_gates",
  "_leaves_more",
  "_most_gates",
  "_tunnel_gates",
  "_turned",
  "normal"]
def lo2 : List PySem.Str := ["least_periods",
  "borders",
  "_first_cut",
  "_length",
  "_marks",
  "chain_of",
  "form",
  "fate",
  "_stairs",
  "_law_stream",
  "_law_draw",
  "_law_choose",
  "_law_same",
  "_law_plan",
  "_law_most",
  "_law_plan_step",
  "_law_way",
  "_law_bent_plan"]
def lo : List PySem.Str := lo0 ++ lo1 ++ lo2
def fa0 : List He.Fa := [.free "isinstance",
  .free "bool",
  .free "int",
  .free "tuple",
  .free "list",
  .free "len",
  .free "range",
  .free "zip",
  .free "min",
  .free "max",
  .free "sorted",
  .free "set",
  .free "enumerate",
  .free "sum",
  .free "repr",
  .free "str",
  .free "all",
  .glo "BegunWay",
  .cls "BegunWay",
  .noat "BegunWay" "most",
  .noat "BegunWay" "tells",
  .noat "BegunWay" "head",
  .noat "BegunWay" "steps",
  .glo "Reader",
  .cls "Reader",
  .noat "Reader" "_begun",
  .noat "Reader" "_size",
  .str "DIGITS" "0123456789",
  .str "INDENTATION" "  ",
  .int "MOST_DIGITS" 60]
def fa1 : List He.Fa := [.glo "Chain",
  .cls "Chain",
  .noat "Chain" "cuts",
  .noat "Chain" "_counts",
  .int "GREATEST_CUT" 1000,
  .int "NOTHING_PASSES" (-1),
  .int "GREATEST_BODY" 1000000000000000000,
  .glo "Way",
  .cls "Way",
  .noat "Way" "head",
  .noat "Way" "steps",
  .noat "Way" "depth",
  .noat "Way" "size",
  .int "GREATEST_HEAD" 40,
  .int "GREATEST_ROAD" 1000,
  .int "GREATEST_MOST" 1000000000000,
  .int "MOST_STEPS" 12,
  .int "GREATEST_DEPTH" 3,
  .int "GREATEST_SIZE" 40,
  .glo "SEALED_WORDS",
  .glo "LOOSE_WORDS",
  .glo "TELLS_WORDS",
  .glo "is_integer",
  .glo "is_within",
  .glo "_are_cuts",
  .glo "_piece_counts",
  .glo "_pieces",
  .glo "_marks",
  .glo "least_periods",
  .glo "borders"]
def fa2 : List He.Fa := [.glo "_first_cut",
  .glo "_length",
  .glo "_word",
  .glo "_gates_at",
  .glo "_road_gates",
  .glo "_leaves_more",
  .glo "_most_gates",
  .glo "_tunnel_gates",
  .glo "_turned",
  .glo "chains_before",
  .glo "_stairs",
  .glo "written_integer",
  .glo "_step",
  .glo "_lines",
  .glo "way_text",
  .glo "read_way",
  .glo "_law_bent_plan",
  .glo "_law_stream",
  .glo "_law_draw",
  .glo "_law_choose",
  .glo "_law_same",
  .glo "_law_plan",
  .glo "_law_most",
  .glo "_law_plan_step",
  .glo "_law_way",
  .glo "is_body",
  .glo "is_step_list",
  .glo "_is_step",
  .glo "is_road",
  .glo "is_tells"]
def fa3 : List He.Fa := [.glo "is_most",
  .glo "is_head",
  .glo "gates",
  .glo "form",
  .glo "lows",
  .glo "normal",
  .glo "fate",
  .glo "chain_of",
  .mkr "Chain",
  .mkr "Way",
  .meth "Chain" "pieces",
  .meth "Chain" "_boundary",
  .meth "Chain" "stretch",
  .meth "Chain" "__eq__",
  .meth "Chain" "__add__",
  .meth "Chain" "__getitem__",
  .mkr "Reader",
  .mkr "BegunWay",
  .meth "Way" "__eq__",
  .meth "Way" "__add__",
  .noat "BegunWay" "__add__",
  .noat "Reader" "__add__",
  .meth "Reader" "takes",
  .meth "Reader" "is_whole",
  .meth "Reader" "way",
  .meth "Reader" "_level",
  .meth "Reader" "_takes_head",
  .meth "Reader" "_takes_step",
  .meth "Reader" "_takes_tunnel",
  .meth "Reader" "_end_inner"]
def fa4 : List He.Fa := [.glo "law"]
def fa : List He.Fa := fa0 ++ fa1 ++ fa2 ++ fa3 ++ fa4
def fn0 : List He.DefD := [⟨("is_integer", none), "is_integer", "is_integer", defArgs CP.sInteger, defBody CP.sInteger, defScope CP.sInteger, [], []⟩,
  ⟨("is_within", none), "is_within", "is_within", defArgs CP.sWithin, defBody CP.sWithin, defScope CP.sWithin, [], []⟩,
  ⟨("_are_cuts", none), "_are_cuts", "_are_cuts", defArgs CP.sAreCuts, defBody CP.sAreCuts, defScope CP.sAreCuts, [], []⟩,
  ⟨("_piece_counts", none), "_piece_counts", "_piece_counts", defArgs CP.sCounts, defBody CP.sCounts, defScope CP.sCounts, [], []⟩,
  ⟨("_pieces", none), "_pieces", "_pieces", defArgs CP.sPieces, defBody CP.sPieces, defScope CP.sPieces, [], []⟩,
  ⟨("_marks", none), "_marks", "_marks", defArgs CP.sMarks, defBody CP.sMarks, defScope CP.sMarks, [], []⟩,
  ⟨("least_periods", none), "least_periods", "least_periods", defArgs CP.sLeastP, defBody CP.sLeastP, defScope CP.sLeastP, [], []⟩,
  ⟨("borders", none), "borders", "borders", defArgs CP.sBorders, defBody CP.sBorders, defScope CP.sBorders, [], []⟩,
  ⟨("_first_cut", none), "_first_cut", "_first_cut", defArgs CP.sFirstCut, defBody CP.sFirstCut, defScope CP.sFirstCut, [], []⟩,
  ⟨("_length", none), "_length", "_length", defArgs CP.sLength, defBody CP.sLength, defScope CP.sLength, [], []⟩,
  ⟨("_word", none), "_word", "_word", defArgs CP.sWord, defBody CP.sWord, defScope CP.sWord, [], []⟩,
  ⟨("_gates_at", none), "_gates_at", "_gates_at", defArgs CP.sGAt, defBody CP.sGAt, defScope CP.sGAt, [], []⟩,
  ⟨("_road_gates", none), "_road_gates", "_road_gates", defArgs CP.sRoadG, defBody CP.sRoadG, defScope CP.sRoadG, [], []⟩,
  ⟨("_leaves_more", none), "_leaves_more", "_leaves_more", defArgs CP.sLeaves, defBody CP.sLeaves, defScope CP.sLeaves, [], []⟩,
  ⟨("_most_gates", none), "_most_gates", "_most_gates", defArgs CP.sMostG, defBody CP.sMostG, defScope CP.sMostG, [], []⟩,
  ⟨("_tunnel_gates", none), "_tunnel_gates", "_tunnel_gates", defArgs CP.sTunG, defBody CP.sTunG, defScope CP.sTunG, [], []⟩,
  ⟨("_turned", none), "_turned", "_turned", defArgs CP.sTurnG, defBody CP.sTurnG, defScope CP.sTurnG, [], []⟩,
  ⟨("chains_before", none), "chains_before", "chains_before", defArgs CP.sChB, defBody CP.sChB, defScope CP.sChB, [], []⟩,
  ⟨("_stairs", none), "_stairs", "_stairs", defArgs CP.sStairs, defBody CP.sStairs, defScope CP.sStairs, [], []⟩,
  ⟨("written_integer", none), "written_integer", "written_integer", defArgs CP.sWritten, defBody CP.sWritten, defScope CP.sWritten, [], []⟩,
  ⟨("_step", none), "_step", "_step", defArgs CP.sTStep, defBody CP.sTStep, defScope CP.sTStep, [], []⟩,
  ⟨("_lines", none), "_lines", "_lines", defArgs CP.sTLines, defBody CP.sTLines, defScope CP.sTLines, [], []⟩,
  ⟨("way_text", none), "way_text", "way_text", defArgs CP.sWText, defBody CP.sWText, defScope CP.sWText, [], []⟩,
  ⟨("read_way", none), "read_way", "read_way", defArgs CP.sRead, defBody CP.sRead, defScope CP.sRead, [], []⟩,
  ⟨("_law_bent_plan", none), "_law_bent_plan", "_law_bent_plan", defArgs CP.sBent, defBody CP.sBent, defScope CP.sBent, [], []⟩,
  ⟨("_law_stream", none), "_law_stream", "_law_stream", defArgs S.sSource, defBody S.sSource, defScope S.sSource, [], []⟩,
  ⟨("_law_draw", none), "_law_draw", "_law_draw", defArgs S.sDraw, defBody S.sDraw, defScope S.sDraw, [], []⟩,
  ⟨("_law_choose", none), "_law_choose", "_law_choose", defArgs S.sPick, defBody S.sPick, defScope S.sPick, [], []⟩,
  ⟨("_law_same", none), "_law_same", "_law_same", defArgs S.sSame, defBody S.sSame, defScope S.sSame, [], []⟩,
  ⟨("_law_plan", none), "_law_plan", "_law_plan", defArgs CP.sLPlan, defBody CP.sLPlan, defScope CP.sLPlan, [], []⟩]
def fn1 : List He.DefD := [⟨("_law_most", none), "_law_most", "_law_most", defArgs CP.sLMost, defBody CP.sLMost, defScope CP.sLMost, [], []⟩,
  ⟨("_law_plan_step", none), "_law_plan_step", "_law_plan_step", defArgs CP.sLStep, defBody CP.sLStep, defScope CP.sLStep, [], []⟩,
  ⟨("_law_way", none), "_law_way", "_law_way", defArgs CP.sLWay, defBody CP.sLWay, defScope CP.sLWay, [], []⟩,
  ⟨("is_body", none), "is_body", "is_body", defArgs WP.sBody, defBody WP.sBody, defScope WP.sBody, [], []⟩,
  ⟨("is_step_list", none), "is_step_list", "is_step_list", defArgs WP.sList, defBody WP.sList, defScope WP.sList, [], []⟩,
  ⟨("_is_step", none), "_is_step", "_is_step", defArgs WP.sStep, defBody WP.sStep, defScope WP.sStep, [], []⟩,
  ⟨("is_road", none), "is_road", "is_road", defArgs WP.sRoad, defBody WP.sRoad, defScope WP.sRoad, [], []⟩,
  ⟨("is_tells", none), "is_tells", "is_tells", defArgs WP.sTells, defBody WP.sTells, defScope WP.sTells, [], []⟩,
  ⟨("is_most", none), "is_most", "is_most", defArgs WP.sMost, defBody WP.sMost, defScope WP.sMost, [], []⟩,
  ⟨("is_head", none), "is_head", "is_head", defArgs WP.sHead, defBody WP.sHead, defScope WP.sHead, [], []⟩,
  ⟨("gates", none), "gates", "gates", defArgs CP.sGates, defBody CP.sGates, defScope CP.sGates, [], [("sealed", .bl false)]⟩,
  ⟨("form", none), "form", "form", defArgs CP.sForm, defBody CP.sForm, defScope CP.sForm, [], [("upto", .non)]⟩,
  ⟨("lows", none), "lows", "lows", defArgs CP.sLows, defBody CP.sLows, defScope CP.sLows, [], [("sealed", .bl false)]⟩,
  ⟨("normal", none), "normal", "normal", defArgs CP.sNormal, defBody CP.sNormal, defScope CP.sNormal, [], [("limit", .non)]⟩,
  ⟨("fate", none), "fate", "fate", defArgs CP.sFate, defBody CP.sFate, defScope CP.sFate, [], [("sealed", .bl false)]⟩,
  ⟨("chain_of", none), "chain_of", "chain_of", defArgs CP.sChainOf, defBody CP.sChainOf, defScope CP.sChainOf, [], []⟩,
  ⟨("Chain", some "__init__"), "__init__", "Chain.__init__", defArgs CP.sCInit, defBody CP.sCInit, defScope CP.sCInit, [], []⟩,
  ⟨("Way", some "__init__"), "__init__", "Way.__init__", defArgs WP.sInit, defBody WP.sInit, defScope WP.sInit, [], []⟩,
  ⟨("Chain", some "pieces"), "pieces", "Chain.pieces", defArgs CP.sCPieces, defBody CP.sCPieces, defScope CP.sCPieces, [], []⟩,
  ⟨("Chain", some "_boundary"), "_boundary", "Chain._boundary", defArgs CP.sCBoundary, defBody CP.sCBoundary, defScope CP.sCBoundary, [], []⟩,
  ⟨("Chain", some "stretch"), "stretch", "Chain.stretch", defArgs CP.sCStretch, defBody CP.sCStretch, defScope CP.sCStretch, [], []⟩,
  ⟨("Chain", some "__eq__"), "__eq__", "Chain.__eq__", defArgs CP.sCEq, defBody CP.sCEq, defScope CP.sCEq, [], []⟩,
  ⟨("Chain", some "__add__"), "__add__", "Chain.__add__", defArgs CP.sCAdd, defBody CP.sCAdd, defScope CP.sCAdd, [], []⟩,
  ⟨("Chain", some "__getitem__"), "__getitem__", "Chain.__getitem__", defArgs CP.sCGet, defBody CP.sCGet, defScope CP.sCGet, [], []⟩,
  ⟨("Reader", some "__init__"), "__init__", "Reader.__init__", defArgs CP.sRInit, defBody CP.sRInit, defScope CP.sRInit, [], []⟩,
  ⟨("BegunWay", some "__init__"), "__init__", "BegunWay.__init__", defArgs CP.sBInit, defBody CP.sBInit, defScope CP.sBInit, [], []⟩,
  ⟨("Way", some "__eq__"), "__eq__", "Way.__eq__", defArgs WP.sWEq, defBody WP.sWEq, defScope WP.sWEq, [], []⟩,
  ⟨("Way", some "__add__"), "__add__", "Way.__add__", defArgs EB.sAddW, defBody EB.sAddW, defScope EB.sAddW, [], []⟩,
  ⟨("Reader", some "takes"), "takes", "Reader.takes", defArgs CP.sRTakes, defBody CP.sRTakes, defScope CP.sRTakes, [], []⟩,
  ⟨("Reader", some "is_whole"), "is_whole", "Reader.is_whole", defArgs CP.sRWhole, defBody CP.sRWhole, defScope CP.sRWhole, [], []⟩]
def fn2 : List He.DefD := [⟨("Reader", some "way"), "way", "Reader.way", defArgs CP.sRWay, defBody CP.sRWay, defScope CP.sRWay, [], []⟩,
  ⟨("Reader", some "_level"), "_level", "Reader._level", defArgs CP.sRLevel, defBody CP.sRLevel, defScope CP.sRLevel, [], []⟩,
  ⟨("Reader", some "_takes_head"), "_takes_head", "Reader._takes_head", defArgs CP.sRHead, defBody CP.sRHead, defScope CP.sRHead, [], []⟩,
  ⟨("Reader", some "_takes_step"), "_takes_step", "Reader._takes_step", defArgs CP.sRStep, defBody CP.sRStep, defScope CP.sRStep, [], []⟩,
  ⟨("Reader", some "_takes_tunnel"), "_takes_tunnel", "Reader._takes_tunnel", defArgs CP.sRTun, defBody CP.sRTun, defScope CP.sRTun, [], []⟩,
  ⟨("Reader", some "_end_inner"), "_end_inner", "Reader._end_inner", defArgs CP.sREnd, defBody CP.sREnd, defScope CP.sREnd, [], []⟩,
  ⟨("law", none), "law", "law", defArgs CP.sLaw, defBody CP.sLaw, defScope CP.sLaw, [], []⟩]
def fn : List He.DefD := fn0 ++ fn1 ++ fn2
def ex0 : List HN.Ex := [fun K => He.eqO (PySem.W.findIn K (.ref (He.ga K "Chain")) "__class__") (some (some (.builtin "object.__class__"))),
  fun K => He.eqO (PySem.W.specialIn K (.builtin "object.__class__") "__get__") (some (some (.builtin "getset_descriptor.__get__"))),
  fun K => decide (PySem.W.takesIn K (.builtin "object.__class__") = some true),
  fun K => decide (PySem.W.mroIn K (He.ga K "Chain") (.type "object") = some true),
  fun K => He.eqO (PySem.W.findIn K (.ref (He.ga K "Chain")) "__ne__") (some (some (.builtin "object.__ne__"))),
  fun K => PySem.W.selfFirst K (He.ga K "Chain"),
  fun K => PySem.W.fnIn K (He.ma K (He.ga K "Chain") "__getitem__"),
  fun K => He.eqO (PySem.W.findIn K (.ref (He.ga K "Way")) "__class__") (some (some (.builtin "object.__class__"))),
  fun K => decide (PySem.W.mroIn K (He.ga K "Way") (.type "object") = some true),
  fun K => He.tupB K "SEALED_WORDS" [.str "tell", .str "drop"],
  fun K => He.tupB K "LOOSE_WORDS" [.str "cut", .str "tell", .str "drop"],
  fun K => He.tupB K "TELLS_WORDS" [.str "turn", .str "keep", .str "lose"],
  fun K => PySem.W.selfFirst K (He.ga K "Way")]
def ex : List HN.Ex := ex0
abbrev R : PySem.W.OpenRow := PySem.W.OpenLaw.row PySem.Challenge.rw_roadsizes_k82_whole_texts_and_fates
abbrev hk : PySem.W.Hook := HN.hookX fa fn ex
def ob (s : PySem.W.SharedT) : HN.AlX := HN.obsG fa fn ex (HandSHeadRun.getT s)
theorem ob_eq (s : PySem.W.SharedT) : ob s = hk.obs s.abs := HN.obsG_eq (HandSHeadRun.getT_eq s)
theorem run (w : World) : HandSHeadRun.RunEq R (PySem.W.view R.prog [87]) hk ob 6700 lo w := by
  intro os
  kernel_rfl
theorem facts {l : PySem.W.OpenLaw} {w : World} {K : PySem.W.Frag} {h : Heap} {mg : Str → Option Value} {f : Addr} (KX : K.In h) (hNs : h.Ns mainGlobals mg) (hmg : mg "law" = some (.ref f)) (c : HN.Says fa fn ex K) :
    ∃ fd : FuncData, (∀ (s : Shared) (u : Value), BindsTo s fd ⟨[u], []⟩ [("script", u)]) ∧ ∀ base : Heap, K.In base → base.Ns mainGlobals mg → G.Ok l.prog w K mg base CX0 21 f fd ["script"] (CP.spLaw K) :=
  CP.all_mk KX hNs hmg ⟨(He.free_ok KX hNs (c.fact 0 _ rfl)), (He.free_ok KX hNs (c.fact 1 _ rfl)), (He.free_ok KX hNs (c.fact 2 _ rfl)), (He.free_ok KX hNs (c.fact 3 _ rfl)), (He.free_ok KX hNs (c.fact 4 _ rfl)), (He.free_ok KX hNs (c.fact 5 _ rfl)), (He.free_ok KX hNs (c.fact 6 _ rfl)), (He.free_ok KX hNs (c.fact 7 _ rfl)), (He.free_ok KX hNs (c.fact 8 _ rfl)), (He.free_ok KX hNs (c.fact 9 _ rfl)), (He.free_ok KX hNs (c.fact 10 _ rfl)), (He.free_ok KX hNs (c.fact 11 _ rfl)), (He.free_ok KX hNs (c.fact 12 _ rfl))⟩ (He.free_ok KX hNs (c.fact 13 _ rfl)) (He.free_ok KX hNs (c.fact 14 _ rfl)) (He.free_ok KX hNs (c.fact 15 _ rfl)) (He.free_ok KX hNs (c.fact 16 _ rfl)) ⟨(He.glo_ok KX hNs (c.fact 17 _ rfl)), (He.cls_ok (c.fact 18 _ rfl)), (He.noat_ok (c.fact 19 _ rfl)), (He.noat_ok (c.fact 20 _ rfl)), (He.noat_ok (c.fact 21 _ rfl)), (He.noat_ok (c.fact 22 _ rfl))⟩ ⟨(He.glo_ok KX hNs (c.fact 23 _ rfl)), (He.cls_ok (c.fact 24 _ rfl)), (He.noat_ok (c.fact 25 _ rfl)), (He.noat_ok (c.fact 26 _ rfl))⟩ (He.str_ok KX hNs (c.fact 27 _ rfl)) (He.str_ok KX hNs (c.fact 28 _ rfl)) (He.int_ok KX hNs (c.fact 29 _ rfl))
    ⟨(He.glo_ok KX hNs (c.fact 30 _ rfl)), (He.cls_ok (c.fact 31 _ rfl)), (He.noat_ok (c.fact 32 _ rfl)), (He.noat_ok (c.fact 33 _ rfl))⟩ (He.int_ok KX hNs (c.fact 34 _ rfl)) (He.int_ok KX hNs (c.fact 35 _ rfl)) (He.int_ok KX hNs (c.fact 36 _ rfl))
    ⟨(He.eqO_ok (c.look 0 _ rfl)), (He.eqO_ok (c.look 1 _ rfl)), (of_decide_eq_true (c.look 2 _ rfl)), (of_decide_eq_true (c.look 3 _ rfl)), (He.eqO_ok (c.look 4 _ rfl))⟩ (c.look 5 _ rfl) (c.look 6 _ rfl)
    ⟨(He.glo_ok KX hNs (c.fact 37 _ rfl)), (He.cls_ok (c.fact 38 _ rfl)), (He.noat_ok (c.fact 39 _ rfl)), (He.noat_ok (c.fact 40 _ rfl)), (He.noat_ok (c.fact 41 _ rfl)), (He.noat_ok (c.fact 42 _ rfl)), (He.eqO_ok (c.look 7 _ rfl)), (He.eqO_ok (c.look 1 _ rfl)), (of_decide_eq_true (c.look 2 _ rfl)), (of_decide_eq_true (c.look 8 _ rfl)), (He.int_ok KX hNs (c.fact 43 _ rfl)), (He.int_ok KX hNs (c.fact 44 _ rfl)), (He.int_ok KX hNs (c.fact 45 _ rfl)), (He.int_ok KX hNs (c.fact 46 _ rfl)), (He.int_ok KX hNs (c.fact 47 _ rfl)), (He.int_ok KX hNs (c.fact 48 _ rfl)), ⟨_, (He.glo_ok KX hNs (c.fact 49 _ rfl)), fun H => He.tupB_ok (vs := [.str "tell", .str "drop"]) (c.look 9 _ rfl) H⟩, ⟨_, (He.glo_ok KX hNs (c.fact 50 _ rfl)), fun H => He.tupB_ok (vs := [.str "cut", .str "tell", .str "drop"]) (c.look 10 _ rfl) H⟩, ⟨_, (He.glo_ok KX hNs (c.fact 51 _ rfl)), fun H => He.tupB_ok (vs := [.str "turn", .str "keep", .str "lose"]) (c.look 11 _ rfl) H⟩⟩
    (CP.fd_I KX hNs (He.eqO_ok (c.fact 52 _ rfl)) (HN.funOf (c.def_ 0 _ rfl).choose_spec))
    (CP.fd_W KX hNs (He.eqO_ok (c.fact 53 _ rfl)) (HN.funOf (c.def_ 1 _ rfl).choose_spec))
    (CP.fd_ar KX hNs (He.eqO_ok (c.fact 54 _ rfl)) (HN.funOf (c.def_ 2 _ rfl).choose_spec))
    (CP.fd_co KX hNs (He.eqO_ok (c.fact 55 _ rfl)) (HN.funOf (c.def_ 3 _ rfl).choose_spec))
    (CP.fd_pi KX hNs (He.eqO_ok (c.fact 56 _ rfl)) (HN.funOf (c.def_ 4 _ rfl).choose_spec))
    (CP.fd_mk KX hNs (He.eqO_ok (c.fact 57 _ rfl)) (HN.funOf (c.def_ 5 _ rfl).choose_spec))
    (CP.fd_lp KX hNs (He.eqO_ok (c.fact 58 _ rfl)) (HN.funOf (c.def_ 6 _ rfl).choose_spec))
    (CP.fd_bo KX hNs (He.eqO_ok (c.fact 59 _ rfl)) (HN.funOf (c.def_ 7 _ rfl).choose_spec))
    (CP.fd_fc KX hNs (He.eqO_ok (c.fact 60 _ rfl)) (HN.funOf (c.def_ 8 _ rfl).choose_spec))
    (CP.fd_le KX hNs (He.eqO_ok (c.fact 61 _ rfl)) (HN.funOf (c.def_ 9 _ rfl).choose_spec))
    (CP.fd_wd KX hNs (He.eqO_ok (c.fact 62 _ rfl)) (HN.funOf (c.def_ 10 _ rfl).choose_spec))
    (CP.fd_ga KX hNs (He.eqO_ok (c.fact 63 _ rfl)) (HN.funOf (c.def_ 11 _ rfl).choose_spec))
    (CP.fd_rg KX hNs (He.eqO_ok (c.fact 64 _ rfl)) (HN.funOf (c.def_ 12 _ rfl).choose_spec))
    (CP.fd_lv KX hNs (He.eqO_ok (c.fact 65 _ rfl)) (HN.funOf (c.def_ 13 _ rfl).choose_spec))
    (CP.fd_mg KX hNs (He.eqO_ok (c.fact 66 _ rfl)) (HN.funOf (c.def_ 14 _ rfl).choose_spec))
    (CP.fd_tg KX hNs (He.eqO_ok (c.fact 67 _ rfl)) (HN.funOf (c.def_ 15 _ rfl).choose_spec))
    (CP.fd_tu KX hNs (He.eqO_ok (c.fact 68 _ rfl)) (HN.funOf (c.def_ 16 _ rfl).choose_spec))
    (CP.fd_cb KX hNs (He.eqO_ok (c.fact 69 _ rfl)) (HN.funOf (c.def_ 17 _ rfl).choose_spec))
    (CP.fd_sr KX hNs (He.eqO_ok (c.fact 70 _ rfl)) (HN.funOf (c.def_ 18 _ rfl).choose_spec))
    (CP.fd_wr KX hNs (He.eqO_ok (c.fact 71 _ rfl)) (HN.funOf (c.def_ 19 _ rfl).choose_spec))
    (CP.fd_tp KX hNs (He.eqO_ok (c.fact 72 _ rfl)) (HN.funOf (c.def_ 20 _ rfl).choose_spec))
    (CP.fd_tl2 KX hNs (He.eqO_ok (c.fact 73 _ rfl)) (HN.funOf (c.def_ 21 _ rfl).choose_spec))
    (CP.fd_wt KX hNs (He.eqO_ok (c.fact 74 _ rfl)) (HN.funOf (c.def_ 22 _ rfl).choose_spec))
    (CP.fd_rw KX hNs (He.eqO_ok (c.fact 75 _ rfl)) (HN.funOf (c.def_ 23 _ rfl).choose_spec))
    (CP.fd_be KX hNs (He.eqO_ok (c.fact 76 _ rfl)) (HN.funOf (c.def_ 24 _ rfl).choose_spec))
    (CP.fd_ls KX hNs (He.eqO_ok (c.fact 77 _ rfl)) (HN.funOf (c.def_ 25 _ rfl).choose_spec))
    (CP.fd_ld KX hNs (He.eqO_ok (c.fact 78 _ rfl)) (HN.funOf (c.def_ 26 _ rfl).choose_spec))
    (CP.fd_lch KX hNs (He.eqO_ok (c.fact 79 _ rfl)) (HN.funOf (c.def_ 27 _ rfl).choose_spec))
    (CP.fd_sm KX hNs (He.eqO_ok (c.fact 80 _ rfl)) (HN.funOf (c.def_ 28 _ rfl).choose_spec))
    (CP.fd_pn KX hNs (He.eqO_ok (c.fact 81 _ rfl)) (HN.funOf (c.def_ 29 _ rfl).choose_spec))
    (CP.fd_lm KX hNs (He.eqO_ok (c.fact 82 _ rfl)) (HN.funOf (c.def_ 30 _ rfl).choose_spec))
    (CP.fd_ps KX hNs (He.eqO_ok (c.fact 83 _ rfl)) (HN.funOf (c.def_ 31 _ rfl).choose_spec))
    (CP.fd_lw KX hNs (He.eqO_ok (c.fact 84 _ rfl)) (HN.funOf (c.def_ 32 _ rfl).choose_spec))
    (CP.fd_B KX hNs (He.eqO_ok (c.fact 85 _ rfl)) (HN.funOf (c.def_ 33 _ rfl).choose_spec))
    (CP.fd_li KX hNs (He.eqO_ok (c.fact 86 _ rfl)) (HN.funOf (c.def_ 34 _ rfl).choose_spec))
    (CP.fd_st KX hNs (He.eqO_ok (c.fact 87 _ rfl)) (HN.funOf (c.def_ 35 _ rfl).choose_spec))
    (CP.fd_rd KX hNs (He.eqO_ok (c.fact 88 _ rfl)) (HN.funOf (c.def_ 36 _ rfl).choose_spec))
    (CP.fd_tl KX hNs (He.eqO_ok (c.fact 89 _ rfl)) (HN.funOf (c.def_ 37 _ rfl).choose_spec))
    (CP.fd_mo KX hNs (He.eqO_ok (c.fact 90 _ rfl)) (HN.funOf (c.def_ 38 _ rfl).choose_spec))
    (CP.fd_hd KX hNs (He.eqO_ok (c.fact 91 _ rfl)) (HN.funOf (c.def_ 39 _ rfl).choose_spec))
    (CP.fk_gt KX hNs (He.eqO_ok (c.fact 92 _ rfl)) (HN.funOf (c.def_ 40 _ rfl).choose_spec))
    (CP.bq_fm KX hNs (He.eqO_ok (c.fact 93 _ rfl)) (c.def_ 41 _ rfl).choose_spec)
    (CP.fk_lo KX hNs (He.eqO_ok (c.fact 94 _ rfl)) (HN.funOf (c.def_ 42 _ rfl).choose_spec))
    (CP.fk_no KX hNs (He.eqO_ok (c.fact 95 _ rfl)) (HN.funOf (c.def_ 43 _ rfl).choose_spec))
    (CP.fk_fa KX hNs (He.eqO_ok (c.fact 96 _ rfl)) (HN.funOf (c.def_ 44 _ rfl).choose_spec))
    (CP.fk_co KX hNs (He.eqO_ok (c.fact 97 _ rfl)) (HN.funOf (c.def_ 45 _ rfl).choose_spec))
    (He.mkr_ok (c.fact 98 _ rfl)) (HN.funOf (c.def_ 46 _ rfl).choose_spec) (He.mkr_ok (c.fact 99 _ rfl)) (HN.funOf (c.def_ 47 _ rfl).choose_spec)
    (He.meth_ok (c.fact 100 _ rfl)) (HN.funOf (c.def_ 48 _ rfl).choose_spec)
    (He.meth_ok (c.fact 101 _ rfl)) (HN.funOf (c.def_ 49 _ rfl).choose_spec)
    (He.meth_ok (c.fact 102 _ rfl)) (HN.funOf (c.def_ 50 _ rfl).choose_spec)
    ⟨(He.meth_ok (c.fact 103 _ rfl)).1, (He.meth_ok (c.fact 103 _ rfl)).2⟩ (HN.funOf (c.def_ 51 _ rfl).choose_spec)
    ⟨(He.meth_ok (c.fact 104 _ rfl)).1, (He.meth_ok (c.fact 104 _ rfl)).2⟩ (HN.funOf (c.def_ 52 _ rfl).choose_spec)
    ⟨(He.meth_ok (c.fact 105 _ rfl)).1, (He.meth_ok (c.fact 105 _ rfl)).2⟩ (HN.funOf (c.def_ 53 _ rfl).choose_spec)
    (He.mkr_ok (c.fact 106 _ rfl)) (HN.funOf (c.def_ 54 _ rfl).choose_spec) (He.mkr_ok (c.fact 107 _ rfl)) (HN.funOf (c.def_ 55 _ rfl).choose_spec)
    ⟨(He.meth_ok (c.fact 108 _ rfl)).1, (He.meth_ok (c.fact 108 _ rfl)).2⟩ (HN.funOf (c.def_ 56 _ rfl).choose_spec) ⟨(He.meth_ok (c.fact 109 _ rfl)).1, (He.meth_ok (c.fact 109 _ rfl)).2⟩ (HN.funOf (c.def_ 57 _ rfl).choose_spec) (c.look 12 _ rfl) (He.noat_ok (c.fact 110 _ rfl)) (He.noat_ok (c.fact 111 _ rfl))
    (He.meth_ok (c.fact 112 _ rfl)) (HN.funOf (c.def_ 58 _ rfl).choose_spec)
    (He.meth_ok (c.fact 113 _ rfl)) (HN.funOf (c.def_ 59 _ rfl).choose_spec)
    (He.meth_ok (c.fact 114 _ rfl)) (HN.funOf (c.def_ 60 _ rfl).choose_spec)
    (He.meth_ok (c.fact 115 _ rfl)) (HN.funOf (c.def_ 61 _ rfl).choose_spec)
    (He.meth_ok (c.fact 116 _ rfl)) (HN.funOf (c.def_ 62 _ rfl).choose_spec)
    (He.meth_ok (c.fact 117 _ rfl)) (HN.funOf (c.def_ 63 _ rfl).choose_spec)
    (He.meth_ok (c.fact 118 _ rfl)) (HN.funOf (c.def_ 64 _ rfl).choose_spec)
    (He.meth_ok (c.fact 119 _ rfl)) (HN.funOf (c.def_ 65 _ rfl).choose_spec)
    (He.eqO_ok (c.fact 120 _ rfl)) (HN.funOf (c.def_ 66 _ rfl).choose_spec)
end HT
open PySem PySem.W PySem.Calls PyProof.Rows
set_option maxRecDepth 100000 in
set_option maxHeartbeats 0 in
theorem PySem.Challenge.cw_roadsizes_k82_whole_texts_and_fates_holds : PySem.Challenge.rw_roadsizes_k82_whole_texts_and_fates.Holds := by
  w_on; o_law
  refine HandSHeadRun.head_any (r := OpenLaw.row PySem.Challenge.rw_roadsizes_k82_whole_texts_and_fates) (q := view (OpenLaw.row PySem.Challenge.rw_roadsizes_k82_whole_texts_and_fates).prog [87]) (H := HT.hk) (ob := HT.ob) (M := 6700) (loose := HT.lo) (d := HandSHeadRun.topDef (OpenLaw.row PySem.Challenge.rw_roadsizes_k82_whole_texts_and_fates).prog 87) (kwd := []) HT.ob_eq
    (by kernel_rfl) (fun s => by kernel_rfl) HT.run (by kernel_rfl) (by kernel_rfl) (by kernel_rfl) (by rfl) (by first | assumption | decide +kernel) (by decide +kernel) ⟨rfl, rfl, rfl, rfl, rfl, by decide +kernel⟩ ?hw ?hc
  case hw => w_witness2
  case hc =>
    refine G.walkE (l := PySem.Challenge.rw_roadsizes_k82_whole_texts_and_fates) (n := 63) (k := 21) (x := "script") rfl (by decide) (by kernel_rfl) ⟨rfl, by decide, by decide⟩ ?F
    intro w mg fa h Y G hmg0
    obtain ⟨K, KX, c⟩ := Y
    have hmg : mg ("law" : PySem.Str) = some (.ref fa) := by
      have e : (HandSHeadRun.topDef (OpenLaw.row PySem.Challenge.rw_roadsizes_k82_whole_texts_and_fates).prog 87).name = ("law" : PySem.Str) := by kernel_rfl
      rw [← e]
      exact hmg0
    obtain ⟨fd, hb, hF⟩ := HT.facts (l := PySem.Challenge.rw_roadsizes_k82_whole_texts_and_fates) (w := w) KX G hmg c
    exact ⟨K, fd, CP.spLaw K, KX, hb, fun H a ns hl hb hS => ⟨a, ns, rfl, hS, hl, hb, fun _ => rfl⟩, hF⟩

end
