import PyProof.Rows.All
import Wide.All
import OpenK.AllK
import Wide.FinOn
import HandS.ForMost
import HandS.Zip
import HandS.IsInst
import HandS.Wide
import HandS.TupAny
import HandS.Conv
import HandS.ForExc
import HandS.ExcCtx
import HandS.HotCalls
import HandS.ExcIs
import HandS.CallLocal
import HandS.Nested
import HandS.EndTab
import KE.KNestM
import HandS.TupMul
import HandS.RaiseMore
import HandS.TupMul
import HandS.FStr
import HandS.OwnEq
import HandS.ExcInit
import HandS.ExcField
import KE.KExcSuper
import KE.KExcIs
import HandS.Style
import KE.GoesEnum
import PySem.Challenge.RW_freerides_k12_whole_a_purse_kept_deed_by
set_option Elab.async false
set_option linter.all false
set_option maxRecDepth 100000
namespace FR
/-! ### the mathematics: cards cs, stamps ss -/
/-- how many full cards the stamps make, with those of n rides -/
def fc : List Int → List Int → Int → Int
  | c :: cs, s :: ss, n => (s + n) / c + fc cs ss n
  | _, _, _ => 0
/-- the least multiple, by steps -/
def perGo : Nat → Int → Int → Int → Int
  | 0, _, period, _ => period
  | n + 1, step, period, full => if period % full = 0 then period else perGo n step (period + step) full
theorem perGo_succ {n : Nat} {step period full : Int} : perGo (n + 1) step period full = if period % full = 0 then period else perGo n step (period + step) full := rfl
def perFrom (p : Int) (cs : List Int) : Int := cs.foldl (fun p c => perGo 20 p p c) p
def perOf (cs : List Int) : Int := perFrom 1 cs
/-- the full cards of a whole period -/
def pq (P : Int) : List Int → Int
  | [] => 0
  | c :: cs => P / c + pq P cs
def Cards (cs : List Int) : Prop := 1 ≤ cs.length ∧ cs.length ≤ 3 ∧ ∀ c ∈ cs, (2 : Int) ≤ c ∧ c ≤ 20
theorem perGo_ok {full step : Int} (h2 : 2 ≤ full) (h20 : full ≤ 20) : ∀ (n : Nat) (k : Int), 1 ≤ k → k ≤ full → (n : Int) + k = 21 → ∃ j, perGo n step (step * k) full = step * j ∧ 1 ≤ j ∧ j ≤ full ∧ (step * j) % full = 0
  | 0, k, h1, h3, h4 => by omega
  | n + 1, k, h1, h3, h4 => by
    unfold perGo
    by_cases c : (step * k) % full = 0
    · rw [if_pos c]
      exact ⟨k, rfl, h1, h3, c⟩
    · rw [if_neg c]
      have hk : k ≠ full := fun e => c (by rw [e]; exact Int.mul_emod_left _ _)
      have e : step * k + step = step * (k + 1) := by rw [Int.mul_add, Int.mul_one]
      rw [e]
      exact perGo_ok h2 h20 n (k + 1) (by omega) (by omega) (by omega)
theorem perFrom_ok : ∀ (cs : List Int) (p : Int), (∀ c ∈ cs, (2 : Int) ≤ c ∧ c ≤ 20) → 1 ≤ p → 1 ≤ perFrom p cs ∧ perFrom p cs ≤ p * 20 ^ cs.length ∧ p ∣ perFrom p cs ∧ ∀ c ∈ cs, c ∣ perFrom p cs
  | [], p, h, h1 => ⟨h1, by show p ≤ p * 1; omega, Int.dvd_refl _, fun c hc => nomatch hc⟩
  | c :: cs, p, h, h1 => by
    obtain ⟨hc2, hc20⟩ := h c (List.mem_cons_self ..)
    obtain ⟨j, e, j1, j2, j3⟩ := perGo_ok (full := c) (step := p) hc2 hc20 20 1 (by omega) (by omega) (by omega)
    rw [Int.mul_one] at e
    have hp : 1 ≤ p * j := by
      have := Int.mul_le_mul h1 j1 (by omega) (by omega)
      omega
    obtain ⟨a, b, d, f⟩ := perFrom_ok cs (p * j) (fun x hx => h x (List.mem_cons_of_mem _ hx)) hp
    have e2 : perFrom p (c :: cs) = perFrom (p * j) cs := by
      show perFrom (perGo 20 p p c) cs = _
      rw [e]
    rw [e2]
    refine ⟨a, Int.le_trans b ?_, Int.dvd_trans (Int.dvd_mul_right p j) d, fun x hx => ?_⟩
    · have g1 : p * j ≤ p * 20 := Int.mul_le_mul_of_nonneg_left (by omega) (by omega)
      have g2 : (p * j) * 20 ^ cs.length ≤ (p * 20) * 20 ^ cs.length := Int.mul_le_mul_of_nonneg_right g1 (Int.le_of_lt (Int.pow_pos (by omega)))
      rw [List.length_cons, Int.pow_succ, Int.mul_comm (20 ^ cs.length) 20, ← Int.mul_assoc]
      exact g2
    · rcases List.mem_cons.mp hx with g | g
      · rw [g]
        exact Int.dvd_trans (Int.dvd_of_emod_eq_zero j3) d
      · exact f x g
theorem perOf_ok {cs : List Int} (h : Cards cs) : 1 ≤ perOf cs ∧ perOf cs ≤ 8000 ∧ ∀ c ∈ cs, c ∣ perOf cs := by
  obtain ⟨a, b, _, d⟩ := perFrom_ok cs 1 h.2.2 (by omega)
  refine ⟨a, Int.le_trans b ?_, d⟩
  have h3 : cs.length = 1 ∨ cs.length = 2 ∨ cs.length = 3 := by
    have := h.1
    have := h.2.1
    omega
  rcases h3 with e | e | e <;> rw [e] <;> decide
theorem fc_mono : ∀ (cs ss : List Int) {m n : Int}, (∀ c ∈ cs, (2 : Int) ≤ c) → m ≤ n → fc cs ss m ≤ fc cs ss n
  | [], _, _, _, _, _ => by simp [fc]
  | c :: cs, [], _, _, _, _ => by simp [fc]
  | c :: cs, s :: ss, m, n, h, hm => by
    have h1 := fc_mono cs ss (fun x hx => h x (List.mem_cons_of_mem _ hx)) hm
    have h2 : (s + m) / c ≤ (s + n) / c := Int.ediv_le_ediv (by have := h c (List.mem_cons_self ..); omega) (by omega)
    show (s + m) / c + fc cs ss m ≤ (s + n) / c + fc cs ss n
    omega
theorem fc_nonneg : ∀ (cs ss : List Int) {n : Int}, (∀ c ∈ cs, (2 : Int) ≤ c) → (∀ s ∈ ss, (0 : Int) ≤ s) → 0 ≤ n → 0 ≤ fc cs ss n
  | [], _, _, _, _, _ => by simp [fc]
  | c :: cs, [], _, _, _, _ => by simp [fc]
  | c :: cs, s :: ss, n, h, hs, hn => by
    have h1 := fc_nonneg cs ss (fun x hx => h x (List.mem_cons_of_mem _ hx)) (fun x hx => hs x (List.mem_cons_of_mem _ hx)) hn
    have h2 : 0 ≤ (s + n) / c := Int.ediv_nonneg (by have := hs s (List.mem_cons_self ..); omega) (by have := h c (List.mem_cons_self ..); omega)
    show 0 ≤ (s + n) / c + fc cs ss n
    omega
theorem fc_per : ∀ (cs ss : List Int) {m P q : Int}, cs.length = ss.length → (∀ c ∈ cs, (2 : Int) ≤ c) → (∀ c ∈ cs, c ∣ P) → fc cs ss (m + P * q) = fc cs ss m + q * pq P cs
  | [], _, _, _, _, _, _, _ => by simp [fc, pq]
  | c :: cs, [], _, _, _, h, _, _ => by simp at h
  | c :: cs, s :: ss, m, P, q, hl, h, hd => by
    have h1 := fc_per cs ss (m := m) (P := P) (q := q) (by simpa using hl) (fun x hx => h x (List.mem_cons_of_mem _ hx)) (fun x hx => hd x (List.mem_cons_of_mem _ hx))
    have hc := h c (List.mem_cons_self ..)
    obtain ⟨k, rfl⟩ := hd c (List.mem_cons_self ..)
    have h2 : (s + (m + c * k * q)) / c = (s + m) / c + k * q := by
      rw [← Int.add_assoc, Int.mul_assoc, Int.add_mul_ediv_left _ _ (by omega)]
    have h3 : c * k / c = k := Int.mul_ediv_cancel_left _ (by omega)
    show (s + (m + c * k * q)) / c + fc cs ss (m + c * k * q) = (s + m) / c + fc cs ss m + q * (c * k / c + pq (c * k) cs)
    rw [h1, h2, h3, Int.mul_add, Int.mul_comm k q]
    omega
/-- what is told of rides and stamps: the least number that pays for itself, or none -/
def Least (cs : List Int) (r : Int) (ss : List Int) (t : Int) : Prop := 0 ≤ t ∧ r + fc cs ss t = t ∧ ∀ m, 0 ≤ m → m < t → m < r + fc cs ss m
def Never (cs : List Int) (r : Int) (ss : List Int) : Prop := ∀ m, 0 ≤ m → m < r + fc cs ss m
theorem never_of {cs ss : List Int} {r : Int} (hC : Cards cs) (hl : cs.length = ss.length) (hp : perOf cs ≤ pq (perOf cs) cs) (h : ∀ m, 0 ≤ m → m < perOf cs → m < r + fc cs ss m) : Never cs r ss := by
  intro m hm
  obtain ⟨p1, p2, p3⟩ := perOf_ok hC
  have e : m = m % perOf cs + perOf cs * (m / perOf cs) := (Int.emod_add_mul_ediv m (perOf cs)).symm
  have h0 := Int.emod_nonneg m (show perOf cs ≠ 0 by omega)
  have h1 := Int.emod_lt_of_pos m (show 0 < perOf cs by omega)
  have h2 := h _ h0 h1
  have hq : 0 ≤ m / perOf cs := Int.ediv_nonneg hm (by omega)
  have h3 := fc_per cs ss (m := m % perOf cs) (P := perOf cs) (q := m / perOf cs) hl (fun c hc => (hC.2.2 c hc).1) p3
  have h4 : (m / perOf cs) * perOf cs ≤ (m / perOf cs) * pq (perOf cs) cs := Int.mul_le_mul_of_nonneg_left hp hq
  rw [← e] at h3
  rw [h3]
  rw [Int.mul_comm] at h4
  omega
/-- where a period does not pay, some number is enough -/
def bound (cs : List Int) (r : Int) (ss : List Int) : Int := perOf cs * (r + fc cs ss 0)
theorem bound_ok {cs ss : List Int} {r : Int} (hC : Cards cs) (hl : cs.length = ss.length) (hs : ∀ s ∈ ss, (0 : Int) ≤ s) (hr : 0 ≤ r) (hp : pq (perOf cs) cs < perOf cs) : 0 ≤ bound cs r ss ∧ r + fc cs ss (bound cs r ss) ≤ bound cs r ss := by
  obtain ⟨p1, p2, p3⟩ := perOf_ok hC
  have h0 := fc_nonneg cs ss (n := 0) (fun c hc => (hC.2.2 c hc).1) hs (by omega)
  have h3 := fc_per cs ss (m := 0) (P := perOf cs) (q := r + fc cs ss 0) hl (fun c hc => (hC.2.2 c hc).1) p3
  rw [Int.zero_add] at h3
  have h4 : (r + fc cs ss 0) * pq (perOf cs) cs ≤ (r + fc cs ss 0) * (perOf cs - 1) := Int.mul_le_mul_of_nonneg_left (by omega) (by omega)
  rw [Int.mul_sub, Int.mul_one, Int.mul_comm _ (perOf cs)] at h4
  unfold bound
  refine ⟨Int.mul_nonneg (by omega) (by omega), ?_⟩
  rw [h3]
  omega
/-- one more round of the search -/
theorem least_step {cs ss : List Int} {r had : Int} (hC : Cards cs) (h : ∀ m, 0 ≤ m → m < had → m < r + fc cs ss m) (h0 : 0 ≤ had) : ∀ m, 0 ≤ m → m < r + fc cs ss had → m < r + fc cs ss m := by
  intro m hm h1
  by_cases c : m < had
  · exact h m hm c
  · have := fc_mono cs ss (m := had) (n := m) (fun c hc => (hC.2.2 c hc).1) (by omega)
    omega
theorem least_unique {cs ss : List Int} {r t u : Int} (a : Least cs r ss t) (b : Least cs r ss u) : t = u := by
  obtain ⟨a0, a1, a2⟩ := a
  obtain ⟨b0, b1, b2⟩ := b
  by_cases c : t < u
  · have := b2 t a0 c
    omega
  · by_cases d : u < t
    · have := a2 u b0 d
      omega
    · omega
theorem least_never {cs ss : List Int} {r t : Int} (a : Least cs r ss t) (b : Never cs r ss) : False := by
  have := b t a.1
  have := a.2.1
  omega
end FR
namespace FR
/-! ### the lists that the program sums -/
def fcl (cs ss : List Int) (n : Int) : List Int := (cs.zip ss).map fun p => (p.2 + n) / p.1
theorem fcl_get {cs ss : List Int} {n : Int} {i : Nat} {c s : Int} (h1 : cs[i]? = some c) (h2 : ss[i]? = some s) : (fcl cs ss n)[i]? = some ((s + n) / c) := by
  unfold fcl
  have hz : (cs.zip ss)[i]? = some (c, s) := List.getElem?_zip_eq_some.mpr ⟨h1, h2⟩
  rw [List.getElem?_map, hz]
  rfl
theorem fcl_sum : ∀ (cs ss : List Int) (n : Int), (fcl cs ss n).sum = fc cs ss n
  | [], _, _ => by simp [fcl, fc]
  | _ :: _, [], _ => by simp [fcl, fc]
  | c :: cs, s :: ss, n => by
    have := fcl_sum cs ss n
    show ((s + n) / c :: fcl cs ss n).sum = (s + n) / c + fc cs ss n
    rw [List.sum_cons, this]
theorem fcl_len {cs ss : List Int} {n : Int} (h : cs.length = ss.length) : (fcl cs ss n).length = cs.length := by
  unfold fcl
  rw [List.length_map, List.length_zip]
  omega
theorem pq_sum (P : Int) : ∀ (cs : List Int), (cs.map (fun c => P / c)).sum = pq P cs
  | [] => rfl
  | c :: cs => by
    rw [List.map_cons, List.sum_cons, pq_sum P cs]
    rfl
/-- what is left -/
def lf (cs ss : List Int) (n : Int) : List Int := (cs.zip ss).map fun p => (p.2 + n) % p.1
theorem lf_get {cs ss : List Int} {n : Int} {i : Nat} {c s : Int} (h1 : cs[i]? = some c) (h2 : ss[i]? = some s) : (lf cs ss n)[i]? = some ((s + n) % c) := by
  unfold lf
  have hz : (cs.zip ss)[i]? = some (c, s) := List.getElem?_zip_eq_some.mpr ⟨h1, h2⟩
  rw [List.getElem?_map, hz]
  rfl
theorem lf_len {cs ss : List Int} {n : Int} (h : cs.length = ss.length) : (lf cs ss n).length = cs.length := by
  unfold lf
  rw [List.length_map, List.length_zip]
  omega
end FR
namespace FR
theorem fc_set_s : ∀ (cs ss : List Int) (i : Nat) {s m : Int}, (∀ c ∈ cs, (2 : Int) ≤ c) → ss[i]? = some s → fc cs ss m ≤ fc cs (ss.set i (s + 1)) m
  | [], _, _, _, _, _, _ => by simp [fc]
  | _ :: _, [], _, _, _, _, h => by simp at h
  | c :: cs, x :: ss, 0, s, m, hc, h => by
    have e : x = s := Option.some.inj h
    subst e
    have h2 : (x + m) / c ≤ (x + 1 + m) / c := Int.ediv_le_ediv (by have := hc c (List.mem_cons_self ..); omega) (by omega)
    show (x + m) / c + fc cs ss m ≤ (x + 1 + m) / c + fc cs ss m
    omega
  | c :: cs, x :: ss, i + 1, s, m, hc, h => by
    have ih := fc_set_s cs ss i (s := s) (m := m) (fun y hy => hc y (List.mem_cons_of_mem _ hy)) (by simpa using h)
    show (x + m) / c + fc cs ss m ≤ (x + m) / c + fc cs (ss.set i (s + 1)) m
    omega
theorem div_anti {x c d : Int} (h0 : 0 ≤ x) (hc : 0 < c) (h : c ≤ d) : x / d ≤ x / c := by
  have h1 : 0 ≤ x / d := Int.ediv_nonneg h0 (by omega)
  refine Int.le_ediv_of_mul_le hc ?_
  have h2 : x / d * c ≤ x / d * d := Int.mul_le_mul_of_nonneg_left h h1
  have h3 : x / d * d ≤ x := Int.ediv_mul_le x (by omega)
  omega
theorem fc_set_c : ∀ (cs ss : List Int) (i : Nat) {c d m : Int}, (∀ c ∈ cs, (2 : Int) ≤ c) → (∀ s ∈ ss, (0 : Int) ≤ s) → 0 ≤ m → cs[i]? = some c → c ≤ d → fc (cs.set i d) ss m ≤ fc cs ss m
  | [], _, _, _, _, _, _, _, _, h, _ => by simp at h
  | _ :: _, [], _, _, _, _, _, _, _, _, _ => by simp [fc]
  | x :: cs, s :: ss, 0, c, d, m, hc, hs, hm, h, hd => by
    have e : x = c := Option.some.inj h
    subst e
    have h2 : (s + m) / d ≤ (s + m) / x := div_anti (by have := hs s (List.mem_cons_self ..); omega) (by have := hc x (List.mem_cons_self ..); omega) hd
    show (s + m) / d + fc cs ss m ≤ (s + m) / x + fc cs ss m
    omega
  | x :: cs, s :: ss, i + 1, c, d, m, hc, hs, hm, h, hd => by
    have ih := fc_set_c cs ss i (c := c) (d := d) (m := m) (fun y hy => hc y (List.mem_cons_of_mem _ hy)) (fun y hy => hs y (List.mem_cons_of_mem _ hy)) hm (by simpa using h) hd
    show (s + m) / x + fc (cs.set i d) ss m ≤ (s + m) / x + fc cs ss m
    omega
theorem set_cut {xs : List Int} {i : Nat} {y : Int} (h : i < xs.length) : xs.take i ++ [y] ++ xs.drop (i + 1) = xs.set i y := by
  rw [List.set_eq_take_append_cons_drop, if_pos h, List.append_assoc]
  rfl
theorem cards_set {cs : List Int} {i : Nat} {d : Int} (h : Cards cs) (h2 : 2 ≤ d) (h20 : d ≤ 20) : Cards (cs.set i d) := by
  refine ⟨by rw [List.length_set]; exact h.1, by rw [List.length_set]; exact h.2.1, fun c hc => ?_⟩
  rcases List.mem_or_eq_of_mem_set hc with g | g
  · exact h.2.2 c g
  · omega
end FR
namespace FR
/-! ### how many are wanted -/
def Want (cs ss : List Int) (a b v : Int) : Prop := 0 ≤ v ∧ (∀ m, a ≤ m → m < b → m + 1 - fc cs ss m ≤ v) ∧ (v = 0 ∨ ∃ m, a ≤ m ∧ m < b ∧ v = m + 1 - fc cs ss m)
theorem want_step {cs ss : List Int} {a b v : Int} (h : Want cs ss a b v) (hab : a ≤ b) : Want cs ss a (b + 1) (if b + 1 - fc cs ss b > v then b + 1 - fc cs ss b else v) := by
  obtain ⟨h0, h1, h2⟩ := h
  split
  · refine ⟨by omega, fun m m0 m1 => ?_, .inr ⟨b, hab, by omega, rfl⟩⟩
    by_cases c : m < b
    · have := h1 m m0 c
      omega
    · have e : m = b := by omega
      rw [e]
      omega
  · refine ⟨h0, fun m m0 m1 => ?_, ?_⟩
    · by_cases c : m < b
      · exact h1 m m0 c
      · have e : m = b := by omega
        rw [e]
        omega
    · rcases h2 with g | ⟨m, m0, m1, g⟩
      · exact .inl g
      · exact .inr ⟨m, m0, by omega, g⟩
theorem want_pays {cs ss : List Int} {n v : Int} (hC : Cards cs) (hl : cs.length = ss.length) (hp : perOf cs ≤ pq (perOf cs) cs) (hn : perOf cs ≤ n) (h : Want cs ss 0 (perOf cs) v) : Want cs ss 0 n v := by
  obtain ⟨h0, h1, h2⟩ := h
  obtain ⟨p1, p2, p3⟩ := perOf_ok hC
  refine ⟨h0, fun m m0 m1 => ?_, ?_⟩
  · have e : m = m % perOf cs + perOf cs * (m / perOf cs) := (Int.emod_add_mul_ediv m (perOf cs)).symm
    have g0 := Int.emod_nonneg m (show perOf cs ≠ 0 by omega)
    have g1 := Int.emod_lt_of_pos m (show 0 < perOf cs by omega)
    have g2 := h1 _ g0 g1
    have hq : 0 ≤ m / perOf cs := Int.ediv_nonneg m0 (by omega)
    have g3 := fc_per cs ss (m := m % perOf cs) (P := perOf cs) (q := m / perOf cs) hl (fun c hc => (hC.2.2 c hc).1) p3
    have g4 : (m / perOf cs) * perOf cs ≤ (m / perOf cs) * pq (perOf cs) cs := Int.mul_le_mul_of_nonneg_left hp hq
    rw [← e] at g3
    rw [g3]
    rw [Int.mul_comm] at g4
    omega
  · rcases h2 with g | ⟨m, m0, m1, g⟩
    · exact .inl g
    · exact .inr ⟨m, m0, by omega, g⟩
theorem want_wears {cs ss : List Int} {n v : Int} (hC : Cards cs) (hl : cs.length = ss.length) (hp : pq (perOf cs) cs < perOf cs) (hn : 0 ≤ n - perOf cs) (h : Want cs ss (n - perOf cs) n v) : Want cs ss 0 n v := by
  obtain ⟨h0, h1, h2⟩ := h
  obtain ⟨p1, p2, p3⟩ := perOf_ok hC
  refine ⟨h0, fun m m0 m1 => ?_, ?_⟩
  · have e : n - 1 - m = (n - 1 - m) % perOf cs + perOf cs * ((n - 1 - m) / perOf cs) := (Int.emod_add_mul_ediv _ (perOf cs)).symm
    have g0 := Int.emod_nonneg (n - 1 - m) (show perOf cs ≠ 0 by omega)
    have g1 := Int.emod_lt_of_pos (n - 1 - m) (show 0 < perOf cs by omega)
    have hq : 0 ≤ (n - 1 - m) / perOf cs := Int.ediv_nonneg (by omega) (by omega)
    have g3 := fc_per cs ss (m := m) (P := perOf cs) (q := (n - 1 - m) / perOf cs) hl (fun c hc => (hC.2.2 c hc).1) p3
    have g4 : ((n - 1 - m) / perOf cs) * pq (perOf cs) cs ≤ ((n - 1 - m) / perOf cs) * perOf cs := Int.mul_le_mul_of_nonneg_left (by omega) hq
    rw [Int.mul_comm _ (perOf cs)] at g4
    have g2 := h1 (m + perOf cs * ((n - 1 - m) / perOf cs)) (by omega) (by omega)
    omega
  · rcases h2 with g | ⟨m, m0, m1, g⟩
    · exact .inl g
    · exact .inr ⟨m, by omega, m1, g⟩
theorem want_le {cs ss : List Int} {n v : Int} (hC : Cards cs) (hs : ∀ s ∈ ss, (0 : Int) ≤ s) (hn : 0 ≤ n) (h : Want cs ss 0 n v) : v ≤ n := by
  rcases h.2.2 with g | ⟨m, m0, m1, g⟩
  · omega
  · have := fc_nonneg cs ss (n := m) (fun c hc => (hC.2.2 c hc).1) hs m0
    omega
theorem want_enough {cs ss : List Int} {n v t : Int} (h : Want cs ss 0 n v) (l : Least cs v ss t) : n ≤ t := by
  obtain ⟨l0, l1, l2⟩ := l
  by_cases c : t < n
  · have := h.2.1 t l0 c
    omega
  · omega
theorem want_fewer {cs ss : List Int} {n v t : Int} (h : Want cs ss 0 n v) (h0 : 0 < v) (l : Least cs (v - 1) ss t) : t < n := by
  obtain ⟨l0, l1, l2⟩ := l
  rcases h.2.2 with g | ⟨m, m0, m1, g⟩
  · omega
  · by_cases c : m < t
    · have := l2 m m0 c
      omega
    · omega
theorem want_fewer' {cs ss : List Int} {n v : Int} (h : Want cs ss 0 n v) (h0 : 0 < v) (l : Never cs (v - 1) ss) : False := by
  rcases h.2.2 with g | ⟨m, m0, m1, g⟩
  · omega
  · have := l m m0
    omega
theorem want_never {cs ss : List Int} {v : Int} (hC : Cards cs) (hl : cs.length = ss.length) (hp : perOf cs ≤ pq (perOf cs) cs) (h : Want cs ss 0 (perOf cs) v) : Never cs v ss :=
  never_of hC hl hp fun m m0 m1 => by
    have := h.2.1 m m0 m1
    omega
theorem never_more {cs ss : List Int} {v w : Int} (h : Never cs v ss) (hw : v ≤ w) : Never cs w ss := fun m m0 => by
  have := h m m0
  omega
theorem wears_ends {cs ss : List Int} {r : Int} (hC : Cards cs) (hl : cs.length = ss.length) (hs : ∀ s ∈ ss, (0 : Int) ≤ s) (hr : 0 ≤ r) (hp : pq (perOf cs) cs < perOf cs) (h : Never cs r ss) : False := by
  obtain ⟨b0, b1⟩ := bound_ok hC hl hs hr hp
  have := h _ b0
  omega
end FR
namespace FR
/-! ### deeds in any order: k rides ridden, G full cards given, zs the stamps now -/
def Gone : List Int → List Int → List Int → Int → Int → Prop
  | c :: cs, s :: ss, z :: zs, k, G => ∃ g, 0 ≤ z ∧ z + c * g = s + k ∧ Gone cs ss zs k (G - g)
  | [], [], [], _, G => G = 0
  | _, _, _, _, _ => False
theorem gone_start : ∀ (cs ss : List Int), cs.length = ss.length → (∀ s ∈ ss, (0 : Int) ≤ s) → Gone cs ss ss 0 0
  | [], [], _, _ => rfl
  | c :: cs, s :: ss, hl, hs => ⟨0, hs s (List.mem_cons_self ..), by omega, by
      have := gone_start cs ss (by simpa using hl) (fun x hx => hs x (List.mem_cons_of_mem _ hx))
      simpa using this⟩
theorem gone_len : ∀ (cs ss zs : List Int) {k G : Int}, Gone cs ss zs k G → zs.length = cs.length ∧ ss.length = cs.length
  | [], [], [], _, _, _ => ⟨rfl, rfl⟩
  | c :: cs, s :: ss, z :: zs, k, G, ⟨g, _, _, h⟩ => by
    have := gone_len cs ss zs h
    simp only [List.length_cons]
    omega
theorem gone_ride : ∀ (cs ss zs : List Int) {k G : Int}, Gone cs ss zs k G → Gone cs ss (zs.map (· + 1)) (k + 1) G
  | [], [], [], _, _, h => h
  | c :: cs, s :: ss, z :: zs, k, G, ⟨g, h0, h1, h2⟩ => ⟨g, by show 0 ≤ z + 1; omega, by show z + 1 + c * g = s + (k + 1); omega, gone_ride cs ss zs h2⟩
theorem gone_give : ∀ (cs ss zs : List Int) (i : Nat) {k G c z : Int}, Gone cs ss zs k G → cs[i]? = some c → zs[i]? = some z → c ≤ z → Gone cs ss (zs.set i (z - c)) k (G + 1)
  | [], [], [], i, _, _, _, _, _, h, _, _ => by simp at h
  | c :: cs, s :: ss, z :: zs, 0, k, G, c', z', ⟨g, h0, h1, h2⟩, hc, hz, h => by
    have e1 : c = c' := Option.some.inj hc
    have e2 : z = z' := Option.some.inj hz
    subst e1 e2
    refine ⟨g + 1, by omega, ?_, ?_⟩
    · rw [Int.mul_add, Int.mul_one]
      omega
    · have e : G + 1 - (g + 1) = G - g := by omega
      rw [e]
      exact h2
  | c :: cs, s :: ss, z :: zs, i + 1, k, G, c', z', ⟨g, h0, h1, h2⟩, hc, hz, h => by
    refine ⟨g, h0, h1, ?_⟩
    have := gone_give cs ss zs i h2 (by simpa using hc) (by simpa using hz) h
    have e : G + 1 - g = G - g + 1 := by omega
    rw [e]
    exact this
theorem gone_le : ∀ (cs ss zs : List Int) {k G : Int}, (∀ c ∈ cs, (2 : Int) ≤ c) → Gone cs ss zs k G → G ≤ fc cs ss k
  | [], [], [], _, G, _, h => by
    have e : G = 0 := h
    simp [fc, e]
  | c :: cs, s :: ss, z :: zs, k, G, hc, ⟨g, h0, h1, h2⟩ => by
    have ih := gone_le cs ss zs (fun x hx => hc x (List.mem_cons_of_mem _ hx)) h2
    have h3 : g ≤ (s + k) / c := Int.le_ediv_of_mul_le (by have := hc c (List.mem_cons_self ..); omega) (by rw [Int.mul_comm]; omega)
    show G ≤ (s + k) / c + fc cs ss k
    omega
theorem gone_end : ∀ (cs ss zs : List Int) {k G : Int}, (∀ c ∈ cs, (2 : Int) ≤ c) → Gone cs ss zs k G → (∀ (i : Nat) (c z : Int), cs[i]? = some c → zs[i]? = some z → z < c) → G = fc cs ss k ∧ zs = lf cs ss k
  | [], [], [], _, G, _, h, _ => by
    have e : G = 0 := h
    simp [fc, lf, e]
  | c :: cs, s :: ss, z :: zs, k, G, hc, ⟨g, h0, h1, h2⟩, hz => by
    have ih := gone_end cs ss zs (fun x hx => hc x (List.mem_cons_of_mem _ hx)) h2 (fun i c z a b => hz (i + 1) c z (by simpa using a) (by simpa using b))
    have hlt : z < c := hz 0 c z rfl rfl
    have c2 := hc c (List.mem_cons_self ..)
    have e1 : s + k = z + c * g := by omega
    have h3 : (s + k) / c = g := by
      rw [e1, Int.add_mul_ediv_left _ _ (by omega), Int.ediv_eq_zero_of_lt h0 hlt]
      omega
    have h4 : (s + k) % c = z := by
      rw [e1, Int.add_mul_emod_self_left, Int.emod_eq_of_lt h0 hlt]
    refine ⟨?_, ?_⟩
    · show G = (s + k) / c + fc cs ss k
      omega
    · show z :: zs = (s + k) % c :: lf cs ss k
      rw [h4, ih.2]
def lsum : List Int → Int
  | [] => 0
  | z :: zs => z + lsum zs
theorem gone_nonneg : ∀ (cs ss zs : List Int) {k G : Int}, Gone cs ss zs k G → ∀ z ∈ zs, (0 : Int) ≤ z
  | [], [], [], _, _, _ => fun z hz => nomatch hz
  | c :: cs, s :: ss, z :: zs, k, G, ⟨g, h0, h1, h2⟩ => fun x hx => by
    rcases List.mem_cons.mp hx with e | e
    · rw [e]
      exact h0
    · exact gone_nonneg cs ss zs h2 x e
theorem lsum_nonneg : ∀ (zs : List Int), (∀ z ∈ zs, (0 : Int) ≤ z) → 0 ≤ lsum zs
  | [], _ => by simp [lsum]
  | z :: zs, h => by
    have := lsum_nonneg zs (fun x hx => h x (List.mem_cons_of_mem _ hx))
    have := h z (List.mem_cons_self ..)
    show 0 ≤ z + lsum zs
    omega
theorem lsum_ride : ∀ (zs : List Int), lsum (zs.map (· + 1)) = lsum zs + zs.length
  | [] => by simp [lsum]
  | z :: zs => by
    have := lsum_ride zs
    show z + 1 + lsum (zs.map (· + 1)) = z + lsum zs + ((zs.length + 1 : Nat) : Int)
    omega
theorem lsum_give : ∀ (zs : List Int) (i : Nat) {z c : Int}, zs[i]? = some z → lsum (zs.set i (z - c)) = lsum zs - c
  | [], _, _, _, h => by simp at h
  | x :: zs, 0, z, c, h => by
    have e : x = z := Option.some.inj h
    subst e
    show x - c + lsum zs = x + lsum zs - c
    omega
  | x :: zs, i + 1, z, c, h => by
    have := lsum_give zs i (c := c) (show zs[i]? = some z by simpa using h)
    show x + lsum (zs.set i (z - c)) = x + lsum zs - c
    omega
/-! ### common multiples of any kind -/
theorem pq_scale : ∀ (cs : List Int) {P W : Int}, (∀ c ∈ cs, (2 : Int) ≤ c) → (∀ c ∈ cs, c ∣ P) → (∀ c ∈ cs, c ∣ W) → pq P cs * W = pq W cs * P
  | [], _, _, _, _, _ => by simp [pq]
  | c :: cs, P, W, hc, hP, hW => by
    have ih := pq_scale cs (P := P) (W := W) (fun x hx => hc x (List.mem_cons_of_mem _ hx)) (fun x hx => hP x (List.mem_cons_of_mem _ hx)) (fun x hx => hW x (List.mem_cons_of_mem _ hx))
    have c2 := hc c (List.mem_cons_self ..)
    obtain ⟨p, hp⟩ := hP c (List.mem_cons_self ..)
    obtain ⟨w, hw⟩ := hW c (List.mem_cons_self ..)
    have e1 : P / c = p := by rw [hp]; exact Int.mul_ediv_cancel_left _ (by omega)
    have e2 : W / c = w := by rw [hw]; exact Int.mul_ediv_cancel_left _ (by omega)
    show (P / c + pq P cs) * W = (W / c + pq W cs) * P
    rw [Int.add_mul, Int.add_mul, ih, e1, e2]
    have e3 : p * W = w * P := by
      rw [hp, hw, Int.mul_left_comm p c w, Int.mul_left_comm w c p, Int.mul_comm p w]
    omega
theorem pays_any {cs : List Int} {P W : Int} (hc : ∀ c ∈ cs, (2 : Int) ≤ c) (hP : ∀ c ∈ cs, c ∣ P) (hW : ∀ c ∈ cs, c ∣ W) (p1 : 1 ≤ P) (w1 : 1 ≤ W) : P ≤ pq P cs ↔ W ≤ pq W cs := by
  have e := pq_scale cs hc hP hW
  constructor
  · intro h
    have h1 : P * W ≤ pq P cs * W := Int.mul_le_mul_of_nonneg_right h (by omega)
    rw [e] at h1
    rw [Int.mul_comm P W] at h1
    exact Int.le_of_mul_le_mul_right h1 (by omega)
  · intro h
    have h1 : W * P ≤ pq W cs * P := Int.mul_le_mul_of_nonneg_right h (by omega)
    rw [← e] at h1
    rw [Int.mul_comm W P] at h1
    exact Int.le_of_mul_le_mul_right h1 (by omega)
theorem never_any {cs ss : List Int} {r W : Int} (hC : Cards cs) (hl : cs.length = ss.length) (w1 : 1 ≤ W) (hW : ∀ c ∈ cs, c ∣ W) (hp : W ≤ pq W cs) (h : ∀ m, 0 ≤ m → m < W → m < r + fc cs ss m) : Never cs r ss := by
  intro m hm
  have e : m = m % W + W * (m / W) := (Int.emod_add_mul_ediv m W).symm
  have h0 := Int.emod_nonneg m (show W ≠ 0 by omega)
  have h1 := Int.emod_lt_of_pos m (show 0 < W by omega)
  have h2 := h _ h0 h1
  have hq : 0 ≤ m / W := Int.ediv_nonneg hm (by omega)
  have h3 := fc_per cs ss (m := m % W) (P := W) (q := m / W) hl (fun c hc => (hC.2.2 c hc).1) hW
  have h4 : (m / W) * W ≤ (m / W) * pq W cs := Int.mul_le_mul_of_nonneg_left hp hq
  rw [← e] at h3
  rw [h3]
  rw [Int.mul_comm] at h4
  omega
end FR
namespace FR
/-! ### no more than 4000 rides where few are begun with, and they wear off -/
def w3_b (a b c : Nat) : Bool := !(decide (2 ≤ a) && decide (2 ≤ b) && decide (2 ≤ c) && decide (b * c + (a * c + a * b) < a * (b * c))) || decide (4012 / a + (4012 / b + 4012 / c) ≤ 3916)
theorem w3_all : ((List.range 21).all fun a => (List.range 21).all fun b => (List.range 21).all fun c => w3_b a b c) = true := by decide +kernel
theorem w3_nat (a : Nat) (ha : a < 21) (b : Nat) (hb : b < 21) (c : Nat) (hc : c < 21) (a2 : 2 ≤ a) (b2 : 2 ≤ b) (c2 : 2 ≤ c) (h : b * c + (a * c + a * b) < a * (b * c)) : 4012 / a + (4012 / b + 4012 / c) ≤ 3916 := by
  have h1 := List.all_eq_true.mp w3_all a (List.mem_range.mpr ha)
  have h2 := List.all_eq_true.mp h1 b (List.mem_range.mpr hb)
  have h3 := List.all_eq_true.mp h2 c (List.mem_range.mpr hc)
  unfold w3_b at h3
  rw [decide_eq_true a2, decide_eq_true b2, decide_eq_true c2, decide_eq_true h] at h3
  exact of_decide_eq_true h3
theorem w2_nat : ∀ a : Nat, a < 21 → ∀ b : Nat, b < 21 → 2 ≤ a → 2 ≤ b → b + a < a * b → 4012 / a + 4012 / b ≤ 3916 := by decide +kernel
theorem as_nat {a : Int} (h2 : 2 ≤ a) (h20 : a ≤ 20) : ∃ n : Nat, a = (n : Int) ∧ n < 21 ∧ 2 ≤ n := ⟨a.toNat, by omega, by omega, by omega⟩
theorem few {s c : Int} (h : s ≤ 12) (hc : 2 ≤ c) : (s + 4000) / c ≤ 4012 / c := Int.ediv_le_ediv (by omega) (by omega)
theorem wears_few : ∀ {cs ss : List Int}, Cards cs → cs.length = ss.length → pq (perOf cs) cs < perOf cs → (∀ s ∈ ss, s ≤ 12) → fc cs ss 4000 ≤ 3916
  | [a], [s], hC, _, hp, hs => by
    obtain ⟨a2, a20⟩ := hC.2.2 a (by simp)
    have h1 := few (hs s (by simp)) a2
    have h2 : (4012 : Int) / a ≤ 4012 / 2 := div_anti (by omega) (by omega) a2
    show (s + 4000) / a + 0 ≤ 3916
    omega
  | [a, b], [s, t], hC, _, hp, hs => by
    obtain ⟨a2, a20⟩ := hC.2.2 a (by simp)
    obtain ⟨b2, b20⟩ := hC.2.2 b (by simp)
    have h1 := few (hs s (by simp)) a2
    have h2 := few (hs t (by simp)) b2
    obtain ⟨p1, _, p3⟩ := perOf_ok hC
    have hd : ∀ c ∈ [a, b], c ∣ a * b := by
      intro c hc
      simp only [List.mem_cons, List.not_mem_nil, or_false] at hc
      rcases hc with e | e <;> rw [e]
      · exact Int.dvd_mul_right a b
      · exact Int.dvd_mul_left a b
    have w1 : 1 ≤ a * b := by
      have := Int.mul_le_mul (show 1 ≤ a by omega) (show 1 ≤ b by omega) (by omega) (by omega)
      omega
    have hw : ¬ a * b ≤ pq (a * b) [a, b] := fun z => by
      have := (pays_any (fun c hc => (hC.2.2 c hc).1) hd p3 w1 p1).mp z
      omega
    have e1 : pq (a * b) [a, b] = b + (a + 0) := by
      show a * b / a + (a * b / b + 0) = b + (a + 0)
      rw [Int.mul_ediv_cancel_left _ (by omega), Int.mul_ediv_cancel _ (by omega)]
    rw [e1] at hw
    obtain ⟨n, rfl, n21, n2⟩ := as_nat a2 a20
    obtain ⟨m, rfl, m21, m2⟩ := as_nat b2 b20
    have := w2_nat n n21 m m21 n2 m2 (by have : ((m + n : Nat) : Int) < ((n * m : Nat) : Int) := by rw [Int.natCast_mul]; omega
                                         omega)
    show (s + 4000) / (n : Int) + ((t + 4000) / (m : Int) + 0) ≤ 3916
    have g1 : (4012 : Int) / (n : Int) = ((4012 / n : Nat) : Int) := rfl
    have g2 : (4012 : Int) / (m : Int) = ((4012 / m : Nat) : Int) := rfl
    omega
  | [a, b, c], [s, t, u], hC, _, hp, hs => by
    obtain ⟨a2, a20⟩ := hC.2.2 a (by simp)
    obtain ⟨b2, b20⟩ := hC.2.2 b (by simp)
    obtain ⟨c2, c20⟩ := hC.2.2 c (by simp)
    have h1 := few (hs s (by simp)) a2
    have h2 := few (hs t (by simp)) b2
    have h3 := few (hs u (by simp)) c2
    obtain ⟨p1, _, p3⟩ := perOf_ok hC
    have hd : ∀ x ∈ [a, b, c], x ∣ a * (b * c) := by
      intro x hx
      simp only [List.mem_cons, List.not_mem_nil, or_false] at hx
      rcases hx with e | e | e <;> rw [e]
      · exact Int.dvd_mul_right a _
      · exact Int.dvd_trans (Int.dvd_mul_right b c) (Int.dvd_mul_left a (b * c))
      · exact Int.dvd_trans (Int.dvd_mul_left b c) (Int.dvd_mul_left a (b * c))
    have w0 : 1 ≤ b * c := by
      have := Int.mul_le_mul (show 1 ≤ b by omega) (show 1 ≤ c by omega) (by omega) (by omega)
      omega
    have w1 : 1 ≤ a * (b * c) := by
      have := Int.mul_le_mul (show 1 ≤ a by omega) w0 (by omega) (by omega)
      omega
    have hw : ¬ a * (b * c) ≤ pq (a * (b * c)) [a, b, c] := fun z => by
      have := (pays_any (fun c hc => (hC.2.2 c hc).1) hd p3 w1 p1).mp z
      omega
    have e1 : pq (a * (b * c)) [a, b, c] = b * c + (a * c + (a * b + 0)) := by
      show a * (b * c) / a + (a * (b * c) / b + (a * (b * c) / c + 0)) = _
      rw [Int.mul_ediv_cancel_left _ (by omega), Int.mul_left_comm a b c, Int.mul_ediv_cancel_left _ (by omega), Int.mul_left_comm b a c, ← Int.mul_assoc, Int.mul_ediv_cancel _ (by omega)]
    rw [e1] at hw
    obtain ⟨n, rfl, n21, n2⟩ := as_nat a2 a20
    obtain ⟨m, rfl, m21, m2⟩ := as_nat b2 b20
    obtain ⟨l, rfl, l21, l2⟩ := as_nat c2 c20
    have := w3_nat n n21 m m21 l l21 n2 m2 l2 (by
      have z : ((m * l + (n * l + n * m) : Nat) : Int) < ((n * (m * l) : Nat) : Int) := by
        rw [Int.natCast_add, Int.natCast_add, Int.natCast_mul, Int.natCast_mul, Int.natCast_mul, Int.natCast_mul, Int.natCast_mul]
        omega
      omega)
    show (s + 4000) / (n : Int) + ((t + 4000) / (m : Int) + ((u + 4000) / (l : Int) + 0)) ≤ 3916
    have g1 : (4012 : Int) / (n : Int) = ((4012 / n : Nat) : Int) := rfl
    have g2 : (4012 : Int) / (m : Int) = ((4012 / m : Nat) : Int) := rfl
    have g3 : (4012 : Int) / (l : Int) = ((4012 / l : Nat) : Int) := rfl
    omega
  | [], _, hC, _, _, _ => absurd hC.1 (by simp)
  | _ :: _ :: _ :: _ :: _, _, hC, _, _, _ => absurd hC.2.1 (by simp)
theorem least_4000 {cs ss : List Int} {r t : Int} (hC : Cards cs) (hl : cs.length = ss.length) (hp : pq (perOf cs) cs < perOf cs) (hs : ∀ s ∈ ss, s ≤ 12) (hr : r ≤ 84) (h : Least cs r ss t) : t ≤ 4000 := by
  have h1 := wears_few hC hl hp hs
  by_cases c : t ≤ 4000
  · exact c
  · have := h.2.2 4000 (by omega) (by omega)
    omega
end FR
namespace FR
theorem pow20 {i : Nat} (h : i ≤ 3) : (20 : Int) ^ i ≤ 8000 := by
  have h3 : i = 0 ∨ i = 1 ∨ i = 2 ∨ i = 3 := by omega
  rcases h3 with e | e | e | e <;> rw [e] <;> decide
theorem whole_step {f c g : Int} (f1 : 1 ≤ f) (c2 : 2 ≤ c) (g0 : 0 < g) (gf : g ∣ f) (gc : g ∣ c) : 1 ≤ f * c / g ∧ f * c / g ≤ f * c ∧ f ∣ f * c / g ∧ c ∣ f * c / g := by
  obtain ⟨c', hc⟩ := gc
  obtain ⟨f', hf⟩ := gf
  have e1 : f * c / g = f * c' := by
    rw [hc, Int.mul_left_comm, Int.mul_ediv_cancel_left _ (by omega)]
  have e2 : f * c / g = f' * c := by
    rw [hf, Int.mul_assoc, Int.mul_ediv_cancel_left _ (by omega)]
  have c1 : 1 ≤ c' := by
    by_cases z : 1 ≤ c'
    · exact z
    · have : g * c' ≤ g * 0 := Int.mul_le_mul_of_nonneg_left (by omega) (by omega)
      omega
  have c3 : c' ≤ c := by
    have : 1 * c' ≤ g * c' := Int.mul_le_mul_of_nonneg_right (by omega) (by omega)
    omega
  have h1 : f * 1 ≤ f * c' := Int.mul_le_mul_of_nonneg_left c1 (by omega)
  have h2 : f * c' ≤ f * c := Int.mul_le_mul_of_nonneg_left c3 (by omega)
  refine ⟨by omega, by omega, ?_, ?_⟩
  · rw [e1]
    exact Int.dvd_mul_right f c'
  · rw [e2]
    exact Int.dvd_mul_left f' c
end FR
namespace FR
theorem least_13 : Least [4] 10 [0] 13 := ⟨by decide, by decide, fun m h0 h1 => by
  show m < 10 + ((0 + m) / 4 + 0)
  omega⟩
theorem least_1 : Least [2, 2] 1 [0, 0] 1 := ⟨by decide, by decide, fun m h0 h1 => by
  show m < 1 + ((0 + m) / 2 + ((0 + m) / 2 + 0))
  omega⟩
theorem never_22 : Never [2, 2] 2 [0, 0] := fun m h0 => by
  show m < 2 + ((0 + m) / 2 + ((0 + m) / 2 + 0))
  omega
theorem most_whole {cs ss : List Int} {r W t : Int} (hC : Cards cs) (hl : cs.length = ss.length) (hp : ¬ pq (perOf cs) cs < perOf cs) (w1 : 1 ≤ W) (hd : ∀ c ∈ cs, c ∣ W) (h : Least cs r ss t) : t ≤ W := by
  by_cases z : t ≤ W
  · exact z
  · obtain ⟨p1, _, p3⟩ := perOf_ok hC
    have hW := (pays_any (fun c hc => (hC.2.2 c hc).1) p3 hd p1 w1).mp (by omega)
    exact (least_never h (never_any hC hl w1 hd hW fun m m0 m1 => h.2.2 m m0 (by omega))).elim
end FR
namespace FR
/-! ### it ends, or never -/
theorem least_search {cs ss : List Int} {r : Int} (hC : Cards cs) (hs : ∀ s ∈ ss, (0 : Int) ≤ s) (hr : 0 ≤ r) : ∀ (n : Nat), (∀ m, 0 ≤ m → m < (n : Int) → m < r + fc cs ss m) ∨ ∃ t, Least cs r ss t
  | 0 => .inl fun m m0 m1 => by omega
  | n + 1 => by
    rcases least_search hC hs hr n with h | h
    · by_cases c : (n : Int) < r + fc cs ss n
      · refine .inl fun m m0 m1 => ?_
        by_cases g : m < (n : Int)
        · exact h m m0 g
        · have e : m = (n : Int) := by omega
          rw [e]
          exact c
      · refine .inr ⟨(n : Int), by omega, ?_, h⟩
        by_cases z : n = 0
        · subst z
          have := fc_nonneg cs ss (n := 0) (fun c hc => (hC.2.2 c hc).1) hs (by omega)
          have e : ((0 : Nat) : Int) = 0 := rfl
          rw [e] at c ⊢
          omega
        · have h1 := h ((n : Int) - 1) (by omega) (by omega)
          have h2 := fc_mono cs ss (m := (n : Int) - 1) (n := (n : Int)) (fun c hc => (hC.2.2 c hc).1) (by omega)
          omega
    · exact .inr h
theorem ends_or {cs ss : List Int} {r : Int} (hC : Cards cs) (hs : ∀ s ∈ ss, (0 : Int) ≤ s) (hr : 0 ≤ r) (h : ∀ t, ¬ Least cs r ss t) : Never cs r ss := by
  intro m m0
  rcases least_search hC hs hr (m.toNat + 1) with g | ⟨t, g⟩
  · exact g m m0 (by omega)
  · exact absurd g (h t)
theorem want_exists (cs ss : List Int) : ∀ n : Nat, ∃ v, Want cs ss 0 (n : Int) v
  | 0 => ⟨0, by omega, fun m m0 m1 => by omega, .inl rfl⟩
  | n + 1 => by
    obtain ⟨v, hv⟩ := want_exists cs ss n
    exact ⟨_, want_step hv (by omega)⟩
theorem want_unique {cs ss : List Int} {n v w : Int} (a : Want cs ss 0 n v) (b : Want cs ss 0 n w) : v = w := by
  have h1 : v ≤ w := by
    rcases a.2.2 with g | ⟨m, m0, m1, g⟩
    · have := b.1
      omega
    · have := b.2.1 m m0 m1
      omega
  have h2 : w ≤ v := by
    rcases b.2.2 with g | ⟨m, m0, m1, g⟩
    · have := a.1
      omega
    · have := a.2.1 m m0 m1
      omega
  omega
/-- from the wanted number on, and from no fewer -/
theorem want_iff {cs ss : List Int} {n v r : Int} (h : Want cs ss 0 n v) (r0 : 0 ≤ r) : (∀ m, 0 ≤ m → m < n → m < r + fc cs ss m) ↔ v ≤ r := by
  constructor
  · intro g
    rcases h.2.2 with e | ⟨m, m0, m1, e⟩
    · omega
    · have := g m m0 m1
      omega
  · intro g m m0 m1
    have := h.2.1 m m0 m1
    omega
theorem least_ge {cs ss : List Int} {r t n : Int} (h : Least cs r ss t) (hC : Cards cs) : n ≤ t ↔ ∀ m, 0 ≤ m → m < n → m < r + fc cs ss m := by
  constructor
  · intro g m m0 m1
    exact h.2.2 m m0 (by omega)
  · intro g
    by_cases c : n ≤ t
    · exact c
    · have := g t h.1 (by omega)
      have := h.2.1
      omega
theorem want_22 {t : Int} (h : Want [2, 2] [0, 0] 0 2 t) : t = 2 := by
  have h1 := h.2.1 1 (by omega) (by omega)
  have e1 : fc [2, 2] [0, 0] 1 = 0 := by decide
  rw [e1] at h1
  have := want_le (cs := [2, 2]) (ss := [0, 0]) ⟨by decide, by decide, by decide⟩ (by decide) (by omega) h
  omega
theorem want_4 {t : Int} (h : Want [4] [0] 0 13 t) : t = 10 := by
  have h1 := h.2.1 12 (by omega) (by omega)
  have e1 : fc [4] [0] 12 = 3 := by decide
  rw [e1] at h1
  rcases h.2.2 with g | ⟨m, m0, m1, g⟩
  · omega
  · have e : fc [4] [0] m = (0 + m) / 4 + 0 := rfl
    rw [e] at g
    omega
end FR
namespace FR
/-! ### folk: purses put together -/
def zadd (xs ys : List Int) : List Int := List.zipWith (· + ·) xs ys
theorem zadd_len {xs ys : List Int} (h : xs.length = ys.length) : (zadd xs ys).length = xs.length := by
  unfold zadd
  rw [List.length_zipWith, h, Nat.min_self]
theorem zadd_comm : ∀ (xs ys : List Int), zadd xs ys = zadd ys xs
  | [], [] => rfl
  | [], _ :: _ => rfl
  | _ :: _, [] => rfl
  | x :: xs, y :: ys => by
    show (x + y) :: zadd xs ys = (y + x) :: zadd ys xs
    rw [zadd_comm xs ys, Int.add_comm]
theorem zadd_assoc : ∀ (xs ys zs : List Int), zadd (zadd xs ys) zs = zadd xs (zadd ys zs)
  | [], _, _ => rfl
  | _ :: _, [], _ => rfl
  | _ :: _, _ :: _, [] => rfl
  | x :: xs, y :: ys, z :: zs => by
    show (x + y + z) :: zadd (zadd xs ys) zs = (x + (y + z)) :: zadd xs (zadd ys zs)
    rw [zadd_assoc xs ys zs, Int.add_assoc]
theorem zadd_zero : ∀ (xs : List Int), zadd xs (List.replicate xs.length 0) = xs
  | [] => rfl
  | x :: xs => by
    show (x + 0) :: zadd xs (List.replicate xs.length 0) = x :: xs
    rw [zadd_zero xs, Int.add_zero]
theorem zadd_nonneg : ∀ {xs ys : List Int}, (∀ x ∈ xs, (0 : Int) ≤ x) → (∀ y ∈ ys, (0 : Int) ≤ y) → ∀ z ∈ zadd xs ys, (0 : Int) ≤ z
  | [], _, _, _, z, hz => by cases hz
  | _ :: _, [], _, _, z, hz => by cases hz
  | x :: xs, y :: ys, hx, hy, z, hz => by
    rcases List.mem_cons.mp (show z ∈ (x + y) :: zadd xs ys from hz) with rfl | h
    · have := hx x List.mem_cons_self
      have := hy y List.mem_cons_self
      omega
    · exact zadd_nonneg (fun a h => hx a (List.mem_cons_of_mem _ h)) (fun a h => hy a (List.mem_cons_of_mem _ h)) z h
theorem fc_shift : ∀ (cs s1 s : List Int) {t m : Int}, cs.length = s1.length → cs.length = s.length → (∀ c ∈ cs, (2 : Int) ≤ c) → fc cs (zadd s1 s) (t + m) = fc cs s1 t + fc cs (zadd (lf cs s1 t) s) m
  | [], [], [], t, m, _, _, _ => by simp [fc, zadd, lf]
  | c :: cs, a :: s1, b :: s, t, m, h1, h2, hc => by
    have ih := fc_shift cs s1 s (t := t) (m := m) (Nat.succ.inj h1) (Nat.succ.inj h2) (fun c h => hc c (List.mem_cons_of_mem _ h))
    have c2 := hc c List.mem_cons_self
    show (a + b + (t + m)) / c + fc cs (zadd s1 s) (t + m) = (a + t) / c + fc cs s1 t + (((a + t) % c + b + m) / c + fc cs (zadd (lf cs s1 t) s) m)
    have e : (a + b + (t + m)) = ((a + t) % c + b + m) + c * ((a + t) / c) := by
      have := Int.emod_add_mul_ediv (a + t) c
      omega
    rw [ih, e, Int.add_mul_ediv_left _ _ (by omega)]
    omega
theorem fc_less : ∀ (cs s1 s : List Int) {m : Int}, cs.length = s1.length → cs.length = s.length → (∀ c ∈ cs, (2 : Int) ≤ c) → (∀ x ∈ s, (0 : Int) ≤ x) → fc cs s1 m ≤ fc cs (zadd s1 s) m
  | [], [], [], m, _, _, _, _ => by simp [fc, zadd]
  | c :: cs, a :: s1, b :: s, m, h1, h2, hc, hs => by
    have ih := fc_less cs s1 s (m := m) (Nat.succ.inj h1) (Nat.succ.inj h2) (fun c h => hc c (List.mem_cons_of_mem _ h)) (fun x h => hs x (List.mem_cons_of_mem _ h))
    have c2 := hc c List.mem_cons_self
    have b0 := hs b List.mem_cons_self
    show (a + m) / c + fc cs s1 m ≤ (a + b + m) / c + fc cs (zadd s1 s) m
    have := Int.ediv_le_ediv (a := a + m) (b := a + b + m) (c := c) (by omega) (by omega)
    omega
theorem shift_least {cs s1 s : List Int} {r1 r t u : Int} (hc : ∀ c ∈ cs, (2 : Int) ≤ c) (h1 : cs.length = s1.length) (h2 : cs.length = s.length) (hs : ∀ x ∈ s, (0 : Int) ≤ x) (r0 : 0 ≤ r) (h : Least cs r1 s1 t) (h' : Least cs r (zadd (lf cs s1 t) s) u) : Least cs (r1 + r) (zadd s1 s) (t + u) := by
  obtain ⟨a0, a1, a2⟩ := h
  obtain ⟨b0, b1, b2⟩ := h'
  refine ⟨by omega, ?_, fun m m0 mt => ?_⟩
  · rw [fc_shift cs s1 s h1 h2 hc]
    omega
  · by_cases q : m < t
    · have := a2 m m0 q
      have := fc_less cs s1 s (m := m) h1 h2 hc hs
      omega
    · have e := fc_shift cs s1 s (t := t) (m := m - t) h1 h2 hc
      rw [show t + (m - t) = m by omega] at e
      have := b2 (m - t) (by omega) (by omega)
      omega
theorem shift_never {cs s1 s : List Int} {r1 r t : Int} (hc : ∀ c ∈ cs, (2 : Int) ≤ c) (h1 : cs.length = s1.length) (h2 : cs.length = s.length) (hs : ∀ x ∈ s, (0 : Int) ≤ x) (r0 : 0 ≤ r) (h : Least cs r1 s1 t) (h' : Never cs r (zadd (lf cs s1 t) s)) : Never cs (r1 + r) (zadd s1 s) := by
  obtain ⟨a0, a1, a2⟩ := h
  intro m m0
  by_cases q : m < t
  · have := a2 m m0 q
    have := fc_less cs s1 s (m := m) h1 h2 hc hs
    omega
  · have e := fc_shift cs s1 s (t := t) (m := m - t) h1 h2 hc
    rw [show t + (m - t) = m by omega] at e
    have := h' (m - t) (by omega)
    omega
theorem first_never {cs s1 s : List Int} {r1 r : Int} (hc : ∀ c ∈ cs, (2 : Int) ≤ c) (h1 : cs.length = s1.length) (h2 : cs.length = s.length) (hs : ∀ x ∈ s, (0 : Int) ≤ x) (r0 : 0 ≤ r) (h : Never cs r1 s1) : Never cs (r1 + r) (zadd s1 s) := by
  intro m m0
  have := h m m0
  have := fc_less cs s1 s (m := m) h1 h2 hc hs
  omega
/-- all purses: rides, stamps -/
def totR (ps : List (Int × List Int)) : Int := (ps.map (·.1)).sum
def totS (n : Nat) (ps : List (Int × List Int)) : List Int := ps.foldr (fun p acc => zadd p.2 acc) (List.replicate n 0)
def GoodP (n : Nat) (ps : List (Int × List Int)) : Prop := ∀ p ∈ ps, 0 ≤ p.1 ∧ p.2.length = n ∧ ∀ x ∈ p.2, (0 : Int) ≤ x
theorem totR_cons {p : Int × List Int} {ps : List (Int × List Int)} : totR (p :: ps) = p.1 + totR ps := by
  unfold totR
  rw [List.map_cons, List.sum_cons]
theorem tot_ok {n : Nat} : ∀ {ps : List (Int × List Int)}, GoodP n ps → 0 ≤ totR ps ∧ (totS n ps).length = n ∧ ∀ x ∈ totS n ps, (0 : Int) ≤ x
  | [], _ => ⟨by simp [totR], List.length_replicate, fun x hx => by rw [(List.mem_replicate.mp hx).2]; omega⟩
  | p :: ps, h => by
    obtain ⟨a, b, c⟩ := tot_ok (ps := ps) (fun q hq => h q (List.mem_cons_of_mem _ hq))
    obtain ⟨d, e, f⟩ := h p List.mem_cons_self
    refine ⟨by rw [totR_cons]; omega, ?_, zadd_nonneg f c⟩
    show (zadd p.2 (totS n ps)).length = n
    rw [zadd_len (by omega), e]
/-- what is left to each, one behind the other -/
inductive Each (cs : List Int) : List (Int × List Int) → List Int → Prop
  | nil : Each cs [] []
  | cons {p t ps ts} : Least cs p.1 p.2 t → Each cs ps ts → Each cs (p :: ps) (t :: ts)
def leftS (cs : List Int) : List (Int × List Int) → List Int → List Int → List Int
  | p :: ps, t :: ts, o => leftS cs ps ts (zadd o (lf cs p.2 t))
  | _, _, o => o
theorem lf_nonneg : ∀ (cs ss : List Int) {t : Int}, (∀ c ∈ cs, (2 : Int) ≤ c) → ∀ x ∈ lf cs ss t, (0 : Int) ≤ x
  | [], _, _, _, x, h => by cases h
  | _ :: _, [], _, _, x, h => by cases h
  | c :: cs, s :: ss, t, hc, x, h => by
    have c2 := hc c List.mem_cons_self
    rcases List.mem_cons.mp (show x ∈ ((s + t) % c) :: lf cs ss t from h) with rfl | h
    · exact Int.emod_nonneg _ (by omega)
    · exact lf_nonneg cs ss (fun c h => hc c (List.mem_cons_of_mem _ h)) x h
theorem folk_step {cs o s1 S : List Int} {n : Nat} (t : Int) : zadd o (zadd s1 S) = zadd s1 (zadd o S) := by
  rw [← zadd_assoc, zadd_comm o s1, zadd_assoc]
theorem folk_least {cs : List Int} (hc : ∀ c ∈ cs, (2 : Int) ≤ c) : ∀ {ps : List (Int × List Int)} {ts o : List Int} {u : Int}, GoodP cs.length ps → o.length = cs.length → (∀ x ∈ o, (0 : Int) ≤ x) → Each cs ps ts → Least cs 0 (leftS cs ps ts o) u → Least cs (totR ps) (zadd o (totS cs.length ps)) (ts.sum + u)
  | [], [], o, u, _, ho, _, _, h => by
    show Least cs 0 (zadd o (List.replicate cs.length 0)) (0 + u)
    rw [← ho, zadd_zero, Int.zero_add]
    exact h
  | p :: ps, t :: ts, o, u, hG, ho, o0, .cons h1 h2, h => by
    obtain ⟨d, e, f⟩ := hG p List.mem_cons_self
    have hG' : GoodP cs.length ps := fun q hq => hG q (List.mem_cons_of_mem _ hq)
    obtain ⟨a, b, c⟩ := tot_ok hG'
    have hl : (lf cs p.2 t).length = cs.length := lf_len (by omega)
    have ih := folk_least hc (o := zadd o (lf cs p.2 t)) hG' (by rw [zadd_len (by omega)]; exact ho) (zadd_nonneg o0 (lf_nonneg cs p.2 hc)) h2 h
    rw [zadd_comm o, zadd_assoc] at ih
    have k := shift_least hc (by omega) (by rw [zadd_len (by omega)]; omega) (zadd_nonneg o0 c) a h1 ih
    show Least cs (totR (p :: ps)) (zadd o (zadd p.2 (totS cs.length ps))) ((t :: ts).sum + u)
    rw [folk_step (cs := cs) (n := 0) 0, totR_cons, List.sum_cons, Int.add_assoc]
    exact k
theorem folk_never {cs : List Int} (hc : ∀ c ∈ cs, (2 : Int) ≤ c) : ∀ {ps : List (Int × List Int)} {ts o : List Int}, GoodP cs.length ps → o.length = cs.length → (∀ x ∈ o, (0 : Int) ≤ x) → Each cs ps ts → Never cs 0 (leftS cs ps ts o) → Never cs (totR ps) (zadd o (totS cs.length ps))
  | [], [], o, _, ho, _, _, h => by
    show Never cs 0 (zadd o (List.replicate cs.length 0))
    rw [← ho, zadd_zero]
    exact h
  | p :: ps, t :: ts, o, hG, ho, o0, .cons h1 h2, h => by
    obtain ⟨d, e, f⟩ := hG p List.mem_cons_self
    have hG' : GoodP cs.length ps := fun q hq => hG q (List.mem_cons_of_mem _ hq)
    obtain ⟨a, b, c⟩ := tot_ok hG'
    have hl : (lf cs p.2 t).length = cs.length := lf_len (by omega)
    have ih := folk_never hc (o := zadd o (lf cs p.2 t)) hG' (by rw [zadd_len (by omega)]; exact ho) (zadd_nonneg o0 (lf_nonneg cs p.2 hc)) h2 h
    rw [zadd_comm o, zadd_assoc] at ih
    have k := shift_never hc (by omega) (by rw [zadd_len (by omega)]; omega) (zadd_nonneg o0 c) a h1 ih
    show Never cs (totR (p :: ps)) (zadd o (zadd p.2 (totS cs.length ps)))
    rw [folk_step (cs := cs) (n := 0) 0, totR_cons]
    exact k
/-- somebody's never end -/
theorem folk_some {cs : List Int} (hc : ∀ c ∈ cs, (2 : Int) ≤ c) : ∀ {ps : List (Int × List Int)} {p : Int × List Int}, GoodP cs.length ps → p ∈ ps → Never cs p.1 p.2 → Never cs (totR ps) (totS cs.length ps)
  | q :: ps, p, hG, hm, h => by
    have hG' : GoodP cs.length ps := fun q hq => hG q (List.mem_cons_of_mem _ hq)
    obtain ⟨a, b, c⟩ := tot_ok hG'
    obtain ⟨d, e, f⟩ := hG q List.mem_cons_self
    show Never cs (totR (q :: ps)) (zadd q.2 (totS cs.length ps))
    rw [totR_cons]
    rcases List.mem_cons.mp hm with rfl | hm
    · exact first_never hc (by omega) (by omega) c a h
    · have ih := folk_some hc hG' hm h
      rw [zadd_comm, Int.add_comm]
      exact first_never hc (by omega) (by omega) f d ih
/-! ### loans -/
def CanN (cs : List Int) (r : Int) (ss : List Int) (n : Int) : Prop := n ≤ r + fc cs ss n
/-- with a loan of L just n rides -/
def Lent (cs : List Int) (r : Int) (ss : List Int) (n L : Int) : Prop := (∀ m, 0 ≤ m → m < n → m < r + L + fc cs ss m) ∧ CanN cs r ss n
theorem lent_iff {cs ss : List Int} {r n v L : Int} (h : Want cs ss 0 n v) (r0 : 0 ≤ r) (l0 : 0 ≤ L) : Lent cs r ss n L ↔ v - r ≤ L ∧ CanN cs r ss n := by
  have := want_iff h (r := r + L) (by omega)
  constructor
  · rintro ⟨a, b⟩
    have := this.mp a
    exact ⟨by omega, b⟩
  · rintro ⟨a, b⟩
    exact ⟨this.mpr (by omega), b⟩
/-- the greatest number -/
def Great (cs : List Int) (r : Int) (ss : List Int) (g : Int) : Prop := 0 ≤ g ∧ r + fc cs ss g = g ∧ ∀ m, g < m → r + fc cs ss m < m
theorem great_can {cs ss : List Int} {r g m : Int} (h : Great cs r ss g) (hm : CanN cs r ss m) : m ≤ g := by
  obtain ⟨_, _, h2⟩ := h
  unfold CanN at hm
  by_cases q : m ≤ g
  · exact q
  · have := h2 m (by omega)
    omega
theorem great_unique {cs ss : List Int} {r g k : Int} (a : Great cs r ss g) (b : Great cs r ss k) : g = k := by
  have h1 := great_can a (m := k) (by unfold CanN; have := b.2.1; omega)
  have h2 := great_can b (m := g) (by unfold CanN; have := a.2.1; omega)
  omega
theorem great_least {cs ss : List Int} {r g t : Int} (a : Great cs r ss g) (b : Least cs r ss t) : t ≤ g := great_can a (by unfold CanN; have := b.2.1; omega)
/-- beyond a bound no number can be had, where rides wear off -/
theorem wears_bound {cs ss : List Int} {r : Int} (hC : Cards cs) (hl : cs.length = ss.length) (hp : pq (perOf cs) cs < perOf cs) : ∀ m, perOf cs * (max 0 (r + fc cs ss (perOf cs)) + 1) ≤ m → r + fc cs ss m < m := by
  obtain ⟨p1, _, hd⟩ := perOf_ok hC
  intro m hm
  have c2 : ∀ c ∈ cs, (2 : Int) ≤ c := fun c h => (hC.2.2 c h).1
  have e := Int.emod_add_mul_ediv m (perOf cs)
  have m0 := Int.emod_nonneg m (show perOf cs ≠ 0 by omega)
  have m1 := Int.emod_lt_of_pos m (show 0 < perOf cs by omega)
  have f := fc_per cs ss (m := m % perOf cs) (P := perOf cs) (q := m / perOf cs) hl c2 hd
  rw [e] at f
  have g := fc_mono cs ss c2 (show m % perOf cs ≤ perOf cs by omega)
  have q1 : max 0 (r + fc cs ss (perOf cs)) + 1 ≤ m / perOf cs := by
    rw [Int.le_ediv_iff_mul_le (by omega), Int.mul_comm]
    exact hm
  have q2 : (m / perOf cs) * pq (perOf cs) cs ≤ (m / perOf cs) * (perOf cs - 1) := Int.mul_le_mul_of_nonneg_left (by omega) (by omega)
  rw [Int.mul_sub, Int.mul_one, Int.mul_comm] at q2
  rw [Int.mul_comm (m / perOf cs) (perOf cs)] at q2
  rw [Int.mul_comm (m / perOf cs) (pq _ cs)] at f
  omega
/-- where a period pays, greater numbers can be had beyond any -/
theorem pays_more {cs ss : List Int} {r : Int} (hC : Cards cs) (hl : cs.length = ss.length) (hp : perOf cs ≤ pq (perOf cs) cs) (h0 : 0 ≤ r + fc cs ss 0) (g : Int) : ∃ m, g < m ∧ CanN cs r ss m := by
  obtain ⟨p1, _, hd⟩ := perOf_ok hC
  have c2 : ∀ c ∈ cs, (2 : Int) ≤ c := fun c h => (hC.2.2 c h).1
  have f := fc_per cs ss (m := 0) (P := perOf cs) (q := max 0 g + 1) hl c2 hd
  refine ⟨perOf cs * (max 0 g + 1), ?_, ?_⟩
  · have : 1 * (max 0 g + 1) ≤ perOf cs * (max 0 g + 1) := Int.mul_le_mul_of_nonneg_right p1 (by omega)
    omega
  · unfold CanN
    rw [Int.zero_add] at f
    rw [f]
    have : (max 0 g + 1) * perOf cs ≤ (max 0 g + 1) * pq (perOf cs) cs := Int.mul_le_mul_of_nonneg_left hp (by omega)
    rw [Int.mul_comm (perOf cs)]
    omega
end FR
namespace FR
/-! ### a card of ten; cards of two, three and seven -/
theorem fc_one {c s m : Int} : fc [c] [s] m = (s + m) / c := by
  show (s + m) / c + 0 = _
  omega
theorem fc_two {c d s t m : Int} : fc [c, d] [s, t] m = (s + m) / c + (t + m) / d := by
  show (s + m) / c + ((t + m) / d + 0) = _
  omega
theorem fc_three {c d e s t u m : Int} : fc [c, d, e] [s, t, u] m = (s + m) / c + (t + m) / d + (u + m) / e := by
  show (s + m) / c + ((t + m) / d + ((u + m) / e + 0)) = _
  omega
theorem ten_least {r : Int} (h : 0 < r) : Least [10] r [0] (r + (r - 1) / 9) := by
  refine ⟨by omega, ?_, fun m m0 mt => ?_⟩
  · rw [fc_one]
    omega
  · rw [fc_one]
    omega
theorem ten_zero : Least [10] 0 [0] 0 := ⟨by decide, by decide, fun m m0 mt => by omega⟩
theorem ten_great {r : Int} (h : 0 ≤ r) : Great [10] r [0] (r + r / 9) := by
  refine ⟨by omega, ?_, fun m m0 => ?_⟩
  · rw [fc_one]
    omega
  · rw [fc_one]
    omega
theorem ten_want {r v : Int} (h : 0 < r) (w : Want [10] [0] 0 (r + (r - 1) / 9) v) : v = r := by
  obtain ⟨v0, v1, v2⟩ := w
  have a := v1 (r + (r - 1) / 9 - 1) (by omega) (by omega)
  rw [fc_one] at a
  rcases v2 with rfl | ⟨m, m0, m1, rfl⟩
  · omega
  · rw [fc_one] at a ⊢
    omega
theorem ten_more {r v : Int} (h : 0 < r) (h9 : r % 9 = 0) (w : Want [10] [0] 0 (r + (r - 1) / 9 + 1) v) : v = r + 1 := by
  obtain ⟨v0, v1, v2⟩ := w
  have a := v1 (r + (r - 1) / 9) (by omega) (by omega)
  rw [fc_one] at a
  rcases v2 with rfl | ⟨m, m0, m1, rfl⟩
  · omega
  · rw [fc_one] at a ⊢
    omega
theorem ten_can {r : Int} (h : 0 < r) (h9 : r % 9 = 0) : CanN [10] r [0] (r + (r - 1) / 9 + 1) := by
  unfold CanN
  rw [fc_one]
  omega
theorem ten_cant {r : Int} (h : 0 < r) (h9 : r % 9 = 0) : ¬ CanN [10] r [0] (r + (r - 1) / 9 + 2) := by
  unfold CanN
  rw [fc_one]
  omega
theorem sev_nat : ∀ m : Nat, m < 42 → (m < 41 → m - (m / 2 + m / 3 + m / 7) ≤ 2) ∧ m - (m / 2 + m / 3 + m / 7) ≤ 3 ∧ (0 < m → m / 2 + m / 3 + m / 7 < m) ∧ m / 2 + m / 3 + m / 7 ≤ m := by decide +kernel
theorem fc_sev (m : Int) (h : 0 ≤ m) : ∃ (q : Int) (k : Nat), 0 ≤ q ∧ k < 42 ∧ m = 42 * q + k ∧ fc [2, 3, 7] [0, 0, 0] m = 41 * q + ((k / 2 + k / 3 + k / 7 : Nat) : Int) := by
  refine ⟨m / 42, (m % 42).toNat, by omega, by omega, by omega, ?_⟩
  rw [fc_three]
  omega
theorem sev_least {r : Int} (h : 3 ≤ r) : Least [2, 3, 7] r [0, 0, 0] (42 * r - 85) := by
  refine ⟨by omega, ?_, fun m m0 mt => ?_⟩
  · rw [fc_three]
    omega
  · obtain ⟨q, k, q0, k1, e, f⟩ := fc_sev m m0
    obtain ⟨a, b, c, d⟩ := sev_nat k k1
    rw [f]
    generalize k / 2 + k / 3 + k / 7 = z at *
    omega
theorem sev_great {r : Int} (h : 0 ≤ r) : Great [2, 3, 7] r [0, 0, 0] (42 * r) := by
  refine ⟨by omega, ?_, fun m m0 => ?_⟩
  · rw [fc_three]
    omega
  · obtain ⟨q, k, q0, k1, e, f⟩ := fc_sev m (by omega)
    obtain ⟨a, b, c, d⟩ := sev_nat k k1
    rw [f]
    generalize k / 2 + k / 3 + k / 7 = z at *
    omega
theorem three_least : Least [3] 0 [1000000000000000000] 499999999999999999 := by
  refine ⟨by decide, by decide, fun m m0 mt => ?_⟩
  rw [fc_one]
  omega
theorem two_never {r : Int} (h : 2 ≤ r) : Never [2, 2] r [0, 0] := fun m m0 => by
  rw [fc_two]
  omega
theorem two_want {n v : Int} (h : 2 ≤ n) (w : Want [2, 2] [0, 0] 0 n v) : v = 2 := by
  obtain ⟨v0, v1, v2⟩ := w
  have a := v1 1 (by omega) (by omega)
  rw [fc_two] at a
  rcases v2 with rfl | ⟨m, m0, m1, rfl⟩
  · omega
  · rw [fc_two] at a ⊢
    omega
theorem two_want' {n v : Int} (h : 2 ≤ n) (w : Want [2, 2] [2, 0] 0 n v) : v = 1 := by
  obtain ⟨v0, v1, v2⟩ := w
  have a := v1 1 (by omega) (by omega)
  rw [fc_two] at a
  rcases v2 with rfl | ⟨m, m0, m1, rfl⟩
  · omega
  · rw [fc_two] at a ⊢
    omega
end FR
namespace FR
/-! ### the greatest number, by shares -/
def shr (P : Int) : List Int → List Int → Int
  | c :: cs, s :: ss => s * (P / c) + shr P cs ss
  | _, _ => 0
def shl (P : Int) (cs ss : List Int) : List Int := (ss.zip (cs.map fun c => P / c)).map fun p => p.1 * p.2
theorem shl_get {P : Int} {cs ss : List Int} {i : Nat} {h s : Int} (h1 : (cs.map fun c => P / c)[i]? = some h) (h2 : ss[i]? = some s) : (shl P cs ss)[i]? = some (s * h) := by
  unfold shl
  rw [List.getElem?_map, List.getElem?_zip_eq_some (z := (s, h)) |>.mpr ⟨h2, h1⟩]
  rfl
theorem shl_sum (P : Int) : ∀ (cs ss : List Int), (shl P cs ss).sum = shr P cs ss
  | [], [] => rfl
  | [], _ :: _ => rfl
  | _ :: _, [] => rfl
  | c :: cs, s :: ss => by
    show (s * (P / c) :: shl P cs ss).sum = s * (P / c) + shr P cs ss
    rw [List.sum_cons, shl_sum P cs ss]
theorem shl_len {P : Int} {cs ss : List Int} (h : cs.length = ss.length) : (shl P cs ss).length = cs.length := by
  unfold shl
  rw [List.length_map, List.length_zip, List.length_map, h, Nat.min_self]
theorem shr_nonneg {P : Int} (hP : 0 ≤ P) : ∀ (cs ss : List Int), (∀ c ∈ cs, (2 : Int) ≤ c) → (∀ s ∈ ss, (0 : Int) ≤ s) → 0 ≤ shr P cs ss
  | [], _, _, _ => Int.le_refl _
  | _ :: _, [], _, _ => Int.le_refl _
  | c :: cs, s :: ss, hc, hs => by
    have ih := shr_nonneg hP cs ss (fun x h => hc x (List.mem_cons_of_mem _ h)) (fun x h => hs x (List.mem_cons_of_mem _ h))
    have c2 := hc c List.mem_cons_self
    have h1 : 0 ≤ s * (P / c) := Int.mul_nonneg (hs s List.mem_cons_self) (Int.ediv_nonneg hP (by omega))
    show 0 ≤ s * (P / c) + shr P cs ss
    omega
/-- a full card is no more than its shares -/
theorem fc_shares {P : Int} (hP : 0 ≤ P) : ∀ (cs ss : List Int) {m : Int}, cs.length = ss.length → (∀ c ∈ cs, (2 : Int) ≤ c) → (∀ c ∈ cs, c ∣ P) → fc cs ss m * P ≤ shr P cs ss + m * pq P cs
  | [], [], m, _, _, _ => by simp [fc, shr, pq]
  | c :: cs, s :: ss, m, hl, hc, hd => by
    have ih := fc_shares hP cs ss (m := m) (Nat.succ.inj hl) (fun x h => hc x (List.mem_cons_of_mem _ h)) (fun x h => hd x (List.mem_cons_of_mem _ h))
    have c2 := hc c List.mem_cons_self
    obtain ⟨k, rfl⟩ := hd c List.mem_cons_self
    have k0 : 0 ≤ k := by
      by_cases z : 0 ≤ k
      · exact z
      · have : c * k < 0 := Int.mul_neg_of_pos_of_neg (by omega) (by omega)
        omega
    have e : c * k / c = k := Int.mul_ediv_cancel_left _ (by omega)
    show ((s + m) / c + fc cs ss m) * (c * k) ≤ s * (c * k / c) + shr (c * k) cs ss + m * (c * k / c + pq (c * k) cs)
    rw [e, Int.add_mul, Int.mul_add m]
    have h1 : (s + m) / c * c ≤ s + m := Int.ediv_mul_le _ (by omega)
    have h2 : (s + m) / c * c * k ≤ (s + m) * k := Int.mul_le_mul_of_nonneg_right h1 k0
    rw [Int.add_mul, Int.mul_assoc] at h2
    omega
theorem pq_nonneg {P : Int} (hP : 0 ≤ P) : ∀ (cs : List Int), (∀ c ∈ cs, (2 : Int) ≤ c) → 0 ≤ pq P cs
  | [], _ => Int.le_refl _
  | c :: cs, hc => by
    have ih := pq_nonneg hP cs (fun x h => hc x (List.mem_cons_of_mem _ h))
    have c2 := hc c List.mem_cons_self
    have h1 : 0 ≤ P / c := Int.ediv_nonneg hP (by omega)
    show 0 ≤ P / c + pq P cs
    omega
def byShares (cs : List Int) (r : Int) (ss : List Int) : Int := (r * perOf cs + shr (perOf cs) cs ss) / (perOf cs - pq (perOf cs) cs)
theorem shares_ok {cs ss : List Int} {r : Int} (hC : Cards cs) (hl : cs.length = ss.length) (hs : ∀ s ∈ ss, (0 : Int) ≤ s) (hr : 0 ≤ r) (hp : pq (perOf cs) cs < perOf cs) : 0 ≤ byShares cs r ss ∧ ∀ m, byShares cs r ss < m → ¬ CanN cs r ss m := by
  obtain ⟨p1, _, hd⟩ := perOf_ok hC
  have c2 : ∀ c ∈ cs, (2 : Int) ≤ c := fun c h => (hC.2.2 c h).1
  unfold byShares
  refine ⟨Int.ediv_nonneg ?_ (by omega), fun m hm hcan => ?_⟩
  · have a := shr_nonneg (P := perOf cs) (by omega) cs ss c2 hs
    have b : 0 ≤ r * perOf cs := Int.mul_nonneg hr (by omega)
    omega
  · have a := fc_shares (P := perOf cs) (by omega) cs ss (m := m) hl c2 hd
    unfold CanN at hcan
    have b : m * perOf cs ≤ (r + fc cs ss m) * perOf cs := Int.mul_le_mul_of_nonneg_right hcan (by omega)
    rw [Int.add_mul] at b
    have d : m * (perOf cs - pq (perOf cs) cs) ≤ r * perOf cs + shr (perOf cs) cs ss := by
      rw [Int.mul_sub]
      omega
    have := Int.le_ediv_of_mul_le (by omega) d
    omega
theorem great_of {cs ss : List Int} {r g : Int} (hC : Cards cs) (g0 : 0 ≤ g) (h : CanN cs r ss g) (hm : ∀ m, g < m → ¬ CanN cs r ss m) : Great cs r ss g := by
  have c2 : ∀ c ∈ cs, (2 : Int) ≤ c := fun c h => (hC.2.2 c h).1
  refine ⟨g0, ?_, fun m h => ?_⟩
  · have a := hm (g + 1) (by omega)
    have b := fc_mono cs ss c2 (show g ≤ g + 1 by omega)
    unfold CanN at h a
    omega
  · have a := hm m h
    unfold CanN at a
    omega
/-! ### full cards given, many at once -/
theorem gone_many : ∀ (cs ss zs : List Int) (i : Nat) {k G c z : Int}, Gone cs ss zs k G → cs[i]? = some c → zs[i]? = some z → 2 ≤ c → Gone cs ss (zs.set i (z % c)) k (G + z / c)
  | [], [], [], i, _, _, _, _, _, h, _, _ => by simp at h
  | c :: cs, s :: ss, z :: zs, 0, k, G, c', z', ⟨g, h0, h1, h2⟩, hc, hz, h => by
    have e1 : c = c' := Option.some.inj hc
    have e2 : z = z' := Option.some.inj hz
    subst e1 e2
    have e := Int.emod_add_mul_ediv z c
    refine ⟨g + z / c, Int.emod_nonneg _ (by omega), ?_, ?_⟩
    · rw [Int.mul_add]
      omega
    · have e : G + z / c - (g + z / c) = G - g := by omega
      rw [e]
      exact h2
  | c :: cs, s :: ss, z :: zs, i + 1, k, G, c', z', ⟨g, h0, h1, h2⟩, hc, hz, h => by
    refine ⟨g, h0, h1, ?_⟩
    have := gone_many cs ss zs i h2 (by simpa using hc) (by simpa using hz) h
    have e : G + z' / c' - g = G - g + z' / c' := by omega
    rw [e]
    exact this
/-! ### what is told of loans -/
/-- the least loan -/
def loanOf (w r : Int) : Int := if w - r > 0 then w - r else 0
end FR
namespace FR
theorem great_4 : Great [4] 10 [0] 13 := ⟨by decide, by decide, fun m h => by rw [fc_one]; omega⟩
theorem great_3 : Great [3] 2 [0] 3 := ⟨by decide, by decide, fun m h => by rw [fc_one]; omega⟩
theorem can_3 : CanN [3] 2 [0] 3 := by unfold CanN; decide
theorem loan_3 {w : Int} (h : Want [3] [0] 0 3 w) : loanOf w 2 = 1 := by
  obtain ⟨v0, v1, v2⟩ := h
  have a := v1 2 (by omega) (by omega)
  rw [fc_one] at a
  have e : w = 3 := by
    rcases v2 with rfl | ⟨m, m0, m1, rfl⟩
    · omega
    · rw [fc_one] at a ⊢
      omega
  rw [e]
  decide
end FR
namespace FR
/-! ### folk in another order -/
theorem each_len {cs : List Int} : ∀ {ps : List (Int × List Int)} {ts : List Int}, Each cs ps ts → ts.length = ps.length
  | [], [], _ => rfl
  | _ :: _, _ :: _, .cons _ h => congrArg (· + 1) (each_len h)
theorem each_app {cs : List Int} : ∀ {ps qs : List (Int × List Int)} {ts us : List Int}, Each cs ps ts → Each cs qs us → Each cs (ps ++ qs) (ts ++ us)
  | [], _, [], _, _, h => h
  | _ :: _, _, _ :: _, _, .cons h1 h2, h => .cons h1 (each_app h2 h)
theorem each_rev {cs : List Int} : ∀ {ps : List (Int × List Int)} {ts : List Int}, Each cs ps ts → Each cs ps.reverse ts.reverse
  | [], [], _ => .nil
  | _ :: _, _ :: _, .cons h1 h2 => by
    rw [List.reverse_cons, List.reverse_cons]
    exact each_app (each_rev h2) (.cons h1 .nil)
theorem each_unique {cs : List Int} : ∀ {ps : List (Int × List Int)} {ts us : List Int}, Each cs ps ts → Each cs ps us → ts = us
  | [], [], [], _, _ => rfl
  | _ :: _, _ :: _, _ :: _, .cons h1 h2, .cons h3 h4 => by rw [least_unique h1 h3, each_unique h2 h4]
theorem each_mem {cs : List Int} : ∀ {ps : List (Int × List Int)} {ts : List Int} {p : Int × List Int}, Each cs ps ts → p ∈ ps → ∃ t, Least cs p.1 p.2 t
  | q :: ps, t :: ts, p, .cons h1 h2, hm => by
    rcases List.mem_cons.mp hm with rfl | hm
    · exact ⟨t, h1⟩
    · exact each_mem h2 hm
theorem sum_app : ∀ (xs ys : List Int), (xs ++ ys).sum = xs.sum + ys.sum
  | [], ys => by rw [List.nil_append, List.sum_nil, Int.zero_add]
  | x :: xs, ys => by rw [List.cons_append, List.sum_cons, List.sum_cons, sum_app xs ys, Int.add_assoc]
theorem sum_rev : ∀ (xs : List Int), xs.reverse.sum = xs.sum
  | [] => rfl
  | x :: xs => by
    rw [List.reverse_cons, sum_app, sum_rev xs, List.sum_cons, List.sum_cons, List.sum_nil]
    omega
theorem totR_rev (ps : List (Int × List Int)) : totR ps.reverse = totR ps := by
  unfold totR
  rw [List.map_reverse, sum_rev]
theorem good_rev {n : Nat} {ps : List (Int × List Int)} (h : GoodP n ps) : GoodP n ps.reverse := fun p hp => h p (List.mem_reverse.mp hp)
theorem sum_nonneg : ∀ {xs : List Int}, (∀ x ∈ xs, (0 : Int) ≤ x) → 0 ≤ xs.sum
  | [], _ => Int.le_refl _
  | x :: xs, h => by
    have := sum_nonneg (fun y hy => h y (List.mem_cons_of_mem _ hy))
    have := h x List.mem_cons_self
    rw [List.sum_cons]
    omega
theorem zadd_zero' {n : Nat} {xs : List Int} (h : xs.length = n) : zadd (List.replicate n 0) xs = xs := by
  rw [zadd_comm, ← h, zadd_zero]
theorem left_step {cs : List Int} : ∀ {ps : List (Int × List Int)} {ts o : List Int} {p : Int × List Int} {t : Int}, ps.length = ts.length → leftS cs (ps ++ [p]) (ts ++ [t]) o = zadd (leftS cs ps ts o) (lf cs p.2 t)
  | [], [], o, p, t, _ => rfl
  | q :: ps, u :: ts, o, p, t, h => left_step (ps := ps) (ts := ts) (o := zadd o (lf cs q.2 u)) (Nat.succ.inj h)
theorem zadd_le {m k : Int} : ∀ {xs ys : List Int}, (∀ x ∈ xs, x ≤ m) → (∀ y ∈ ys, y ≤ k) → ∀ z ∈ zadd xs ys, z ≤ m + k
  | [], _, _, _, z, hz => by cases hz
  | _ :: _, [], _, _, z, hz => by cases hz
  | x :: xs, y :: ys, hx, hy, z, hz => by
    rcases List.mem_cons.mp (show z ∈ (x + y) :: zadd xs ys from hz) with rfl | h
    · have := hx x List.mem_cons_self
      have := hy y List.mem_cons_self
      omega
    · exact zadd_le (fun a h => hx a (List.mem_cons_of_mem _ h)) (fun a h => hy a (List.mem_cons_of_mem _ h)) z h
theorem lf_le : ∀ (cs ss : List Int) {t : Int}, (∀ c ∈ cs, (2 : Int) ≤ c ∧ c ≤ 20) → ∀ x ∈ lf cs ss t, x ≤ 20
  | [], _, _, _, x, h => by cases h
  | _ :: _, [], _, _, x, h => by cases h
  | c :: cs, s :: ss, t, hc, x, h => by
    have c2 := hc c List.mem_cons_self
    rcases List.mem_cons.mp (show x ∈ ((s + t) % c) :: lf cs ss t from h) with rfl | h
    · have := Int.emod_lt_of_pos (s + t) (show 0 < c by omega)
      omega
    · exact lf_le cs ss (fun c h => hc c (List.mem_cons_of_mem _ h)) x h
end FR
namespace FR
/-! ### loans of lesser and greater numbers -/
theorem want_mono {cs ss : List Int} {n m v w : Int} (h : Want cs ss 0 n v) (h' : Want cs ss 0 m w) (hn : n ≤ m) : v ≤ w := by
  obtain ⟨_, _, a⟩ := h
  obtain ⟨b0, b1, _⟩ := h'
  rcases a with rfl | ⟨k, k0, k1, rfl⟩
  · exact b0
  · exact b1 k k0 (by omega)
theorem loan_mono {v w r : Int} (h : v ≤ w) : loanOf v r ≤ loanOf w r := by
  unfold loanOf
  split <;> split <;> omega
theorem loan_zero {cs ss : List Int} {n w r : Int} (h : Want cs ss 0 n w) (r0 : 0 ≤ r) : loanOf w r = 0 ↔ ∀ m, 0 ≤ m → m < n → m < r + fc cs ss m := by
  rw [want_iff h r0]
  unfold loanOf
  constructor
  · intro e
    split at e <;> omega
  · intro e
    rw [if_neg (by omega)]
theorem least_can {cs ss : List Int} {r t n : Int} (h : Least cs r ss t) (n0 : 0 ≤ n) (hn : n ≤ t) : CanN cs r ss n := by
  obtain ⟨_, a, b⟩ := h
  unfold CanN
  by_cases z : n = t
  · rw [z]
    omega
  · have := b n n0 (by omega)
    omega
end FR
namespace FR
theorem gone_lf : ∀ (cs ss : List Int) {n : Int}, (∀ c ∈ cs, (2 : Int) ≤ c) → cs.length = ss.length → Gone cs ss (lf cs ss n) n (fc cs ss n)
  | [], [], _, _, _ => rfl
  | c :: cs, s :: ss, n, hc, hl => by
    have ih := gone_lf cs ss (n := n) (fun x h => hc x (List.mem_cons_of_mem _ h)) (Nat.succ.inj hl)
    have c2 := hc c List.mem_cons_self
    refine ⟨(s + n) / c, Int.emod_nonneg _ (by omega), ?_, ?_⟩
    · have := Int.emod_add_mul_ediv (s + n) c
      omega
    · show Gone cs ss (lf cs ss n) n ((s + n) / c + fc cs ss n - (s + n) / c)
      rw [show (s + n) / c + fc cs ss n - (s + n) / c = fc cs ss n by omega]
      exact ih
end FR
namespace FR
theorem fc_lf : ∀ (cs ss : List Int) {n : Int}, (∀ c ∈ cs, (2 : Int) ≤ c) → fc cs (lf cs ss n) 0 = 0
  | [], _, _, _ => rfl
  | _ :: _, [], _, _ => rfl
  | c :: cs, s :: ss, n, hc => by
    have ih := fc_lf cs ss (n := n) (fun x h => hc x (List.mem_cons_of_mem _ h))
    have c2 := hc c List.mem_cons_self
    show ((s + n) % c + 0) / c + fc cs (lf cs ss n) 0 = 0
    have e : ((s + n) % c + 0) / c = 0 := by
      rw [Int.add_zero]
      exact Int.ediv_eq_zero_of_lt (Int.emod_nonneg _ (by omega)) (Int.emod_lt_of_pos _ (by omega))
    omega
theorem least_rest {cs ss : List Int} {n : Int} (hc : ∀ c ∈ cs, (2 : Int) ≤ c) : Least cs 0 (lf cs ss n) 0 :=
  ⟨Int.le_refl _, by rw [fc_lf cs ss hc]; rfl, fun m m0 m1 => by omega⟩
theorem fc_le : ∀ (cs ss : List Int) {n M : Int}, (∀ c ∈ cs, (2 : Int) ≤ c) → (∀ s ∈ ss, (0 : Int) ≤ s ∧ s ≤ M) → 0 ≤ n → 0 ≤ M → fc cs ss n ≤ cs.length * (M + n)
  | [], _, n, M, _, _, _, _ => by simp [fc]
  | c :: cs, [], n, M, _, _, h0, h1 => by
    show (0 : Int) ≤ _
    exact Int.mul_nonneg (by omega) (by omega)
  | c :: cs, s :: ss, n, M, hc, hs, h0, h1 => by
    have ih := fc_le cs ss (n := n) (M := M) (fun x h => hc x (List.mem_cons_of_mem _ h)) (fun x h => hs x (List.mem_cons_of_mem _ h)) h0 h1
    have c2 := hc c List.mem_cons_self
    have s2 := hs s List.mem_cons_self
    have h3 : (s + n) / c ≤ s + n := Int.ediv_le_self _ (by omega)
    show (s + n) / c + fc cs ss n ≤ _
    rw [List.length_cons, Int.natCast_succ, Int.add_mul]
    omega
end FR
namespace FR
open PySem PySem.Spec PyProof.Rows L2
/-! ### a def that is called: its promise, and where it stands -/
structure Def (P : Program) (w : World) (K : PySem.W.Frag) (mg : Str → Option Value) (base : Heap) (x : Str) (k : Nat) (ps : List Str) (sp : Sp) : Prop where
  ex : ∃ f fd, FnOk P w K mg base CX0 k f fd ps sp ∧ mg x = some (.ref f) ∧ PySem.W.keepIn K (.ref f) = true ∧ Binds K fd ps []
theorem pe_def {X : Cx} {k j : Nat} {ps : List Str} {sp : Sp} {x : Str} {p pos : Pos} {e : Expr} {es : List Expr} {t : TA} (D : Def X.prog X.w X.K X.mg X.base x k ps sp) (hr : Room j X.A) (ha : PA X (e :: es) t) (hg : Gl X x := by rfl) (hl : k ≤ j := by decide)
    (hdb : (x == ("__debug__" : Str)) = false := by decide) (he : starEach (e :: es) X.env = (false, eval e X.env) :: starEach es X.env := by rfl) (hpl : (backTo pos (starEach es X.env)).any (·.1) = false := by rfl) :
    PE X (.Call (.Name x p) (e :: es) [] pos) (tCall sp [] E0 t) := by
  obtain ⟨f, fd, F, m, kp, b⟩ := D.ex
  exact pe_call F (hr.mono hl) hg m kp b .nil pass0 ha hdb he hpl
theorem def_mk {P : Program} {w : World} {K : PySem.W.Frag} {mg : Str → Option Value} {base : Heap} {x : Str} {k : Nat} {ps : List Str} {sp : Sp} {f : Addr} {fd : FuncData} {st : Stmt} (F : Fun K x x st f fd) (ok : FnOk P w K mg base CX0 k f fd ps sp) (m : mg x = some (.ref f)) (b : Binds K fd ps []) : Def P w K mg base x k ps sp :=
  ⟨f, fd, ok, m, F.kp, b⟩
/-! ### heaps: what is kept -/
theorem same_upd {H : Hp} {p : Addr} {o : HO} (h : H p = none) : Same H (upd H p o) := fun b x e => by
  rw [upd_ne (ne_of_none e h)]
  exact e
/-- the two things of a bag: its numbers, its place -/
def BagSh (o : HO) : Prop := ∃ d c, o = .lst [.ref d, .int c]
structure Kp (H H' : Hp) : Prop where
  keep : ∀ a o, H a = some o → ¬ BagSh o → H' a = some o
  bag : ∀ a d c, H a = some (.lst [.ref d, .int c]) → ∃ c', H' a = some (.lst [.ref d, .int c'])
theorem Kp.of {H H' : Hp} (s : Same H H') : Kp H H' := ⟨fun a o e _ => s a o e, fun a d c e => ⟨c, s _ _ e⟩⟩
theorem Kp.refl (H : Hp) : Kp H H := .of (.refl H)
theorem Kp.trans {H H1 H2 : Hp} (x : Kp H H1) (y : Kp H1 H2) : Kp H H2 := by
  refine ⟨fun a o e n => y.keep a o (x.keep a o e n) n, fun a d c e => ?_⟩
  obtain ⟨c1, e1⟩ := x.bag a d c e
  exact y.bag a d c1 e1
/-- what is new to H may be laid or changed -/
theorem Kp.fresh {H H' : Hp} {p : Addr} {o : HO} (x : Kp H H') (h : H p = none) : Kp H (upd H' p o) := by
  refine ⟨fun a u e n => ?_, fun a d c e => ?_⟩
  · rw [upd_ne (ne_of_none e h)]
    exact x.keep a u e n
  · rw [upd_ne (ne_of_none e h)]
    exact x.bag a d c e
theorem Kp.none {H H' : Hp} {p : Addr} (x : Kp H H') (h : H' p = none) : H p = Option.none := by
  cases q : H p with
  | none => rfl
  | some o =>
    by_cases n : BagSh o
    · obtain ⟨d, c, rfl⟩ := n
      obtain ⟨c', e⟩ := x.bag p d c q
      rw [e] at h
      cases h
    · rw [x.keep p o q n] at h
      cases h
theorem Kp.new {H H' : Hp} {p : Addr} {o : HO} (x : Kp H H') (h : H' p = Option.none) : Kp H (upd H' p o) := x.fresh (x.none h)
theorem ntup {xs : List V} : ¬ BagSh (.tup xs) := fun ⟨_, _, e⟩ => nomatch e
theorem nfrz {ob : Obj} {u : HO} : ¬ BagSh (.frz ob u) := fun ⟨_, _, e⟩ => nomatch e
theorem nint {ns : List Int} : ¬ BagSh (.lst (ns.map V.int)) := by
  rintro ⟨d, c, e⟩
  have e' : ns.map V.int = [.ref d, .int c] := HO.lst.inj e
  cases ns with
  | nil => exact nomatch e'
  | cons n r =>
    have := (List.cons.inj e').1
    exact nomatch this
theorem Kp.tup {K : PySem.W.Frag} {H H' : Hp} {a : Addr} {xs : List V} (x : Kp H H') (h : SqT K H a xs) : SqT K H' a xs := by
  rcases h with (h | ⟨o, h⟩) | h
  · exact .inl (.inl (x.keep _ _ h ntup))
  · exact .inl (.inr ⟨o, x.keep _ _ h nfrz⟩)
  · exact .inr h
theorem Kp.ints {K : PySem.W.Frag} {H H' : Hp} {a : Addr} {ns : List Int} (x : Kp H H') (h : SqL K H a (ns.map V.int)) : SqL K H' a (ns.map V.int) := by
  rcases h with (h | ⟨o, h⟩) | h
  · exact .inl (.inl (x.keep _ _ h nint))
  · exact .inl (.inr ⟨o, x.keep _ _ h nfrz⟩)
  · exact .inr h
/-! ### bags -/
def Bag (H : Hp) (b : Addr) : Prop := ∃ (d : Addr) (c : Int) (ds : List Int), H b = some (.lst [.ref d, .int c]) ∧ H d = some (.lst (ds.map V.int)) ∧ ds.length = 400 ∧ ∀ x ∈ ds, (0 : Int) ≤ x ∧ x < 1000
theorem Kp.bags {H H' : Hp} {b : Addr} (x : Kp H H') (h : Bag H b) : Bag H' b := by
  obtain ⟨d, c, ds, h1, h2, h3⟩ := h
  obtain ⟨c', e⟩ := x.bag b d c h1
  exact ⟨d, c', ds, e, x.keep _ _ h2 nint, h3⟩
/-- the place moves on -/
theorem Kp.bump {H : Hp} {b d : Addr} {c c' : Int} (h : H b = some (.lst [.ref d, .int c])) : Kp H (upd H b (.lst [.ref d, .int c'])) := by
  refine ⟨fun a o e n => ?_, fun a d2 c2 e => ?_⟩
  · rw [upd_ne]
    · exact e
    · rintro rfl
      rw [h] at e
      cases e
      exact n ⟨d, c, rfl⟩
  · by_cases q : a = b
    · subst q
      rw [h] at e
      cases e
      exact ⟨c', upd_same⟩
    · exact ⟨c2, by rw [upd_ne q]; exact e⟩
theorem p0 {n : Int} (h : decide (0 < n) = true := by decide) : 0 < n := of_decide_eq_true h
/-! ### lists -/
theorem get_int {ns : List Int} {i : Nat} (h : i < ns.length) : (ns.map V.int)[i]? = some (.int ns[i]) := by
  rw [List.getElem?_map, List.getElem?_eq_getElem h]
  rfl
theorem at_int {ns : List Int} {k : Int} (h0 : 0 ≤ k) (h : k < (ns.length : Int)) : ∃ v, v ∈ ns ∧ ns[k.toNat]? = some v ∧ atI (ns.map V.int) k = some (.int v) := by
  have hk : k.toNat < ns.length := by omega
  refine ⟨ns[k.toNat], List.getElem_mem hk, List.getElem?_eq_getElem hk, ?_⟩
  exact at_of (j := k.toNat) (by omega) (get_int hk)
theorem get_map {ns : List Int} {i : Nat} {x : V} (h : (ns.map V.int)[i]? = some x) : ∃ v, ns[i]? = some v ∧ x = .int v := by
  rw [List.getElem?_map] at h
  cases q : ns[i]? with
  | none =>
    rw [q] at h
    exact nomatch h
  | some v =>
    rw [q] at h
    exact ⟨v, rfl, (Option.some.inj h).symm⟩
end FR
namespace FR
open PySem PySem.Spec PyProof.Rows L2
theorem nrefs {bs : List Addr} : ¬ BagSh (.lst (bs.map V.ref)) := by
  rintro ⟨d, c, e⟩
  have e' : bs.map V.ref = [.ref d, .int c] := HO.lst.inj e
  match bs, e' with
  | [], e' => exact nomatch e'
  | [_], e' => exact nomatch e'
  | _ :: y :: _, e' =>
    have := (List.cons.inj (List.cons.inj e').2).1
    exact nomatch this
theorem bag_upd {H : Hp} {D b : Addr} {bs : List Addr} {o : HO} (h : Bag H b) (e : H D = some (.lst (bs.map V.ref))) : Bag (upd H D o) b := by
  obtain ⟨d, c, ds, h1, h2, h3, h4⟩ := h
  have n1 : b ≠ D := ne_of h1 e (fun z => nrefs ⟨d, c, z.symm⟩)
  have n2 : d ≠ D := ne_of h2 e (fun z => by
    have z' : ds.map V.int = bs.map V.ref := HO.lst.inj z
    match ds, bs, z' with
    | [], _, _ => exact absurd h3 (by decide)
    | x :: r, [], z' => exact nomatch z'
    | x :: r, y :: t, z' => exact nomatch (List.cons.inj z').1)
  exact ⟨d, c, ds, by rw [upd_ne n1]; exact h1, by rw [upd_ne n2]; exact h2, h3, h4⟩
end FR
namespace FR
open PySem PySem.Spec PyProof.Rows L2
theorem ix_listK (K : PySem.W.Frag) {X : Cx} (h : X.K = K := by rfl) : IxR X (rIxL K) := h ▸ ix_list
theorem ix_tupK (K : PySem.W.Frag) {X : Cx} (h : X.K = K := by rfl) : IxR X (rIxT K) := h ▸ ix_tup
theorem call_len_seqK (K : PySem.W.Frag) {X : Cx} (h : X.K = K := by rfl) : CallR X (.builtin "len") (fun xs H Q => ∃ p ys, xs = [.ref p] ∧ (SqL K H p ys ∨ SqT K H p ys) ∧ Q (.int ys.length) H) := h ▸ call_len_seq
end FR
namespace FR
open PySem PySem.Spec PyProof.Rows L2
/-! ### data of any depth -/
theorem dp_len {K : PySem.W.Frag} {H : Hp} : ∀ {xs : List V} {ds : List PyData}, DpAll K H xs ds → xs.length = ds.length
  | _, _, .nil => rfl
  | _, _, .cons _ t => congrArg (· + 1) (dp_len t)
theorem dp_get {K : PySem.W.Frag} {H : Hp} : ∀ {xs : List V} {ds : List PyData} {i : Nat} {x : V}, DpAll K H xs ds → xs[i]? = some x → ∃ d, ds[i]? = some d ∧ Dp K H x d
  | _, _, i, _, .nil, e => by simp at e
  | _, _, 0, _, .cons h _, e => ⟨_, rfl, (Option.some.inj e) ▸ h⟩
  | _, _, i + 1, x, .cons (vs := vs) (ds := ds) _ t, e => by
    have e' : vs[i]? = some x := by simpa using e
    obtain ⟨d, h1, h2⟩ := dp_get t e'
    exact ⟨d, by simpa using h1, h2⟩
theorem Same.seqT {K : PySem.W.Frag} {H H' : Hp} {a : Addr} {xs : List V} (e : Same H H') (h : SqT K H a xs) : SqT K H' a xs := by
  rcases h with (h | ⟨o, h⟩) | h
  · exact .inl (.inl (e _ _ h))
  · exact .inl (.inr ⟨o, e _ _ h⟩)
  · exact .inr h
mutual
theorem Same.dp {K : PySem.W.Frag} {H H' : Hp} (e : Same H H') : ∀ {x : V} {d : PyData}, Dp K H x d → Dp K H' x d
  | _, _, .non => .non
  | _, _, .bl b => .bl b
  | _, _, .int b => .int b
  | _, _, .str b => .str b
  | _, _, .lst s t => .lst (L2.Same.seq e s) (Same.dpa e t)
  | _, _, .tup s t => .tup (Same.seqT e s) (Same.dpa e t)
theorem Same.dpa {K : PySem.W.Frag} {H H' : Hp} (e : Same H H') : ∀ {x : List V} {d : List PyData}, DpAll K H x d → DpAll K H' x d
  | _, _, .nil => .nil
  | _, _, .cons h t => .cons (Same.dp e h) (Same.dpa e t)
end
theorem dp_ints {K : PySem.W.Frag} {H : Hp} : ∀ (ns : List Int), DpAll K H (ns.map V.int) (ns.map PyData.int)
  | [] => .nil
  | n :: r => .cons (.int n) (dp_ints r)
theorem tyT {K : PySem.W.Frag} {H : Hp} {a : Addr} {xs : List V} (h : SqT K H a xs) : TyX K H (.ref a) (.type "tuple") := by
  rcases h with (h | ⟨o, h⟩) | ⟨o, _, _, h, c, _⟩
  · exact .base (.tup h)
  · exact .fTuple h
  · exact .kTuple h c
theorem tyL {K : PySem.W.Frag} {H : Hp} {a : Addr} {xs : List V} (h : SqL K H a xs) : TyX K H (.ref a) (.type "list") := by
  rcases h with (h | ⟨o, h⟩) | ⟨o, _, _, h, c, _⟩
  · exact .base (.lst h)
  · exact .base (.frz h)
  · exact .kList h c
/-! ### what the program tells of data -/
def withinD (lo hi : Int) : PyData → Bool
  | .int i => decide (lo ≤ i) && decide (i ≤ hi)
  | _ => false
def cardsD : PyData → Bool
  | .tuple ds => decide (1 ≤ ds.length) && decide (ds.length ≤ 3) && ds.all (withinD 2 20)
  | _ => false
def stampsD (n : Nat) : PyData → Bool
  | .tuple ds => decide (ds.length = n) && ds.all (withinD 0 1000000000000000000)
  | _ => false
def purseD (n : Nat) : PyData → Bool
  | .tuple [r, s] => withinD 0 1000000000000000000 r && stampsD n s
  | _ => false
theorem all_ints {lo hi : Int} {ns : List Int} (h : ∀ c ∈ ns, lo ≤ c ∧ c ≤ hi) : (ns.map PyData.int).all (withinD lo hi) = true := by
  rw [List.all_map, List.all_eq_true]
  intro c hc
  obtain ⟨h1, h2⟩ := h c hc
  show (decide (lo ≤ c) && decide (c ≤ hi)) = true
  rw [decide_eq_true h1, decide_eq_true h2]
  rfl
theorem cardsD_ok {cs : List Int} (h : Cards cs) : cardsD (.tuple (cs.map PyData.int)) = true := by
  show (decide (1 ≤ (cs.map PyData.int).length) && decide ((cs.map PyData.int).length ≤ 3) && (cs.map PyData.int).all (withinD 2 20)) = true
  rw [List.length_map, all_ints h.2.2, decide_eq_true h.1, decide_eq_true h.2.1]
  rfl
def Stamps (n : Nat) (ss : List Int) : Prop := ss.length = n ∧ ∀ x ∈ ss, (0 : Int) ≤ x ∧ x ≤ 1000000000000000000
theorem stampsD_ok {n : Nat} {ss : List Int} (h : Stamps n ss) : stampsD n (.tuple (ss.map PyData.int)) = true := by
  show (decide ((ss.map PyData.int).length = n) && (ss.map PyData.int).all (withinD 0 1000000000000000000)) = true
  rw [List.length_map, all_ints h.2, decide_eq_true h.1]
  rfl
/-- a purse as it stands -/
def Purse (K : PySem.W.Frag) (H : Hp) (p : Addr) (r : Int) (ss : List Int) : Prop := ∃ sA, SqT K H p [.int r, .ref sA] ∧ SqT K H sA (ss.map V.int)
theorem Purse.dp {K : PySem.W.Frag} {H : Hp} {p : Addr} {r : Int} {ss : List Int} (h : Purse K H p r ss) : Dp K H (.ref p) (.tuple [.int r, .tuple (ss.map PyData.int)]) := by
  obtain ⟨sA, h1, h2⟩ := h
  exact .tup h1 (.cons (.int r) (.cons (.tup h2 (dp_ints ss)) .nil))
theorem purseD_ok {n : Nat} {r : Int} {ss : List Int} (h0 : 0 ≤ r) (h1 : r ≤ 1000000000000000000) (h : Stamps n ss) : purseD n (.tuple [.int r, .tuple (ss.map PyData.int)]) = true := by
  show ((decide (0 ≤ r) && decide (r ≤ 1000000000000000000)) && stampsD n (.tuple (ss.map PyData.int))) = true
  rw [stampsD_ok h, decide_eq_true h0, decide_eq_true h1]
  rfl
theorem Purse.same {K : PySem.W.Frag} {H H' : Hp} {p : Addr} {r : Int} {ss : List Int} (e : Same H H') (h : Purse K H p r ss) : Purse K H' p r ss := by
  obtain ⟨sA, h1, h2⟩ := h
  exact ⟨sA, Same.seqT e h1, Same.seqT e h2⟩
theorem Purse.kp {K : PySem.W.Frag} {H H' : Hp} {p : Addr} {r : Int} {ss : List Int} (e : Kp H H') (h : Purse K H p r ss) : Purse K H' p r ss := by
  obtain ⟨sA, h1, h2⟩ := h
  exact ⟨sA, e.tup h1, e.tup h2⟩
theorem same_fresh {H H' : Hp} {p : Addr} {o : HO} (x : Same H H') (h : H p = none) : Same H (upd H' p o) := fun b u e => by
  rw [upd_ne (ne_of_none e h)]
  exact x b u e
theorem same_new {H H' : Hp} {p : Addr} {o : HO} (x : Same H H') (h : H' p = none) : Same H (upd H' p o) := same_fresh x (x.free h)
theorem take_map {α β : Type} {l : List α} {i : Nat} {z : α} (f : α → β) (h : l[i]? = some z) : (l.take (i + 1)).map f = (l.take i).map f ++ [f z] := by
  rw [List.take_add_one, h, List.map_append]
  rfl
/-- a comprehension over two tuples, one beside the other -/
theorem lc_zipT {K : PySem.W.Frag} {a b : Addr} {xs ys : List V} {g : TG} {tt : TT} {te : TE} {vs : List Nat} {σ : L2.St} {H1 : Hp} {D : Addr} {Qd : Hp → Prop} (hl : xs.length = ys.length) (Pv : Nat → Hp → Prop) (h0 : Pv 0 (upd H1 D (.lst []))) (hq : ∀ i H, Pv i H → SqT K H a xs ∧ SqT K H b ys)
    (hs : ∀ (i : Nat) (x y : V) (T : Addr) (H : Hp), xs[i]? = some x → ys[i]? = some y → Pv i H → H T = none → g (.ref T) (wipe σ vs) (upd H T (.tup [x, y])) fun σ2 H2 => wipe σ2 vs = wipe σ vs ∧ tt σ2 H2 fun b H3 =>
      if b = true then te σ2 H3 fun y H4 => ∃ acc, H4 D = some (.lst acc) ∧ acc.length < sizeLine ∧ Pv (i + 1) (upd H4 D (.lst (acc ++ [y]))) else Pv (i + 1) H3) (hd : ∀ H, Pv xs.length H → Qd H) :
    ∃ W : Nat → Nat → Hp → Prop, (∃ m, W 0 m (upd H1 D (.lst []))) ∧ ∀ i m H, W i m H →
      ((RZ.ItzT K a b).stop i H ∧ Qd H) ∨ ((RZ.ItzT K a b).go i H ∧ ∃ Nx : Hp → Prop, (∀ H', Nx H' → ∃ m', m' < m ∧ W (i + 1) m' H') ∧ ∀ x H', (RZ.ItzT K a b).yld i H x H' → g x (wipe σ vs) H' fun σ2 H2 => wipe σ2 vs = wipe σ vs ∧ tt σ2 H2 fun b H3 =>
        if b = true then te σ2 H3 fun y H4 => ∃ acc, H4 D = some (.lst acc) ∧ acc.length < sizeLine ∧ Nx (upd H4 D (.lst (acc ++ [y]))) else Nx H3) := by
  refine ⟨fun i m H => m = xs.length - i ∧ i ≤ xs.length ∧ Pv i H, ⟨xs.length, rfl, Nat.zero_le _, h0⟩, ?_⟩
  rintro i m H ⟨rfl, hi, p⟩
  obtain ⟨qx, qy⟩ := hq i H p
  by_cases hlt : i < xs.length
  · have g1 : xs[i]? = some xs[i] := List.getElem?_eq_getElem hlt
    have g2 : ys[i]? = some ys[i] := List.getElem?_eq_getElem (by omega)
    refine .inr ⟨⟨_, _, _, _, qx, qy, g1, g2⟩, Pv (i + 1), fun H' p' => ⟨xs.length - (i + 1), by omega, rfl, hlt, p'⟩, fun x H' y => ?_⟩
    obtain ⟨T, x1, x2, rfl, nT, rfl, f1, f2⟩ := y
    exact hs i x1 x2 T H (f1 _ qx) (f2 _ qy) p nT
  · have e : i = xs.length := by omega
    subst e
    exact .inl ⟨⟨_, _, qx, qy, .inl (Nat.le_refl _)⟩, hd H p⟩
end FR
namespace FR
open PySem PySem.Spec PyProof.Rows L2
theorem len2 {α : Type} : ∀ {xs : List α}, xs.length = 2 → ∃ x y, xs = [x, y]
  | [x, y], _ => ⟨x, y, rfl⟩
theorem dp_two {K : PySem.W.Frag} {H : Hp} {x y : V} {ds : List PyData} (h : DpAll K H [x, y] ds) : ∃ d e, ds = [d, e] ∧ Dp K H x d ∧ Dp K H y e := by
  cases h with
  | cons h1 t =>
    cases t with
    | cons h2 u =>
      cases u with
      | nil => exact ⟨_, _, rfl, h1, h2⟩
theorem purse_not2 {n : Nat} : ∀ {ds : List PyData}, ds.length ≠ 2 → purseD n (.tuple ds) = false
  | [], _ => rfl
  | [_], _ => rfl
  | [_, _], h => absurd rfl h
  | _ :: _ :: _ :: _, _ => rfl
end FR
namespace FR
open PySem PySem.Spec PyProof.Rows L2
/-- what is told of a purse -/
def ToldV (cs : List Int) (r : Int) (ss : List Int) : V → Prop
  | .int t => Least cs r ss t
  | .non => Never cs r ss
  | _ => False
def LeftV (cs : List Int) (r : Int) (ss : List Int) (v : V) (H : Hp) : Prop :=
  (v = .non ∧ Never cs r ss) ∨ ∃ (p : Addr) (t : Int), v = .ref p ∧ H p = some (.tup ((lf cs ss t).map V.int)) ∧ Least cs r ss t
end FR
namespace FR
open PySem PySem.Spec PyProof.Rows L2
/-- no fewer are told where no fewer are paid for -/
theorem nf_of {cs ss cs' ss' : List Int} {r r' : Int} {v v' : V} (h : ToldV cs r ss v) (h' : ToldV cs' r' ss' v') (mono : ∀ m, 0 ≤ m → r + fc cs ss m ≤ r' + fc cs' ss' m) : v' = .non ∨ ∃ i j, v' = .int i ∧ v = .int j ∧ j ≤ i := by
  match v', h' with
  | .non, _ => exact .inl rfl
  | .int t', h' =>
    obtain ⟨a0, a1, a2⟩ := h'
    have m1 := mono t' a0
    match v, h with
    | .non, h =>
      have := h t' a0
      omega
    | .int t, h =>
      obtain ⟨b0, b1, b2⟩ := h
      refine .inr ⟨t', t, rfl, rfl, ?_⟩
      by_cases c : t' < t
      · have := b2 t' a0 c
        omega
      · omega
/-- a slice of a tuple, a sum of two: whatever is laid -/
theorem rd_slA {K : PySem.W.Frag} {H : Hp} {Q : VK} {a : Addr} {xs : List V} {lo hi : Option Int} (h : SqT K H a xs) (q : ∀ b H', Same H H' → SqT K H' b (cutV xs lo hi) → Q (.ref b) H') : rSlA K (.ref a) lo hi H Q := by
  refine ⟨a, xs, rfl, h, fun c => ?_, fun c p np => q p _ (same_upd np) (SqT.of upd_same)⟩
  refine q a H (.refl H) ?_
  unfold cutV
  rw [c.1, c.2, List.drop_zero, Nat.sub_zero, List.take_length]
  exact h
theorem rd_catA {K : PySem.W.Frag} {H : Hp} {Q : VK} {a b : Addr} {xs ys : List V} (h1 : SqT K H a xs) (h2 : SqT K H b ys) (hl : xs.length + ys.length ≤ 1000) (q : ∀ p H', Same H H' → SqT K H' p (xs ++ ys) → Q (.ref p) H') : rCatA K (.ref a) (.ref b) H Q := by
  refine ⟨a, b, xs, ys, rfl, rfl, h1, h2, Nat.le_of_lt (small1000 hl), fun e => ?_, fun _ e => ?_, fun _ _ p np => q p _ (same_upd np) (SqT.of upd_same)⟩
  · subst e
    exact q b H (.refl H) h2
  · subst e
    exact q a H (.refl H) (by rw [List.append_nil]; exact h1)
theorem cut_to {ns : List Int} {k : Int} (h0 : 0 ≤ k) : cutV (ns.map V.int) none (some k) = (ns.take k.toNat).map V.int := by
  unfold cutV
  obtain ⟨n, rfl⟩ : ∃ n : Nat, k = (n : Int) := ⟨k.toNat, by omega⟩
  rw [HT.sIx_none, HT.sIx_nat, List.drop_zero, Nat.sub_zero, List.length_map, List.map_take]
  by_cases c : n ≤ ns.length
  · rw [Nat.min_eq_left c]
    rfl
  · rw [Nat.min_eq_right (by omega), ← List.length_map (f := V.int), List.take_length]
    exact (List.take_of_length_le (by rw [List.length_map]; show ns.length ≤ n; omega)).symm
theorem cut_from {ns : List Int} {k : Int} (h0 : 0 ≤ k) : cutV (ns.map V.int) (some k) none = (ns.drop k.toNat).map V.int := by
  unfold cutV
  obtain ⟨n, rfl⟩ : ∃ n : Nat, k = (n : Int) := ⟨k.toNat, by omega⟩
  rw [HT.sIx_none, HT.sIx_nat, List.length_map, List.map_drop]
  by_cases c : n ≤ ns.length
  · rw [Nat.min_eq_left c, List.take_of_length_le (by rw [List.length_drop, List.length_map]; exact Nat.le_refl _)]
    rfl
  · rw [Nat.min_eq_right (by omega), List.drop_eq_nil_of_le (by rw [List.length_map]; exact Nat.le_refl _), List.take_nil]
    exact (List.drop_eq_nil_of_le (by rw [List.length_map]; show ns.length ≤ n; omega)).symm
theorem Kp.same {H H' : Hp} (s : Same H H') : Kp H H' := .of s
theorem get_ref {bs : List Addr} {i : Nat} {x : V} (h : (bs.map V.ref)[i]? = some x) : ∃ b, b ∈ bs ∧ x = .ref b := by
  rw [List.getElem?_map] at h
  cases q : bs[i]? with
  | none =>
    rw [q] at h
    exact nomatch h
  | some b =>
    rw [q] at h
    exact ⟨b, List.mem_of_getElem? q, (Option.some.inj h).symm⟩
end FR
namespace FR
open PySem PySem.Spec PyProof.Rows L2
theorem lay_ints : ∀ ns : List Int, PyData.canLayAll0 (ns.map PyData.int) = true
  | [] => by simp [PyData.canLayAll0]
  | n :: r => by simp [PyData.canLayAll0, PyData.canLay0, lay_ints r]
theorem deep_ints : ∀ ns : List Int, PyData.depthAll (ns.map PyData.int) = 0
  | [] => by simp [PyData.depthAll]
  | n :: r => by simp [PyData.depthAll, PyData.depth, deep_ints r]
theorem shaped_tup (ns : List Int) : SeqAt.shaped (.tuple (ns.map PyData.int)) = true := by
  unfold SeqAt.shaped
  rw [PyData.canLay0, PyData.depth, lay_ints, deep_ints]
  rfl
theorem eqv_tup (ns : List Int) : PyData.eqv (.tuple (ns.map PyData.int)) (.tuple (ns.map PyData.int)) = true := SeqAt.eqv_refl _ (by rw [PyData.canLay0]; exact lay_ints ns)
theorem iteP {c A B : Prop} [Decidable c] (hc : c) (h : A) : if c then A else B := by
  rw [if_pos hc]
  exact h
theorem iteN {c A B : Prop} [Decidable c] (hc : ¬ c) (h : B) : if c then A else B := by
  rw [if_neg hc]
  exact h
theorem nn_int {t : Int} : (!decide (V.int t = V.non)) = true := by
  rw [decide_eq_false (fun z => nomatch z)]
  rfl
theorem none_ir {t : Int} {o : Addr} : V.bl (decide (V.int t = .non)) = V.bl (decide (V.ref o = .non)) := by
  rw [decide_eq_false (fun z => nomatch z), decide_eq_false (fun z => nomatch z)]
theorem told_never {cs ss : List Int} {r : Int} {v : V} (h : ToldV cs r ss v) (n : Never cs r ss) : v = .non := by
  match v, h with
  | .non, _ => rfl
  | .int t, h => exact (least_never h n).elim
theorem told_least {cs ss : List Int} {r t : Int} {v : V} (h : ToldV cs r ss v) (n : Least cs r ss t) : v = .int t := by
  match v, h with
  | .non, h => exact (least_never n h).elim
  | .int u, h => rw [least_unique h n]
end FR
namespace FR
open PySem PySem.Spec PyProof.Rows L2
theorem rd_slFrom {K : PySem.W.Frag} {σ : L2.St} {H : Hp} {Q : VK} {a : Addr} {xs : List V} {lo : Option Int} (h : SqT K H a xs) (q : ∀ b H', Same H H' → SqT K H' b (cutV xs lo none) → Q (.ref b) H') : tNoPart σ H fun u H3 => rSlA K (.ref a) lo u H3 Q := rd_slA h q
end FR
namespace FR
open PySem PySem.Spec PyProof.Rows L2
/-! ### what the top has left -/
def FunAt (K : PySem.W.Frag) (mg : Str → Option Value) (x : Str) (st : Stmt) : Prop := ∃ f fd, Fun K x x st f fd ∧ mg x = some (.ref f)
theorem funAt_mk {K : PySem.W.Frag} {h : Heap} {mg : Str → Option Value} {x : Str} {st : Stmt} {f : Addr} {od an : Option Addr} {sl : Array (Option Value)} {oc kV dc pm cd ct : Value} (X : K.In h) (G : h.Ns mainGlobals mg)
    (a1 : PySem.W.nsIn K mainGlobals x = some (some (.ref f))) (l1 : K.lookup f = some ⟨oc, od, .func (PySem.W.fnOf x x (defArgs st) (defBody st) (defScope st) .none kV dc pm an cd ct), sl⟩) (c1 : PySem.W.codeIn K cd x = true) (k1 : PySem.W.keepIn K (.ref f) = true) : FunAt K mg x st :=
  ⟨f, _, fun_mk (st := st) l1 c1 k1, PySem.W.mg_of X G a1⟩
theorem FunAt.def {P : Program} {w : World} {K : PySem.W.Frag} {mg : Str → Option Value} {base : Heap} {x : Str} {st : Stmt} {k : Nat} {ps : List Str} {sp : Sp} (F : FunAt K mg x st) (ok : ∀ f fd, Fun K x x st f fd → FnOk P w K mg base CX0 k f fd ps sp)
    (h : ∀ (kV doc pm : Value) (an : Option Addr) (cdv ct : Value) (us : List Value), us.length = ps.length → bindArgs (PySem.W.fnOf x x (defArgs st) (defBody st) (defScope st) .none kV doc pm an cdv ct) ⟨us, []⟩ = pure (ps.zip us)) : Def P w K mg base x k ps sp := by
  obtain ⟨f, fd, F, m⟩ := F
  exact ⟨f, fd, ok f fd F, m, F.kp, F.binds h⟩
end FR
namespace FR
open PySem PySem.Spec PyProof.Rows L2
def FunAtX {K : PySem.W.Frag} {h : Heap} (_ : K.In h) (mg : Str → Option Value) (x : Str) (st : Stmt) : Prop := FunAt K mg x st
end FR
namespace FR
open PySem PySem.Spec PyProof.Rows L2
theorem glob_mk {K : PySem.W.Frag} {h : Heap} {mg : Str → Option Value} {x : Str} {n : Int} {v : Value} (X : K.In h) (G : h.Ns mainGlobals mg) (z : PySem.W.nsIn K mainGlobals x = some (some v)) (e : ∃ t, v = .int n t) : ∃ t, mg x = some (.int n t) := by
  obtain ⟨t, rfl⟩ := e
  exact ⟨t, PySem.W.mg_of X G z⟩
end FR
namespace FR
open PySem PySem.Spec PyProof.Rows L2
def EndlessV (cs ss : List Int) (v : V) : Prop := (v = .non ∧ pq (perOf cs) cs < perOf cs) ∨ ∃ t, v = .int t ∧ perOf cs ≤ pq (perOf cs) cs ∧ Want cs ss 0 (perOf cs) t
theorem at_ref {as : List Addr} {k : Int} (h0 : 0 ≤ k) (h : k < (as.length : Int)) : ∃ a, a ∈ as ∧ atI (as.map V.ref) k = some (.ref a) := by
  have hk : k.toNat < as.length := by omega
  refine ⟨as[k.toNat], List.getElem_mem hk, ?_⟩
  refine at_of (j := k.toNat) (by omega) ?_
  rw [List.getElem?_map, List.getElem?_eq_getElem hk]
  rfl
end FR
namespace FR
open PySem PySem.Spec PyProof.Rows L2
/-! ### deeds -/
def DeedV (n : Nat) (v : V) : Prop := v = .str "ride" ∨ ∃ i : Int, v = .int i ∧ 0 ≤ i ∧ i < (n : Int)
def Can (cs : List Int) (x : Int) (zs : List Int) (v : V) : Prop := (v = .str "ride" ∧ 0 < x) ∨ ∃ (i c z : Int), v = .int i ∧ 0 ≤ i ∧ cs[i.toNat]? = some c ∧ zs[i.toNat]? = some z ∧ c ≤ z
def aftX (x : Int) : V → Int
  | .str _ => x - 1
  | _ => x + 1
def aftS (cs zs : List Int) : V → List Int
  | .str _ => zs.map (· + 1)
  | .int i => zs.set i.toNat (zs.getD i.toNat 0 - cs.getD i.toNat 0)
  | _ => zs
def dD : V → PyData
  | .str x => .str x
  | .int i => .int i
  | _ => .none
theorem deeds_dp {K : PySem.W.Frag} {H : Hp} {n : Nat} : ∀ {xs : List V}, (∀ v ∈ xs, DeedV n v) → DpAll K H xs (xs.map dD)
  | [], _ => .nil
  | v :: xs, h => by
    have h1 := deeds_dp (K := K) (H := H) (xs := xs) (fun x hx => h x (List.mem_cons_of_mem _ hx))
    rcases h v (List.mem_cons_self ..) with rfl | ⟨i, rfl, _, _⟩
    · exact .cons (.str _) h1
    · exact .cons (.int i) h1
theorem ride_ok : PyData.canLay0 (.str "ride") = true := by
  rw [PyData.canLay0]
  decide +kernel
theorem deeds_lay {n : Nat} : ∀ {xs : List V}, (∀ v ∈ xs, DeedV n v) → PyData.canLayAll0 (xs.map dD) = true ∧ PyData.depthAll (xs.map dD) = 0
  | [], _ => by simp [PyData.canLayAll0, PyData.depthAll]
  | v :: xs, h => by
    have h1 := deeds_lay (xs := xs) (fun x hx => h x (List.mem_cons_of_mem _ hx))
    rcases h v (List.mem_cons_self ..) with rfl | ⟨i, rfl, _, _⟩
    · simp only [List.map_cons, dD, PyData.canLayAll0, PyData.depthAll, PyData.depth, ride_ok, h1.1, h1.2]
      exact ⟨rfl, rfl⟩
    · simp only [List.map_cons, dD, PyData.canLayAll0, PyData.canLay0, PyData.depthAll, PyData.depth, h1.1, h1.2]
      exact ⟨rfl, rfl⟩
theorem deeds_shaped {n : Nat} {xs : List V} (h : ∀ v ∈ xs, DeedV n v) : SeqAt.shaped (.list (xs.map dD)) = true := by
  unfold SeqAt.shaped
  rw [PyData.canLay0, PyData.depth, (deeds_lay h).1, (deeds_lay h).2]
  rfl
theorem shaped_nil : SeqAt.shaped (.list []) = true := by
  unfold SeqAt.shaped
  rw [PyData.canLay0, PyData.depth, PyData.canLayAll0, PyData.depthAll]
  rfl
theorem deeds_none {xs : List V} (h : xs = []) : (!PyData.eqv (.list (xs.map dD)) (.list [])) = false := by
  subst h
  rw [PyData.eqv]
  rfl
theorem deeds_some {xs : List V} (h : xs ≠ []) : (!PyData.eqv (.list (xs.map dD)) (.list [])) = true := by
  match xs, h with
  | _ :: _, _ =>
    rw [PyData.eqv]
    rfl
end FR
namespace FR
open PySem PySem.Spec PyProof.Rows L2
theorem ndeeds {n : Nat} {xs : List V} (h : ∀ v ∈ xs, DeedV n v) : ¬ BagSh (.lst xs) := by
  rintro ⟨d, c, e⟩
  have e' : xs = [.ref d, .int c] := HO.lst.inj e
  rcases h (.ref d) (by rw [e']; exact List.mem_cons_self ..) with g | ⟨i, g, _⟩ <;> exact nomatch g
theorem at_any {xs : List V} {k : Int} (h0 : 0 ≤ k) (h : k < (xs.length : Int)) : ∃ v, v ∈ xs ∧ atI xs k = some v := by
  have hk : k.toNat < xs.length := by omega
  exact ⟨xs[k.toNat], List.getElem_mem hk, at_of (j := k.toNat) (by omega) (List.getElem?_eq_getElem hk)⟩
/-- all deeds, in their order -/
def deedsL (n : Int) : List V := [.str "ride"] ++ rgV 0 n
theorem deedsL_len (n : Nat) : (deedsL n).length = n + 1 := by
  unfold deedsL
  rw [List.length_append, rgV_length, List.length_singleton]
  omega
theorem deedsL_mem {n : Nat} {v : V} : v ∈ deedsL n ↔ DeedV n v := by
  unfold deedsL DeedV rgV
  rw [List.mem_append, List.mem_singleton, List.mem_map]
  constructor
  · rintro (h | ⟨i, h1, h2⟩)
    · exact .inl h
    · rw [List.mem_range] at h1
      exact .inr ⟨0 + (i : Int), h2.symm, by omega, by omega⟩
  · rintro (h | ⟨i, rfl, h1, h2⟩)
    · exact .inl h
    · exact .inr ⟨i.toNat, List.mem_range.mpr (by omega), congrArg V.int (by omega)⟩
theorem nn_ref {p : Addr} : (!decide (V.ref p = V.non)) = true := by
  rw [decide_eq_false (fun z => nomatch z)]
  rfl
def OnV (K : PySem.W.Frag) (cs : List Int) (r : Int) (ss : List Int) (most : Int) (v : V) (H : Hp) : Prop :=
  (v = .non ∧ ∀ t, Least cs r ss t → most < t) ∨ ∃ (p s' : Addr) (t : Int), v = .ref p ∧ H p = some (.tup [.int t, .ref s']) ∧ SqT K H s' ((lf cs ss t).map V.int) ∧ Least cs r ss t ∧ t ≤ most
end FR
namespace FR
open PySem PySem.Spec PyProof.Rows L2
theorem shaped_non : SeqAt.shaped .none = true := by
  unfold SeqAt.shaped
  rw [PyData.canLay0, PyData.depth]
  rfl
theorem eqv_non : PyData.eqv .none .none = true := by rw [PyData.eqv]
theorem due_lay (t : Int) (ns : List Int) : PyData.canLay0 (.tuple [.int t, .tuple (ns.map PyData.int)]) = true := by
  rw [PyData.canLay0, PyData.canLayAll0, PyData.canLayAll0, PyData.canLayAll0, PyData.canLay0, PyData.canLay0, lay_ints]
  rfl
theorem due_shaped (t : Int) (ns : List Int) : SeqAt.shaped (.tuple [.int t, .tuple (ns.map PyData.int)]) = true := by
  unfold SeqAt.shaped
  rw [due_lay, PyData.depth, PyData.depthAll, PyData.depthAll, PyData.depthAll, PyData.depth, PyData.depth, deep_ints]
  rfl
theorem due_eqv (t : Int) (ns : List Int) : PyData.eqv (.tuple [.int t, .tuple (ns.map PyData.int)]) (.tuple [.int t, .tuple (ns.map PyData.int)]) = true := SeqAt.eqv_refl _ (due_lay t ns)
theorem SqT.same2 {K : PySem.W.Frag} {H H' : Hp} {a : Addr} {xs : List V} (h : SqT K H a xs) (e : Same H H') : SqT K H' a xs := Same.seqT e h
end FR
set_option maxHeartbeats 1000000
namespace FR
open PySem PySem.Spec PyProof.Rows L2
/-! ### an exception that has come down in the frame of X, ahead of its clauses -/
structure Down (X : Cx) (pins : List (Addr × Obj)) (σ : L2.St) (H : Hp) (B : Heap) (a : Addr) (cls : Value) (d : Option Addr) (t : Shared) : Prop where
  ok : X.Ok
  fly : HandSPX.FlyingZ B (X.env :: X.outer) a (L2N.Zn cls d) t.heap
  none : H a = Option.none
  inv : ∀ g : Heap, HandSPX.FlyingZ B (X.env :: X.outer) a (L2N.Zn cls d) g → t.heap.UpToSlots g → Inv X pins σ H { t with heap := g }
section
variable {X : Cx} {pins : List (Addr × Obj)} {σ : L2.St} {H : Hp} {B : Heap} {a : Addr} {cls : Value} {d : Option Addr} {t : Shared}
theorem Down.apart (Y : Down X pins σ H B a cls d t) (frame : X.env.frame = some X.env.locals) : a ≠ X.env.locals ∧ a ∉ X.fs := by
  obtain ⟨ob, fs, at_, _, isF⟩ := Y.fly.there
  have far : a ∉ frs (X.env :: X.outer) := by
    intro isIn
    obtain ⟨_, ob2, at2, noF⟩ := Y.fly.2.2.1.mem isIn
    rw [at_] at at2
    cases at2
    exact noF _ isF
  constructor
  · intro e
    refine far (List.mem_filterMap.mpr ⟨X.env, List.mem_cons_self, ?_⟩)
    rw [frame, e]
  · intro isIn
    obtain ⟨v, hv, e⟩ := List.mem_filterMap.mp isIn
    exact far (List.mem_filterMap.mpr ⟨v, List.mem_cons_of_mem _ hv, e⟩)
theorem Down.here (Y : Down X pins σ H B a cls d t) : Inv X pins σ H t := Y.inv t.heap Y.fly (Heap.UpToSlots.refl _)
/-- one named clause, whatever clauses follow -/
theorem clause_as {i : Nat} {x n : Str} {c : Value} {first : Stmt} {more : List Stmt} {p1 p2 : Pos} {rest : List ExceptHandler} {ts : Addr → Value → Option Addr → TS} {Wo : WX} {D : Ends} (Y : Down X pins σ H B a cls d t) (frame : X.env.frame = some X.env.locals)
    (nd : X.N.Nodup) (slot : X.N[i]? = some n) (isLoc : X.env.kindOf n = some .local) (nm : Names X x c)
    (suite : ∀ (a : Addr) (oe : Obj) (cls : Value) (d : Option Addr) (pn : List (Addr × Obj)), L2N.Zn cls d oe → (∃ vs, oe.data = .fields vs) → PSs (X.suite a ((a, oe) :: pn)) (first :: more) (ts a cls d))
    (wish : wAs X.K c i ts Wo D cls d σ H) (on : Wo cls d σ H → wpAny (model X.prog X.w) X.A (handleBy (.ref a) X.env rest) (SP X pins D) X.xe t) :
    wpAny (model X.prog X.w) X.A (handleBy (.ref a) X.env (.ExceptHandler (some (.Name x p1)) (some n) (first :: more) p2 :: rest)) (SP X pins D) X.xe t := by
  obtain ⟨offL, offF⟩ := Y.apart frame
  obtain ⟨ob, fs, at_, kind, isF⟩ := Y.fly.there
  have inSuite := Y.here.suite at_ isF Y.none offL offF
  obtain ⟨b, ask, yes, no⟩ := wish
  have asks := PySem.W.exm_one (M := model X.prog X.w) Y.here.kIn (fun _ _ _ _ k q => wpAny_typeOf_ref (k _ _ at_) (by rw [kind.1]; exact q)) ask
  refine wpAny_handleBy_cons (codeAny_handlers_test ?_) (fun z => by cases z)
  have reads : ∀ {Q E : Value → Shared → Prop}, Q c t → wpAny (model X.prog X.w) (X.A.mark (some (.ref a))) (eval (.Name x p1) X.env) Q E t := by
    intro Q E got
    rcases nm with ⟨g, dbg, m | ⟨m, v, ne⟩⟩
    · exact ld_glob (X := X.suite a ((a, ob) :: (X.pn ++ pins))) inSuite g m got dbg
    · exact ld_blt (X := X.suite a ((a, ob) :: (X.pn ++ pins))) inSuite g m v got ne dbg
  refine reads (asks.here ?_)
  cases b with
  | false => exact on (no rfl)
  | true =>
    refine codeAny_handlers_suite_as (HandSPX.lands_againZ Y.fly fun g fly2 up2 => ?_)
    obtain ⟨ob2, fs2, at2, kind2, isF2⟩ := fly2.there
    have inSuite2 := (Y.inv g fly2 up2).suite at2 isF2 Y.none offL offF
    refine store_ok (X := X.suite a ((a, ob2) :: (X.pn ++ pins))) (v := V.ref a) inSuite2 nd slot (.inl isLoc) rfl (fun t5 inv5 => ?_) (.inr isLoc)
    have run := (suite a ob2 cls d (X.pn ++ pins) kind2 ⟨_, isF2⟩).run [] t5 _ H _ inv5 (yes rfl a Y.none)
    refine wpAny_mono run (fun f t6 got => ?_) (fun _ _ z => z.elim)
    have gone : ∀ {σ6 : L2.St} {H6 : Hp} {Q : Shared → Prop}, Inv (X.suite a ((a, ob2) :: (X.pn ++ pins))) [] σ6 H6 t6 → (∀ t7, Inv X pins (σ6.set i Option.none) H6 t7 → Q t7) →
        wpAny (model X.prog X.w) X.A (do bindName X.env n .none; unbindBehindTheSuite X.env n p2) (fun _ => Q) X.xe t6 := fun inv6 q => gone_ok (inv6.unsuite Y.ok) nd slot isLoc q
    match f, got with
    | .next, ⟨_, _, inv6, q6⟩ => exact gone inv6 fun _ inv7 => ⟨_, _, inv7, q6⟩
    | .brk, ⟨_, _, inv6, q6⟩ => exact gone inv6 fun _ inv7 => ⟨_, _, inv7, q6⟩
    | .cont, ⟨_, _, inv6, q6⟩ => exact gone inv6 fun _ inv7 => ⟨_, _, inv7, q6⟩
    | .ret _, ⟨_, _, _, inv6, r6, q6⟩ => exact gone inv6 fun _ inv7 => ⟨_, _, _, inv7, r6, q6⟩
end
/-- try: body, except x1 as n: .., except x2 as n: ..; nothing else comes out of the body -/
theorem ps_try_as2 {X : Cx} {i : Nat} {x1 x2 n : Str} {c1 c2 : Value} {body : List Stmt} {f1 f2 : Stmt} {m1 m2 : List Stmt} {p1 p2 p3 p4 pos : Pos} {tb : WX → TS} {ts1 ts2 : Addr → Value → Option Addr → TS}
    (stk : X.stack = X.env :: X.outer) (frame : X.env.frame = some X.env.locals) (nd : X.N.Nodup) (slot : X.N[i]? = some n) (isLoc : X.env.kindOf n = some .local) (nm1 : Names X x1 c1) (nm2 : Names X x2 c2)
    (hb : ∀ (W : WX) (pn : List (Addr × Obj)) (xe : Value → Shared → Prop), L2N.Takes (X.tr pn xe) W → PassesOwn (model X.prog X.w) X.A X.env xe → PSs (X.tr pn xe) body (tb W))
    (s1 : ∀ (a : Addr) (oe : Obj) (cls : Value) (d : Option Addr) (pn : List (Addr × Obj)), L2N.Zn cls d oe → (∃ vs, oe.data = .fields vs) → PSs (X.suite a ((a, oe) :: pn)) (f1 :: m1) (ts1 a cls d))
    (s2 : ∀ (a : Addr) (oe : Obj) (cls : Value) (d : Option Addr) (pn : List (Addr × Obj)), L2N.Zn cls d oe → (∃ vs, oe.data = .fields vs) → PSs (X.suite a ((a, oe) :: pn)) (f2 :: m2) (ts2 a cls d)) :
    PS X (.Try body [.ExceptHandler (some (.Name x1 p1)) (some n) (f1 :: m1) p2, .ExceptHandler (some (.Name x2 p3)) (some n) (f2 :: m2) p4] [] [] pos)
      (fun D σ H => tb (wAs X.K c1 i ts1 (wAs X.K c2 i ts2 (fun _ _ _ _ => False) D) D) D σ H) := by
  refine ⟨fun pins s σ H D I h => wpAny_Try_except ?_⟩
  have fr : X.A.frames = some (X.env :: X.outer) := I.ok.frames.trans (congrArg some stk)
  refine wpAny_mono ((hb _ (X.pn ++ pins) _ ?_ PassesOwn.looking).run [] s σ H D (I.toTry _) h) (fun f t got => ?_) (fun _ _ z => z)
  · rintro u t ⟨a, B, sI, pins', σ', H', cls, d, rfl, inv', nb, up, sky, free, os, ag, wish⟩
    have inv := inv'.ofTry I.ok
    rw [show (X.tr (X.pn ++ pins) _).stack = X.env :: X.outer from stk] at sky
    refine L2N.Sky.land L2N.Zn.steady fr frame sky fun g fly up2 => ?_
    have Y : Down X pins σ' H' B a cls d { t with heap := g } := ⟨I.ok, fly, free, fun g2 fly2 up3 => inv.landed nb fly2.1 ((up.trans up2).trans up3) os ag⟩
    exact clause_as Y frame nd slot isLoc nm1 s1 wish fun wish2 => clause_as Y frame nd slot isLoc nm2 s2 wish2 False.elim
  · match f, got with
    | .next, ⟨_, _, inv, q⟩ => exact wpAny_execs_nil ⟨_, _, inv.ofTry I.ok, q⟩
    | .brk, ⟨_, _, inv, q⟩ => exact ⟨_, _, inv.ofTry I.ok, q⟩
    | .cont, ⟨_, _, inv, q⟩ => exact ⟨_, _, inv.ofTry I.ok, q⟩
    | .ret _, ⟨_, _, _, inv, r, q⟩ => exact ⟨_, _, _, inv.ofTry I.ok, r, q⟩
end FR
set_option maxHeartbeats 2000000
namespace FR
open PySem PySem.Spec PyProof.Rows L2 HotX
section
variable {prog : Program} {w : World} {A : Around} {E : Value → Shared → Prop} {s : Shared}
/-- where an exception is handled: the list's iterator comes to its end -/
theorem list_end_hot {it l x1 : Addr} {i : Nat} {items : Array Value} {Q : Option Value → Shared → Prop} (hot : HotAt A x1 s.heap) (ne : x1 ≠ it) (iter : s.heap.IsListIter it l i) (isl : s.heap.IsList l items) (out : items[i]? = none)
    (fin : ∀ g, Heap.ExtBut it s.heap g → Q none { s with heap := g }) : wpAny (model prog w) A (pyNext (.ref it)) Q E s := by
  obtain ⟨oi, geti, _, dati⟩ := id iter
  obtain ⟨ol, getl, _, nl, datl⟩ := isl
  obtain ⟨hh, o1, v1, get1, dat1, ctx1⟩ := hot
  unfold pyNext
  refine wpAny_bind (wpAny_attempt ?_)
  refine wpAny_callSpecial?_slot (name := Str.ofString "__next__") iter.typeIs slot_listiter_next ?_
  refine wpAny_call_entry slot_listiter_next iter.typeIs entry_listiter_next ?_ (args_listiter_next _)
  refine wpAny_bind (m := field (.ref it) 0) (wpAny_field geti dati (x := .ref l) rfl ?_)
  rw [if_neg (show ¬ (Value.ref l == Value.none) = true by simp)]
  refine wpAny_bind (m := field (.ref it) 1) (wpAny_field geti dati (x := .int i 0) rfl ?_)
  refine wpAny_bind (m := seqItems? (.ref l)) (wpAny_seqItems getl datl ?_)
  simp only [Int.toNat_natCast, out]
  refine wpAny_bind (wpAny_rule (wpAny_bind (wpAny_setField geti dati (by simp) ?_)))
  refine wpAny_bind (m := newExc (.type "StopIteration") []) ?_
  simp only [newExc, newTuple]
  refine wpAny_bind (wpAny_newObj_type (wpAny_bind (m := firstArgMember _ _) (wpAny_of_eq (a := Value.none) (by first | rfl | (simp only [firstArgMember]; rfl)) (wpAny_newObj_type ?_ (by size_fits)))) (by size_fits))
  have old : ∀ b o, b ≠ it → s.heap.get? b = some o → ∀ f, ((s.heap.update it f).get? b = some o) := fun b o nb e f => (Heap.get?_update_other _ _ (Ne.symm nb)).trans e
  refine raiseNew_hot ⟨hh, o1, v1, Heap.get?_push_of_some _ (Heap.get?_push_of_some _ (old x1 o1 ne get1 _)), dat1, ctx1⟩ (Nat.ne_of_lt (Heap.lt_size (Heap.get?_push_of_some _ (old x1 o1 ne get1 _)))) (Heap.get?_push_size _ rfl) rfl (by first | (simp; done) | (simp; omega)) ?_
  refine wpAny_bind (wpAny_isInstance (T := "StopIteration") (b := true) ⟨_, Heap.get?_update_self _ (Heap.get?_push_size _ rfl) rfl, rfl⟩ isSubtype_stop (wpAny_pure (fin _ fun b o nb e => ?_)))
  rw [Heap.get?_update_other _ _ (Nat.ne_of_gt (Heap.lt_size (Heap.get?_push_of_some _ (old b o nb e _))))]
  exact Heap.get?_push_of_some _ (Heap.get?_push_of_some _ (old b o nb e _))
theorem tup_end_hot {it l x1 : Addr} {i : Nat} {items : Array Value} {Q : Option Value → Shared → Prop} (hot : HotAt A x1 s.heap) (ne : x1 ≠ it) (iter : IsTupIter s.heap it l i) (isl : IsTup s.heap l items) (out : items[i]? = none)
    (fin : ∀ g, Heap.ExtBut it s.heap g → Q none { s with heap := g }) : wpAny (model prog w) A (pyNext (.ref it)) Q E s := by
  obtain ⟨oi, geti, _, dati⟩ := id iter
  obtain ⟨ol, getl, _, nl, datl⟩ := isl
  obtain ⟨hh, o1, v1, get1, dat1, ctx1⟩ := hot
  unfold pyNext
  refine wpAny_bind (wpAny_attempt ?_)
  refine wpAny_callSpecial?_slot (name := Str.ofString "__next__") iter.typeIs slot_tupleiter_next ?_
  refine wpAny_call_entry slot_tupleiter_next iter.typeIs entry_tupleiter_next ?_ (args_tupleiter_next _)
  refine wpAny_bind (m := field (.ref it) 0) (wpAny_field geti dati (x := .ref l) rfl ?_)
  rw [if_neg (show ¬ (Value.ref l == Value.none) = true by simp)]
  refine wpAny_bind (m := field (.ref it) 1) (wpAny_field geti dati (x := .int i 0) rfl ?_)
  refine wpAny_bind (m := seqItems? (.ref l)) (wpAny_seqItems getl datl ?_)
  simp only [Int.toNat_natCast, out]
  refine wpAny_bind (wpAny_rule (wpAny_bind (wpAny_setField geti dati (by simp) ?_)))
  refine wpAny_bind (m := newExc (.type "StopIteration") []) ?_
  simp only [newExc, newTuple]
  refine wpAny_bind (wpAny_newObj_type (wpAny_bind (m := firstArgMember _ _) (wpAny_of_eq (a := Value.none) (by first | rfl | (simp only [firstArgMember]; rfl)) (wpAny_newObj_type ?_ (by size_fits)))) (by size_fits))
  have old : ∀ b o, b ≠ it → s.heap.get? b = some o → ∀ f, ((s.heap.update it f).get? b = some o) := fun b o nb e f => (Heap.get?_update_other _ _ (Ne.symm nb)).trans e
  refine raiseNew_hot ⟨hh, o1, v1, Heap.get?_push_of_some _ (Heap.get?_push_of_some _ (old x1 o1 ne get1 _)), dat1, ctx1⟩ (Nat.ne_of_lt (Heap.lt_size (Heap.get?_push_of_some _ (old x1 o1 ne get1 _)))) (Heap.get?_push_size _ rfl) rfl (by first | (simp; done) | (simp; omega)) ?_
  refine wpAny_bind (wpAny_isInstance (T := "StopIteration") (b := true) ⟨_, Heap.get?_update_self _ (Heap.get?_push_size _ rfl) rfl, rfl⟩ isSubtype_stop (wpAny_pure (fin _ fun b o nb e => ?_)))
  rw [Heap.get?_update_other _ _ (Nat.ne_of_gt (Heap.lt_size (Heap.get?_push_of_some _ (old b o nb e _))))]
  exact Heap.get?_push_of_some _ (Heap.get?_push_of_some _ (old b o nb e _))
/-- a tuple into names, where an exception is handled -/
theorem unpack_hot {t x1 : Addr} {items : Array Value} {Q : List Value → Shared → Prop} (hot : HotAt A x1 s.heap) (isT : IsTup s.heap t items)
    (fin : ∀ g, Heap.ExtBut s.heap.objs.size s.heap g → Q items.toList { s with heap := g }) : wpAny (model prog w) A (unpackItems (.ref t) items.size none) Q E s := by
  obtain ⟨hh, o1, v1, get1, dat1, ctx1⟩ := hot
  have apart : t ≠ s.heap.objs.size := by
    obtain ⟨o, e, _⟩ := isT
    exact Nat.ne_of_lt (Heap.lt_size e)
  have apart1 : x1 ≠ s.heap.objs.size := Nat.ne_of_lt (Heap.lt_size get1)
  unfold unpackItems notIterableAtAll
  refine wpAny_bind (wpAny_bind (wpAny_specialOf isT.typeIs slot_tuple_iter.lookup (wpAny_pure ?_)))
  simp only [Bool.false_eq_true, if_false]
  refine wpAny_bind (wpAny_holding (iter_tuple isT (wpAny_bind (wpAny_holding ?_))))
  refine draw_tuple apart items.size 0 _ _ ⟨_, Heap.get?_push_size _ rfl, rfl, rfl⟩ (isT.push _) (by omega) fun g1 iter1 same1 => ?_
  rw [show List.take items.size (List.drop 0 items.toList) = items.toList by rw [List.drop_zero]; exact List.take_of_length_le (by simp), if_neg (by simp)]
  have get1' : g1.get? x1 = some o1 := same1.extBut x1 o1 apart1 (Heap.get?_push_of_some _ get1)
  refine wpAny_bind (wpAny_holding (tup_end_hot (s := { s with heap := g1 }) ⟨hh, o1, v1, get1', dat1, ctx1⟩ apart1 iter1 ((isT.push _).extBut same1.extBut apart) (by simp) fun g2 ext2 => ?_))
  simp only [Option.isSome_none, Bool.false_eq_true, if_false]
  exact wpAny_pure (fin g2 fun b o nb e => ext2 b o nb (same1.extBut b o nb (Heap.get?_push_of_some _ e)))
theorem assign_hot {env : Env} {elts : List Expr} {k : Nat} {pos : Pos} {t x1 : Addr} {items : Array Value} {Q : Unit → Shared → Prop} (hot : HotAt A x1 s.heap) (isT : IsTup s.heap t items) (many : (assignEach elts env).length = items.size) (noStar : (assignEach elts env).findIdx? (·.1) = none)
    (on : ∀ g, Heap.ExtBut s.heap.objs.size s.heap g → wpAny (model prog w) A (assignInOrder ((assignEach elts env).map (·.2)) items.toList) Q E { s with heap := g }) : wpAny (model prog w) A (assign (.Tuple elts k pos) env (.ref t)) Q E s := by
  rw [assign_Tuple]
  refine wpAny_bind (wpAny_standAt ?_)
  unfold unpack
  rw [many, noStar]
  exact wpAny_bind (wpAny_holding (unpack_hot hot isT on))
end
/-- in X an exception is handled, whose class is one of the program's own and whose context is None -/
def HotO (A : Around) (x1 : Addr) (h : Heap) : Prop := A.handled = some (.ref x1) ∧ ∃ (o : Obj) (vs : Array Value) (C : Addr), h.get? x1 = some o ∧ o.cls = .ref C ∧ o.data = .fields vs ∧ vs[2]? = some .none
theorem HotO.at {A : Around} {x1 : Addr} {h : Heap} (y : HotO A x1 h) : HotAt A x1 h := by
  obtain ⟨a, o, vs, _, e, _, d, c⟩ := y
  exact ⟨a, o, vs, e, d, c⟩
def Warm (X : Cx) : Prop := ∀ (pins : List (Addr × Obj)) (σ : L2.St) (H : Hp) (s : Shared), Inv X pins σ H s → ∃ x1, HotO X.A x1 s.heap
theorem pg_tupH {X : Cx} {es : List Expr} {k n : Nat} {t : TGs} {pos : Pos} (warm : Warm X) (parts : PGs X es t) (many : (assignEach es X.env).length = n := by rfl) (noStar : (assignEach es X.env).findIdx? (·.1) = none := by rfl) : PG X (.Tuple es k pos) (gTup X.K n t) := by
  refine ⟨fun pins s σ H v u Q I rel wish => ?_⟩
  obtain ⟨a, xs, rfl, sq, len, wish⟩ := wish
  cases rel
  obtain ⟨its, rv, isT, hz⟩ := I.tuple sq
  obtain ⟨x1, hot⟩ := warm _ _ _ _ I
  refine assign_hot hot.at isT (by simp [many, ← len, rv.length]) noStar fun g ext => ?_
  have I2 : Inv X pins σ H { s with heap := g } := I.kept (t' := s.toks) fun b o e => ext b o (Nat.ne_of_lt (Heap.lt_size e)) e
  exact parts.run pins _ σ H xs _ Q I2 (by simpa using rv) wish
end FR
set_option maxHeartbeats 2000000
namespace FR
open PySem PySem.Spec PyProof.Rows L2 HotX
/-- the handled exception stands apart from all that X may change -/
def WarmP (X : Cx) : Prop := ∃ (x1 : Addr) (o : Obj), (x1, o) ∈ X.pn ∧ X.A.handled = some (.ref x1) ∧ ∃ (vs : Array Value) (C : Addr), o.cls = .ref C ∧ o.data = .fields vs ∧ vs[2]? = some .none
theorem WarmP.warm {X : Cx} (y : WarmP X) : Warm X := by
  obtain ⟨x1, o, isIn, hh, vs, C, c, d, n⟩ := y
  intro pins σ H s I
  exact ⟨x1, hh, o, vs, C, (I.pin (x1, o) (List.mem_append_left _ isIn)).1, c, d, n⟩
theorem warm_suite {X : Cx} {a C : Addr} {oe : Obj} {d : Option Addr} {pn : List (Addr × Obj)} (z : L2N.Zn (.ref C) d oe) (f : ∃ vs, oe.data = .fields vs) : WarmP (X.suite a ((a, oe) :: pn)) := by
  obtain ⟨vs, f⟩ := f
  exact ⟨a, oe, List.mem_cons_self, rfl, vs, C, z.1, f, z.2.2 vs f⟩
/-- a list's turn where an exception is handled -/
theorem list_item {X : Cx} {pins : List (Addr × Obj)} {σ : L2.St} {H : Hp} {s : Shared} {E : Value → Shared → Prop} {tg : Expr} {a it : Addr} {i : Nat} (I : Inv X pins σ H s) (ap : FpOk X pins H it) (st : s.heap.IsListIter it a i) (go : (Itl X.K a).go i H) :
    wpAny (model X.prog X.w) X.A (pyNext (.ref it)) (fun r s1 => ∃ u, r = some u ∧ wpAny (model X.prog X.w) X.A (letOwnedTupleGo tg (.ref it) u) (fun _ s2 => ∃ x, Inv X pins σ H s2 ∧ RelV x u ∧ (Itl X.K a).yld i H x H ∧ s2.heap.IsListIter it a (i + 1)) E s1) E s := by
  obtain ⟨xs, x, sq, at_⟩ := go
  obtain ⟨its, rv, isl, _⟩ := I.list sq
  obtain ⟨u, atu, ru⟩ := rv.get at_
  obtain ⟨z0, z1, _, z3, z4, z5⟩ := ap
  refine wpAny_pyNext_list_item st isl.isList (x := u) (by simpa using atu) fun g st2 sb => ⟨u, rfl, ?_⟩
  have I2 : Inv X pins σ H { s with heap := g } := I.turned (t' := s.toks) (fun b ob nb e => (sb.2 b nb).trans e) z0 z1 z3 z4 z5
  obtain ⟨ob, e, c, d⟩ := id st2
  exact go_of (s := { s with heap := g }) e c d (by decide) ⟨x, I2, ru, ⟨rfl, fun ys hy => by rw [I.list_inj hy sq]; exact at_⟩, st2⟩
theorem list_done {X : Cx} {pins : List (Addr × Obj)} {σ : L2.St} {H : Hp} {s : Shared} {E : Value → Shared → Prop} {a it : Addr} {i : Nat} (warm : Warm X) (I : Inv X pins σ H s) (ap : FpOk X pins H it) (st : s.heap.IsListIter it a i) (stop : (Itl X.K a).stop i H) :
    wpAny (model X.prog X.w) X.A (pyNext (.ref it)) (fun r s1 => r = none ∧ Inv X pins σ H s1) E s := by
  obtain ⟨xs, sq, len⟩ := stop
  obtain ⟨its, rv, isl, _⟩ := I.list sq
  obtain ⟨z0, z1, _, z3, z4, z5⟩ := ap
  have hl := rv.length
  obtain ⟨x1, hot⟩ := warm _ _ _ _ I
  have ne : x1 ≠ it := by
    rintro rfl
    obtain ⟨_, o, vs, C, e, c, _⟩ := hot
    obtain ⟨ob, e2, c2, _⟩ := st
    rw [e] at e2
    cases e2
    rw [c] at c2
    cases c2
  exact list_end_hot hot.at ne st isl.isList (by simp; omega) fun g ext => ⟨rfl, I.turned (t' := s.toks) (fun b o nb e => ext b o nb e) z0 z1 z3 z4 z5⟩
/-- [elt for target in list if ..] where an exception is handled -/
theorem pe_lcH {X : Cx} {elt tg l : Expr} {ifs : List Expr} {scope : Scope} {own : List (Str × Nat)} {pos : Pos} {tl : TE} {g : TG} {tt : TT} {te : TE} (warm : WarmP X) (stk : X.stack = X.env :: X.outer) (frame : X.env.frame = some X.env.locals) (nd : X.N.Nodup) (hl : PE X l tl)
    (ok : BlkOk X.N X.env.scope scope own) (hg : ∀ (s : Shared) (H : Hp) (C : Addr) (cl : List (Str × Addr)) (fp : List Addr), Warm (X.blk s H scope (compEnvC scope cl C X.env) fp) → PG (X.blk s H scope (compEnvC scope cl C X.env) fp) tg g)
    (ht : ∀ (s : Shared) (H : Hp) (C : Addr) (cl : List (Str × Addr)) (fp : List Addr), PTs (X.blk s H scope (compEnvC scope cl C X.env) fp) ifs tt)
    (he : ∀ (s : Shared) (H : Hp) (C : Addr) (cl : List (Str × Addr)) (fp : List Addr), PE (X.blk s H scope (compEnvC scope cl C X.env) fp) elt te) (fold : ∀ x, foldedSetIterable l X.env x = pure x := by intro _; rfl) :
    PE X (.ListComp elt [⟨tg, l, ifs, 0⟩] scope pos) (tLc (iList X.K tl) g tt te (own.map (·.2))) := by
  refine ⟨fun pins s σ H Q I h => ?_⟩
  rw [eval_ListComp]
  have caught : ∀ y ∈ scope.names, y.2 = .free → ∃ c, X.env.cells.lookup y.1 = some c := by
    intro y hy e
    rcases ok.free y hy e with z | z
    · exact I.ok.has _ (.inl z)
    · exact I.ok.has _ (.inr z)
  refine wpAny_comprehension_free (use := none) rfl fold (closure_ok caught) ok.kind (fun y hy e => (ok.uniq y hy).trans (congrArg some e)) (thn (hl.run pins s σ H _ I h) fun v0 s1 made => ?_)
  obtain ⟨x0, H1, I1, r1, a, rfl, ⟨xs, sq⟩, wish⟩ := made
  cases r1
  obtain ⟨its, rv, isl, _⟩ := I1.list sq
  refine wpAny_pyIter_list isl.isList ?_
  -- the iterator
  generalize hit : s1.heap.objs.size = it
  generalize hs2 : ({ s1 with heap := s1.heap.push _ } : Shared) = s2
  have I2 : Inv X pins σ H1 s2 := by
    rw [← hs2]
    exact I1.kept (t' := s1.toks) fun b o e => Heap.get?_push_of_some _ e
  have st2 : s2.heap.IsListIter it a 0 := by
    rw [← hs2, ← hit]
    exact ⟨_, Heap.get?_push_size _ rfl, rfl, rfl⟩
  have ap2 : FpOk X pins H1 it := I1.fpOk (by rw [hit]; exact Nat.le_refl _) (I1.hok.fresh (by rw [hit]; exact Nat.le_refl _))
  refine wpAny_newObj_type (newEnv_comp ?_) (by show 0 ≤ sizeLine; decide)
  -- the new list
  generalize hD : s2.heap.objs.size = D
  generalize hs3 : ({ s2 with heap := s2.heap.push { cls := .type "list", data := .seq ([] : List Value).toArray } } : Shared) = s3
  have newD : H1 D = none := I2.hok.fresh (Nat.le_of_eq hD)
  obtain ⟨W, ⟨m0, w0⟩, turn⟩ := wish D newD
  have heap3 : s3.heap = s2.heap.push { cls := .type "list", data := .seq ([] : List Value).toArray } := by rw [← hs3]
  have I3 : Inv X pins σ (upd H1 D (.lst [])) s3 := by
    rw [← hs3]
    refine I2.laid (t' := s2.toks) (fun b o e => Heap.get?_push_of_some _ e) (Nat.le_of_eq hD) ⟨Nat.zero_le _, [], 0, .nil, ?_⟩
    rw [← hD]
    exact Heap.get?_push_size _ rfl
  have itLt : it < s2.heap.objs.size := by
    obtain ⟨o, e, _⟩ := st2
    exact Heap.lt_size e
  have itNe : it ≠ D := by
    rw [← hD]
    exact Nat.ne_of_lt itLt
  have ap3 : FpOk X pins (upd H1 D (.lst [])) it := ⟨by rw [upd_ne itNe]; exact ap2.1, ap2.2⟩
  have st3 : s3.heap.IsListIter it a 0 := st2.at fun o e => by
    rw [heap3]
    exact Heap.get?_push_of_some _ e
  have I4 := block_start (fp := [it]) I3 ok nd fun b hb => by
    rw [List.mem_singleton.mp hb]
    exact ⟨ap3, by rw [heap3, Heap.size_push]; exact Nat.lt_succ_of_lt itLt⟩
  -- the handled exception, in the block
  have blkWarm : ∀ ce : Env, Warm (X.blk s3 (upd H1 D (.lst [])) scope ce [it]) := by
    obtain ⟨x1, o, isIn, hh, vs, C, c, d, n⟩ := warm
    intro ce pins' σ' H' s' I'
    obtain ⟨p1, p2, p3, p4, _⟩ := I3.pin (x1, o) (List.mem_append_left _ isIn)
    have offF : x1 ∉ (X.blk s3 (upd H1 D (.lst [])) scope ce [it]).fs := by
      intro z
      obtain ⟨v, hv, e⟩ := List.mem_filterMap.mp z
      have hv' : v ∈ X.env :: X.outer := by
        rw [← stk]
        exact hv
      rcases List.mem_cons.mp hv' with g | g
      · rw [g, frame] at e
        exact p3 (Option.some.inj e).symm
      · exact p4 (List.mem_filterMap.mpr ⟨v, g, e⟩)
    have offI : x1 ∉ [it] := by
      intro z
      have z := List.mem_singleton.mp z
      obtain ⟨ob, e2, c2, _⟩ := st3
      rw [← z] at e2
      have e3 := p1.symm.trans e2
      cases e3
      rw [c] at c2
      cases c2
    exact ⟨x1, hh, o, vs, C, I'.base.keep x1 o p1 p2 offF offI, c, d, n⟩
  have wm := blkWarm (compEnvC scope (cellsFrom (s3.heap.objs.size + 1) scope.names (cloFrom X.env.cells scope.names [])) s3.heap.objs.size X.env)
  have pg := hg s3 (upd H1 D (.lst [])) s3.heap.objs.size (cellsFrom (s3.heap.objs.size + 1) scope.names (cloFrom X.env.cells scope.names [])) [it] wm
  have pt := ht s3 (upd H1 D (.lst [])) s3.heap.objs.size (cellsFrom (s3.heap.objs.size + 1) scope.names (cloFrom X.env.cells scope.names [])) [it]
  have pe := he s3 (upd H1 D (.lst [])) s3.heap.objs.size (cellsFrom (s3.heap.objs.size + 1) scope.names (cloFrom X.env.cells scope.names [])) [it]
  change codeAny _ _ (.compStart (.ListComp elt [⟨tg, l, ifs, 0⟩] scope pos) 0 (.ref it) (.ref D) (compEnvC scope (cellsFrom (s3.heap.objs.size + 1) scope.names (cloFrom X.env.cells scope.names [])) s3.heap.objs.size X.env))
    (compPost (model X.prog X.w) X.A X.xe none (EP X pins σ Q) (.ref D) s3.heap.objs.size) { s3 with heap := pushCells (s3.heap.push { cls := .type "dict", data := .dict #[] }) scope.names }
  generalize hce : compEnvC scope (cellsFrom (s3.heap.objs.size + 1) scope.names (cloFrom X.env.cells scope.names [])) s3.heap.objs.size X.env = ce at I4 pg pt pe wm ⊢
  have ceL : ce.locals = s3.heap.objs.size := by
    subst hce
    rfl
  generalize hs4 : ({ s3 with heap := pushCells (s3.heap.push { cls := .type "dict", data := .dict #[] }) scope.names } : Shared) = s4 at I4 ⊢
  have st4 : s4.heap.IsListIter it a 0 := st3.at fun o e => by
    rw [← hs4]
    exact pushCells_keeps _ _ _ _ (Heap.get?_push_of_some _ e)
  generalize hH3 : upd H1 D (.lst []) = H3 at I3 I4 pg pt pe wm w0 ap3
  have me : it ∈ [it] := List.mem_singleton.mpr rfl
  have apB : ∀ {σ' : L2.St} {H' : Hp} {t : Shared}, Inv (X.blk s3 H3 scope ce [it]) [] σ' H' t → H' it = none → FpOk (X.blk s3 H3 scope ce [it]) [] H' it := fun I' n =>
    ⟨n, (I'.ok.exf it me).1, I'.ok.exfs it me, .inl me, fun x c e => (I'.ok.exf it me).2 x c e, fun p hp => absurd (show p ∈ ([] : List (Addr × Obj)) ++ [] from hp) (by simp)⟩
  have loop : codeAny (model X.prog X.w) X.A (.compLoop (.ListComp elt [⟨tg, l, ifs, 0⟩] scope pos) 0 (.ref it) (.ref D) ce) (compPost (model X.prog X.w) X.A X.xe none (EP X pins σ Q) (.ref D) s3.heap.objs.size) s4 := by
    refine compLoop_any (fun n t => ∃ i H', Inv (X.blk s3 H3 scope ce [it]) [] (wipe σ (own.map (·.2))) H' t ∧ t.heap.IsListIter it a i ∧ H' it = none ∧ W i n H') ?_ m0 ⟨0, H3, I4, st4, ap3.1, w0⟩
    rintro n t5 ⟨i, H5, I5, st5, n5, w5⟩
    rcases turn i n H5 w5 with ⟨stop, q5⟩ | ⟨go, Nx, hNx, step⟩
    · refine thnF (list_done (X := X.blk s3 H3 scope ce [it]) wm I5 (apB I5 n5) st5 stop) fun r t6 ⟨hr, I6⟩ => ?_
      subst hr
      have I7 : Inv X pins σ H5 t6 := I3.call' (ch := [it]) I6.os I6.base I6.hok I6.bare fun b hb => by
        rw [List.mem_singleton.mp hb]
        exact ⟨ap3.2.2.2.1, ap3.2.1, ap3.2.2.2.2.1, ap3.2.2.2.2.2⟩
      have nC : H5 s3.heap.objs.size = none := ceL ▸ (show H5 ce.locals = none from I6.free)
      obtain ⟨m, ns, _⟩ := I6.loc
      have apC := I3.fpOk (H' := H5) (Nat.le_refl _) nC
      refine ⟨m, ceL ▸ (show t6.heap.Ns ce.locals m from ns), fun g sb => ⟨.ref D, H5, ?_, rfl, q5⟩⟩
      exact I7.turned (t' := t6.toks) (fun b o nb e => (sb.2 b nb).trans e) apC.1 apC.2.1 apC.2.2.2.1 apC.2.2.2.2.1 apC.2.2.2.2.2
    · refine thnF (list_item (X := X.blk s3 H3 scope ce [it]) (tg := tg) I5 (apB I5 n5) st5 go) fun r t6 ⟨u, hr, h6⟩ => ?_
      subst hr
      refine thnF h6 fun _ t7 ⟨x, I7, r7, y7, st7⟩ => ?_
      obtain ⟨oi, gi, ci, di⟩ := id st7
      have I7' := I7.pinned (fp := [it]) (fun b hb => by rw [List.mem_singleton.mp hb]; exact apB I7 n5) (fun b hb => by
        rw [List.mem_singleton.mp hb]
        exact ⟨oi, gi, fun v z => by rw [di] at z; cases z⟩)
      refine thnF (pg.run _ t7 _ H5 x u _ I7' r7 (step x H5 y7)) fun _ t8 ⟨σ8, H8, I8, w8, q8⟩ => ?_
      refine thnF (pt.run _ t8 σ8 H8 _ I8 q8) fun b t9 ⟨H9, I9, q9⟩ => ?_
      have fin : ∀ {t' : Shared} {H' : Hp}, Inv (X.blk s3 H3 scope ce [it]) ([] ++ pinsAt [it] t7.heap) σ8 H' t' → Nx H' → ∃ m, m < n ∧ ∃ i H', Inv (X.blk s3 H3 scope ce [it]) [] (wipe σ (own.map (·.2))) H' t' ∧ t'.heap.IsListIter it a i ∧ H' it = none ∧ W i m H' := by
        intro t' H' I' nx
        obtain ⟨m', hm, w'⟩ := hNx H' nx
        obtain ⟨gi', ni', _⟩ := I'.pin (it, oi) (List.mem_append_right _ (List.mem_append_right _ (mem_pinsAt me gi)))
        have len : (wipe σ (own.map (·.2))).length = σ8.length := by rw [← w8, wipe_length]
        refine ⟨m', hm, i + 1, H', (I'.unpinned (pins := [])).weak len (fun j v e => (wipe_some (by rw [w8]; exact e)).1), ?_, ni', w'⟩
        exact st7.at fun o e => by
          rw [gi] at e
          cases e
          exact gi'
      cases b with
      | false => exact fin I9 q9
      | true =>
        refine thnF (pe.run _ t9 σ8 H9 _ I9 q9) fun z t10 ⟨yv, H10, I10, r10, acc, hD10, hz10, nx⟩ => ?_
        exact app_ok (X := X.blk s3 H3 scope ce [it]) I10 hD10 hz10 r10 fun t11 I11 => fin I11 nx
  exact codeAny_compStart_list loop (wpAny_pyIter_listiter st4 loop)
end FR
set_option maxHeartbeats 2000000
namespace FR
open PySem PySem.Spec PyProof.Rows L2 HotX
/-! ### xs[i] op= e -/
def rGetL (K : PySem.W.Frag) : V → V → Hp → VK → Prop := fun o i H Q => ∃ p xs k v, o = .ref p ∧ i = .int k ∧ SqL K H p xs ∧ 0 ≤ k ∧ k < 2 ^ 63 ∧ xs[k.toNat]? = some v ∧ Q v H
theorem get_list {X : Cx} : PGet X (rGetL X.K) := by
  intro pins s σ H o i ov iv Q I ro ri h
  obtain ⟨p, xs, k, v, rfl, rfl, sq, k0, k1, at_, q⟩ := h
  cases ro
  obtain ⟨tk, rfl⟩ := ri
  obtain ⟨its, rv, isl, _⟩ := I.list sq
  obtain ⟨u, atu, ru⟩ := rv.get at_
  exact wpAny_getItem_list isl.isList k0 k1 (by simpa using atu) ⟨v, H, I, ru, q⟩
/-! ### defs that raise -/
structure ExcT (K : PySem.W.Frag) (mg : Str → Option Value) (x : Str) (C : Addr) : Prop where
  g : mg x = some (.ref C)
  ex : PySem.W.excIn K C [.type "ValueError", .type "Exception", .type "BaseException", .type "object"] "ValueError.__new__" = true
  kp : PySem.W.keepIn K (.ref C) = true
  sb : PySem.W.subIn K (.ref C) (.type "BaseException") = some true
  ty : PySem.W.typeIn K (.ref C) = some (.type "type")
theorem ps_raiseX {X : Cx} {x m : Str} {C : Addr} {j : Nat} {W : WX} {p p2 p3 p4 : Pos} (T : ExcT X.K X.mg x C) (tk : L2N.Takes X W) (hg : Gl X x := by rfl) (hc : X.calm = true := by rfl) (hdb : (x == ("__debug__" : Str)) = false := by decide) :
    PS X (.Raise (some (.Call (.Name x p) [.Constant (.str m) j p2] [] p3)) none p4) (fun _ σ H => W (.ref C) none σ H) :=
  L2N.ps_raise hc tk (L2N.pmk_own PySem.F.excBase_ValueError T.ex T.g T.kp (raises_own T.sb T.ty) hg hdb)
theorem okN {P : Program} {w : World} {K : PySem.W.Frag} {mg : Str → Option Value} {base : Heap} {x qual : Str} {st : Stmt} {f : Addr} {fd : FuncData} {N ps : List Str} {k : Nat} {sp : Sp} (F : Fun K x qual st f fd) (S : FnScope N ps (defScope st)) (len : ∀ vs H Q E, sp vs H Q E → vs.length = ps.length)
    (hbody : ∀ (cdv : Value) (A : Around) (outer : List Env) (s : Shared) (H : Hp) (vs : List V) (Q : VK) (E : XK), Room k (A.deeper (envOfC qual (defScope st) s.heap.objs.size f cdv)) → sp vs H Q E →
      ∃ t, PSs (cxOf (L2N.CX P w) P w K mg base N qual (defScope st) f cdv A outer s H E) (defBody st) t ∧ t { nx := fun _ H' => Q .non H', rt := Q } (L2.start N vs) H) : FnOk P w K mg base (L2N.CX P w) (k + 1) f fd ps sp := by
  obtain ⟨oc, od, kV, doc, pm, an, cdv, ct, osl, rfl, lk, hcd⟩ := F.ex
  exact fn_of lk hcd S len fun A outer s H vs Q E room wish => hbody cdv A outer s H vs Q E room wish
structure DefX (P : Program) (w : World) (K : PySem.W.Frag) (mg : Str → Option Value) (base : Heap) (x : Str) (k : Nat) (ps : List Str) (sp : Sp) : Prop where
  ex : ∃ f fd, FnOk P w K mg base (L2N.CX P w) k f fd ps sp ∧ mg x = some (.ref f) ∧ PySem.W.keepIn K (.ref f) = true ∧ Binds K fd ps []
theorem pe_defX {X : Cx} {k j : Nat} {ps : List Str} {sp : Sp} {x : Str} {p pos : Pos} {e : Expr} {es : List Expr} {t : TA} {E : XK} (D : DefX X.prog X.w X.K X.mg X.base x k ps sp) (hr : Room j X.A) (tk : L2N.Takes X (fun cls d _ H => E cls d H)) (ha : PA X (e :: es) t) (hg : Gl X x := by rfl) (hl : k ≤ j := by decide)
    (hdb : (x == ("__debug__" : Str)) = false := by decide) (he : starEach (e :: es) X.env = (false, eval e X.env) :: starEach es X.env := by rfl) (hpl : (backTo pos (starEach es X.env)).any (·.1) = false := by rfl) :
    PE X (.Call (.Name x p) (e :: es) [] pos) (tCall sp [] E t) := by
  obtain ⟨f, fd, F, m, kp, b⟩ := D.ex
  exact pe_call F (hr.mono hl) hg m kp b .nil (L2N.passes_call tk fun _ _ _ _ h => h) ha hdb he hpl
/-- a def as a value: its promise goes with its address -/
structure HeldX (P : Program) (w : World) (K : PySem.W.Frag) (mg : Str → Option Value) (base : Heap) (k : Nat) (f : Addr) (sp : Sp) : Prop where
  ex : ∃ (fd : FuncData) (ps : List Str), FnOk P w K mg base (L2N.CX P w) k f fd ps sp ∧ PySem.W.keepIn K (.ref f) = true ∧ Binds K fd ps []
def tCallV (i : Nat) (S : Addr → Sp → Prop) (W : WX) (t : TA) : TE := fun σ H Q => ∃ f sp, σ[i]? = some (some (.ref f)) ∧ S f sp ∧ t σ H fun vs H1 => sp vs H1 Q (fun cls d H' => W cls d σ H')
theorem pe_callV {X : Cx} {k i : Nat} {x : Str} {p pos : Pos} {e : Expr} {es : List Expr} {t : TA} {W : WX} (hr : Room k X.A) (slot : X.N[i]? = some x) (vis : Vis X.env.scope x) (tk : L2N.Takes X W) (ha : PA X (e :: es) t)
    (hdb : (x == ("__debug__" : Str)) = false := by decide) (hcd : (x == ("__classdict__" : Str)) = false := by decide) (he : starEach (e :: es) X.env = (false, eval e X.env) :: starEach es X.env := by rfl) (hpl : (backTo pos (starEach es X.env)).any (·.1) = false := by rfl) :
    PE X (.Call (.Name x p) (e :: es) [] pos) (tCallV i (HeldX X.prog X.w X.K X.mg X.base k) W t) := by
  refine ⟨fun pins s σ H Q I h => ?_⟩
  obtain ⟨f, sp, at_, ⟨fd, ps, F, kp, b⟩, wish⟩ := h
  refine wpAny_Call_Name_kw (thn ((pe_var (pos := p) slot vis hdb hcd).run pins s σ H (fun v H1 => v = .ref f ∧ H = H1) I ⟨.ref f, at_, rfl, rfl⟩) fun u s1 got => ?_)
  obtain ⟨v, H1, I1, rel, rfl, rfl⟩ := got
  cases rel
  refine PySem.W.callWith_K (h₀ := X.base) I.ok.mod.kin kp (thn (ha.run pos pins s1 σ _ _ I1 wish) fun us s2 got => ?_) he hpl
  obtain ⟨vs, H2, I2, r, q⟩ := got
  exact ⟨I2.kIn, run_fnS (E := fun σ cls d H' => W cls d σ H') F hr b (L2N.passAt tk σ) I2 r q⟩
/-- isinstance(e, c), e the exception that the suite holds: its class is told by the wish -/
def rIsE2 (K : PySem.W.Frag) (cls : Value) (d : Option Addr) (a : Addr) : List V → Hp → VK → Prop := fun xs H Q => ∃ (C : Addr) (c : V) (cv : Value) (b : Bool), cls = .ref C ∧ d = none ∧ ExcC K C ∧ xs = [.ref a, c] ∧ (∀ u, RelV c u → u = cv) ∧ PySem.W.kitOne K (.ref C) cv = some b ∧ Q (.bl b) H
theorem call_isE2 {X : Cx} {a : Addr} {oe : Obj} {cls : Value} {d : Option Addr} {pn : List (Addr × Obj)} (z : L2N.Zn cls d oe) (f : ∃ vs, oe.data = .fields vs) : CallR (X.suite a ((a, oe) :: pn)) (.builtin "isinstance") (rIsE2 X.K cls d a) := by
  intro pins s σ H xs us Q I r h
  obtain ⟨C, c, cv, b, rfl, rfl, ex, rfl, one, e, q⟩ := h
  exact call_isE ex z.zc f pins s σ H _ us Q I r ⟨c, cv, b, rfl, one, e, q⟩
end FR
set_option maxHeartbeats 2000000
namespace FR
open PySem PySem.Spec PyProof.Rows L2
/-! ### rows of deeds -/
def deedD (n : Int) : PyData → Bool
  | .str x => decide (V.str x = V.str "ride")
  | d => withinD 0 (n - 1) d
def rowD (n : Int) : PyData → Bool
  | .list ds => decide (ds.length ≤ 100) && ds.all (deedD n)
  | _ => false
def canB (cs : List Int) (x : Int) (zs : List Int) : V → Bool
  | .str _ => decide (0 < x)
  | .int i => decide (cs.getD i.toNat 0 ≤ zs.getD i.toNat 0)
  | _ => false
theorem can_iff {cs zs : List Int} {x : Int} {v : V} (hl : zs.length = cs.length) (h : DeedV cs.length v) : Can cs x zs v ↔ canB cs x zs v = true := by
  rcases h with rfl | ⟨i, rfl, i0, i1⟩
  · constructor
    · rintro (⟨_, h⟩ | ⟨i, c, z, h, _⟩)
      · exact decide_eq_true h
      · exact nomatch h
    · intro h
      exact .inl ⟨rfl, of_decide_eq_true h⟩
  · obtain ⟨c, _, hc, _⟩ := at_int (ns := cs) (k := i) i0 i1
    obtain ⟨z, _, hz, _⟩ := at_int (ns := zs) (k := i) i0 (by omega)
    have e : canB cs x zs (.int i) = decide (c ≤ z) := by
      show decide (cs.getD i.toNat 0 ≤ zs.getD i.toNat 0) = _
      rw [List.getD_eq_getElem?_getD, List.getD_eq_getElem?_getD, hc, hz]
      rfl
    rw [e, decide_eq_true_eq]
    constructor
    · rintro (⟨h, _⟩ | ⟨i', c', z', h, _, h1, h2, h3⟩)
      · exact nomatch h
      · cases h
        rw [hc] at h1
        rw [hz] at h2
        cases h1
        cases h2
        exact h3
    · intro h
      exact .inr ⟨i, c, z, rfl, i0, hc, hz, h⟩
def stepO (cs : List Int) : Option (Int × List Int) → V → Option (Int × List Int)
  | none, _ => none
  | some (x, zs), v => if canB cs x zs v = true then some (aftX x v, aftS cs zs v) else none
def rowO (cs : List Int) (st : Option (Int × List Int)) (row : List V) : Option (Int × List Int) := row.foldl (stepO cs) st
def PurseO (K : PySem.W.Frag) (cs : List Int) (H : Hp) (v : V) : Option (Int × List Int) → Prop
  | none => v = .non
  | some (x, zs) => ∃ p, v = .ref p ∧ Purse K H p x zs ∧ zs.length = cs.length
def dataO : Option (Int × List Int) → PyData
  | none => .none
  | some (x, zs) => .tuple [.int x, .tuple (zs.map PyData.int)]
theorem PurseO.dp {K : PySem.W.Frag} {cs : List Int} {H : Hp} {v : V} : ∀ {o : Option (Int × List Int)}, PurseO K cs H v o → Dp K H v (dataO o)
  | none, h => (show v = .non from h) ▸ .non
  | some (x, zs), h => by
    obtain ⟨p, rfl, hp, _⟩ := h
    exact hp.dp
theorem dataO_shaped : ∀ o : Option (Int × List Int), SeqAt.shaped (dataO o) = true
  | none => shaped_non
  | some (x, zs) => due_shaped x zs
theorem dataO_eqv : ∀ o : Option (Int × List Int), PyData.eqv (dataO o) (dataO o) = true
  | none => eqv_non
  | some (x, zs) => due_eqv x zs
theorem PurseO.same {K : PySem.W.Frag} {cs : List Int} {H H' : Hp} {v : V} (s : Same H H') : ∀ {o : Option (Int × List Int)}, PurseO K cs H v o → PurseO K cs H' v o
  | none, h => h
  | some (x, zs), ⟨p, e, h, l⟩ => ⟨p, e, h.same s, l⟩
theorem PurseO.kp {K : PySem.W.Frag} {cs : List Int} {H H' : Hp} {v : V} (s : Kp H H') : ∀ {o : Option (Int × List Int)}, PurseO K cs H v o → PurseO K cs H' v o
  | none, h => h
  | some (x, zs), ⟨p, e, h, l⟩ => ⟨p, e, h.kp s, l⟩
theorem aftS_len {cs zs : List Int} {v : V} : (aftS cs zs v).length = zs.length := by
  unfold aftS
  split
  · rw [List.length_map]
  · rw [List.length_set]
  · rfl
theorem rowO_none (cs : List Int) : ∀ row : List V, rowO cs none row = none
  | [] => rfl
  | _ :: r => rowO_none cs r
theorem rowO_snoc {cs : List Int} {st : Option (Int × List Int)} {row : List V} {v : V} : rowO cs st (row ++ [v]) = stepO cs (rowO cs st row) v := by
  unfold rowO
  rw [List.foldl_append]
  rfl
theorem rowD_deeds {K : PySem.W.Frag} {H : Hp} {n : Nat} {ds : List PyData} {xs : List V} (hx : DpAll K H xs ds) (h : ds.all (deedD (n : Int)) = true) : ∀ v ∈ xs, DeedV n v := by
  intro v hv
  obtain ⟨i, hi, e⟩ := List.getElem_of_mem hv
  obtain ⟨d, hd, hp⟩ := dp_get hx (by rw [List.getElem?_eq_getElem hi, e])
  have h1 := List.all_eq_true.mp h d (List.mem_of_getElem? hd)
  cases hp with
  | str x =>
    have := of_decide_eq_true h1
    exact .inl this
  | int j =>
    have h2 : (decide (0 ≤ j) && decide (j ≤ (n : Int) - 1)) = true := h1
    rw [Bool.and_eq_true, decide_eq_true_eq, decide_eq_true_eq] at h2
    exact .inr ⟨j, rfl, h2.1, by omega⟩
  | non => exact nomatch h1
  | bl b => exact nomatch h1
  | lst _ _ => exact nomatch h1
  | tup _ _ => exact nomatch h1
end FR
set_option maxHeartbeats 2000000
namespace FR
open PySem PySem.Spec PyProof.Rows L2
/-! ### who is refused: the words, the classes at C 0, C 1, .. -/
def kinN : Nat → Str
  | 0 => "NoCards" | 1 => "NoPurse" | 2 => "NoStamps" | 3 => "NoRow" | 4 => "NoNumber" | 5 => "NoPurses" | 6 => "NoSeen" | 7 => "NoRide" | 8 => "NoKind" | 9 => "NoLoan" | _ => "NothingLeft"
/-- what is wished may be weakened -/
def MonoSp (sp : Sp) : Prop := ∀ (vs : List V) (H : Hp) (Q Q' : VK) (E E' : XK), sp vs H Q E → (∀ v H', Q v H' → Q' v H') → (∀ c d H', E c d H' → E' c d H') → sp vs H Q' E'
structure Kin (K : PySem.W.Frag) (mg : Str → Option Value) (C : Nat → Addr) (tf rd : Addr) : Prop where
  w : ∀ j, j < 11 → mg (kinN j) = some (.ref (C j))
  tf : mg "TooFew" = some (.ref tf)
  rd : mg "RideError" = some (.ref rd)
structure KinOf (K : PySem.W.Frag) (C : Nat → Addr) (tf rd : Addr) (i : Nat) : Prop where
  lt : i < 11
  ex : ExcC K (C i)
  k : ∀ j, j < 11 → PySem.W.kitOne K (.ref (C i)) (.ref (C j)) = some (decide (i = j))
  v : PySem.W.kitOne K (.ref (C i)) (.type "ValueError") = some true
  n : PySem.W.exmOne K (.ref (C i)) (.ref tf) = some false
  y : PySem.W.exmOne K (.ref (C i)) (.ref rd) = some true
/-- isinstance(e, the j-th class), e in slot 5 -/
def tIs (K : PySem.W.Frag) (C : Nat → Addr) (a : Addr) (cls : Value) (d : Option Addr) (j : Nat) : TE := tCB (rIsE2 K cls d a) (tCons (tVar 5) (tCons (tC (.ref (C j))) tNil))
def tPr (K : PySem.W.Frag) (C : Nat → Addr) (a : Addr) (cls : Value) (d : Option Addr) (x : Str) (j : Nat) : TE := tTup (tCons (tC (.str x)) (tCons (tIs K C a cls d j) tNil))
/-- what the pair of a word is -/
theorem pr_rd {K : PySem.W.Frag} {C : Nat → Addr} {tf rd a : Addr} {i j : Nat} {x : Str} {σ : L2.St} {H : Hp} {Q : VK} (T : KinOf K C tf rd i) (hj : j < 11) (e : σ[5]? = some (some (.ref a))) (q : ∀ t, H t = none → Q (.ref t) (upd H t (.tup [.str x, .bl (decide (i = j))]))) : tPr K C a (.ref (C i)) none x j σ H Q :=
  ⟨_, e, C i, .ref (C j), .ref (C j), _, rfl, rfl, T.ex, rfl, fun _ r => r, T.k j hj, (by show 2 ≤ sizeLine; decide), q⟩
/-- the words, each beside whether it is so -/
def tWords (K : PySem.W.Frag) (C : Nat → Addr) (a : Addr) (cls : Value) (d : Option Addr) (kin : TE) : TS :=
  tSeq (tAsg (tLst (tCons (tPr K C a cls d "NoCards" 0) (tCons (tPr K C a cls d "NoPurse" 1) tNil))) (gName 6))
  (tSeq (tAsg (tOp rCat (tVar 6) (tLst (tCons (tPr K C a cls d "NoStamps" 2) tNil))) (gName 6))
  (tSeq (tAsg (tOp rCat (tVar 6) (tLst (tCons (tPr K C a cls d "NoRow" 3) (tCons (tPr K C a cls d "NoNumber" 4) tNil)))) (gName 6))
  (tSeq (tAsg (tOp rCat (tVar 6) (tLst (tCons (tPr K C a cls d "NoPurses" 5) (tCons (tPr K C a cls d "NoSeen" 6) tNil)))) (gName 6))
  (tSeq (tAsg (tOp rCat (tVar 6) (tLst (tCons (tPr K C a cls d "NoRide" 7) (tCons (tPr K C a cls d "NoKind" 8) tNil)))) (gName 6))
  (tSeq (tAsg (tOp rCat (tVar 6) (tLst (tCons (tPr K C a cls d "NoLoan" 9) tNil))) (gName 6))
  (tSeq (tDrop (tBM K "list" rAppend (tVar 6) (tCons (tPr K C a cls d "NothingLeft" 10) tNil)))
  (tAsg kin (gName 4))))))))
def tLcH (cls : Value) (wi : TI) (g : TG) (tt : TT) (te : TE) (vs : List Nat) : TE := fun σ H Q => (∃ C, cls = .ref C) ∧ tLc wi g tt te vs σ H Q
theorem pe_lcH2 {X : Cx} {a : Addr} {oe : Obj} {cls : Value} {d : Option Addr} {pn : List (Addr × Obj)} {elt tg l : Expr} {ifs : List Expr} {scope : Scope} {own : List (Str × Nat)} {pos : Pos} {tl : TE} {g : TG} {tt : TT} {te : TE} (z : L2N.Zn cls d oe) (f : ∃ vs, oe.data = .fields vs) (stk : X.stack = X.env :: X.outer) (frame : X.env.frame = some X.env.locals) (nd : X.N.Nodup)
    (hl : PE (X.suite a ((a, oe) :: pn)) l tl) (ok : BlkOk X.N X.env.scope scope own) (hg : ∀ (s : Shared) (H : Hp) (C : Addr) (cl : List (Str × Addr)) (fp : List Addr), Warm ((X.suite a ((a, oe) :: pn)).blk s H scope (compEnvC scope cl C X.env) fp) → PG ((X.suite a ((a, oe) :: pn)).blk s H scope (compEnvC scope cl C X.env) fp) tg g)
    (ht : ∀ (s : Shared) (H : Hp) (C : Addr) (cl : List (Str × Addr)) (fp : List Addr), PTs ((X.suite a ((a, oe) :: pn)).blk s H scope (compEnvC scope cl C X.env) fp) ifs tt) (he : ∀ (s : Shared) (H : Hp) (C : Addr) (cl : List (Str × Addr)) (fp : List Addr), PE ((X.suite a ((a, oe) :: pn)).blk s H scope (compEnvC scope cl C X.env) fp) elt te)
    (fold : ∀ x, foldedSetIterable l X.env x = pure x := by intro _; rfl) : PE (X.suite a ((a, oe) :: pn)) (.ListComp elt [⟨tg, l, ifs, 0⟩] scope pos) (tLcH cls (iList X.K tl) g tt te (own.map (·.2))) := by
  refine ⟨fun pins s σ H Q I h => ?_⟩
  obtain ⟨⟨C, rfl⟩, h⟩ := h
  exact (pe_lcH (X := X.suite a ((a, oe) :: pn)) (warm_suite z f) stk frame nd hl ok hg ht he fold).run pins s σ H Q I h
def tKin (K : PySem.W.Frag) (a : Addr) (cls : Value) (d : Option Addr) : TE :=
  tOp rCat (tLcH cls (iList K (tVar 6)) (gTup K 2 (gCons (gName 7) (gCons (gName 8) gNil))) (tB (tVar 8)) (tVar 7) [7, 8]) (tLst (tCons (tCB (rIsE2 K cls d a) (tCons (tVar 5) (tCons (tC (.ty "ValueError")) tNil))) tNil))
end FR
namespace FR
open PySem PySem.Spec PyProof.Rows L2
/-- the words that are so, and whether it is a ValueError -/
theorem kin_rd {K : PySem.W.Frag} {C : Nat → Addr} {tf rd a w : Addr} {i : Nat} {s0 s1 s2 s3 s4 s7 s8 : Option V} {Hf : Hp} {words : List V} {D : Ends} (T : KinOf K C tf rd i) (ew : Hf w = some (.lst words)) (len : words.length = 11)
    (hall : ∀ (k : Nat) (x : V), words[k]? = some x → ∃ t, x = .ref t ∧ Hf t = some (.tup [.str (kinN k), .bl (decide (i = k))]))
    (q : ∀ p H'', Same Hf H'' → H'' p = some (.lst [.str (kinN i), .bl true]) → D.nx [s0, s1, s2, s3, some (.ref p), some (.ref a), some (.ref w), s7, s8] H'') :
    tAsg (tKin K a (.ref (C i)) none) (gName 4) D [s0, s1, s2, s3, s4, some (.ref a), some (.ref w), s7, s8] Hf := by
  have lt := T.lt
  refine ⟨⟨C i, rfl⟩, _, rfl, w, rfl, ⟨_, SqL.of ew⟩, fun L nL => ?_⟩
  refine lc_list (K := K) (a := w) (xs := words) (fun k H' => Same Hf H' ∧ H' L = some (.lst (if i < k then [.str (kinN i)] else []))) ?_ ?_ ?_ ?_
  · exact ⟨same_new (.refl Hf) nL, by rw [upd_same, if_neg (by omega)]⟩
  · rintro k H' hk ⟨sm, e⟩
    exact SqL.of (sm _ _ ew)
  · rintro k x H' hk ⟨sm, e⟩
    obtain ⟨t, rfl, et⟩ := hall k x hk
    refine ⟨t, _, rfl, SqT.of (sm _ _ et), rfl, _, _, rfl, _, _, rfl, rfl, rfl, _, rfl, _, rfl, ite2 (fun c => ?_) (fun c => ?_)⟩
    · have c' := of_decide_eq_true c
      subst c'
      rw [if_neg (by omega)] at e
      refine ⟨_, rfl, _, e, (by show 0 < sizeLine; decide), same_fresh sm nL, ?_⟩
      rw [upd_same, if_pos (by omega)]
      rfl
    · have c' : ¬ i = k := fun z => c (decide_eq_true z)
      refine ⟨sm, ?_⟩
      rw [e]
      by_cases z : i < k
      · rw [if_pos z, if_pos (by omega)]
      · rw [if_neg z, if_neg (by omega)]
  · rintro H' ⟨sm, e⟩
    rw [len, if_pos lt] at e
    refine ⟨_, rfl, C i, .ty "ValueError", .type "ValueError", true, rfl, rfl, T.ex, rfl, fun _ r => r, T.v, (by show 1 ≤ sizeLine; decide), fun v nv => ?_⟩
    have s1 := same_upd (o := .lst [.bl true]) nv
    refine ⟨L, v, _, _, rfl, rfl, s1 _ _ e, upd_same, (by show 2 ≤ sizeLine; decide), fun p np => ?_⟩
    exact q p _ (same_new (sm.trans s1) np) upd_same
end FR
namespace FR
open PySem PySem.Spec PyProof.Rows L2
/-- a def that may raise, called where it is known not to -/
theorem pe_defX0 {X : Cx} {k j : Nat} {ps : List Str} {sp : Sp} {x : Str} {p pos : Pos} {e : Expr} {es : List Expr} {t : TA} (D : DefX X.prog X.w X.K X.mg X.base x k ps sp) (hr : Room j X.A) (ha : PA X (e :: es) t) (hg : Gl X x := by rfl) (hl : k ≤ j := by decide)
    (hdb : (x == ("__debug__" : Str)) = false := by decide) (he : starEach (e :: es) X.env = (false, eval e X.env) :: starEach es X.env := by rfl) (hpl : (backTo pos (starEach es X.env)).any (·.1) = false := by rfl) :
    PE X (.Call (.Name x p) (e :: es) [] pos) (tCall sp [] E0 t) := by
  obtain ⟨f, fd, F, m, kp, b⟩ := D.ex
  refine pe_call F (hr.mono hl) hg m kp b .nil (fun _ _ _ _ _ _ _ h => ?_) ha hdb he hpl
  obtain ⟨_, _, _, _, _, _, _, _, _, _, _, _, z⟩ := h
  exact z.elim
theorem deeds_eqv {n : Nat} {xs : List V} (h : ∀ v ∈ xs, DeedV n v) : PyData.eqv (.list (xs.map dD)) (.list (xs.map dD)) = true := SeqAt.eqv_refl _ (by rw [PyData.canLay0]; exact (deeds_lay h).1)
theorem deeds_row {n : Nat} : ∀ {xs : List V}, (∀ v ∈ xs, DeedV n v) → (xs.map dD).all (deedD (n : Int)) = true
  | [], _ => rfl
  | v :: r, h => by
    have h1 := deeds_row (n := n) (xs := r) (fun x hx => h x (List.mem_cons_of_mem _ hx))
    rw [List.map_cons, List.all_cons, h1, Bool.and_true]
    rcases h v (List.mem_cons_self ..) with rfl | ⟨i, rfl, i0, i1⟩
    · show decide (V.str "ride" = V.str "ride") = true
      exact decide_eq_true rfl
    · show (decide (0 ≤ i) && decide (i ≤ (n : Int) - 1)) = true
      rw [decide_eq_true i0, decide_eq_true (by omega)]
      rfl
theorem rowD_of {n : Nat} {xs : List V} (h : ∀ v ∈ xs, DeedV n v) (l : xs.length ≤ 100) : rowD (n : Int) (.list (xs.map dD)) = true := by
  show (decide ((xs.map dD).length ≤ 100) && (xs.map dD).all (deedD (n : Int))) = true
  rw [List.length_map, decide_eq_true l, deeds_row h]
  rfl
theorem norow_shaped : SeqAt.shaped (.list [.str "NoRow", .bool true]) = true := by
  unfold SeqAt.shaped
  rw [PyData.canLay0, PyData.canLayAll0, PyData.canLayAll0, PyData.canLayAll0, PyData.depth, PyData.depthAll, PyData.depthAll, PyData.depthAll, PyData.canLay0, PyData.canLay0, PyData.depth, PyData.depth]
  decide +kernel
theorem norow_eqv : PyData.eqv (.list [.str "NoRow", .bool true]) (.list [.str "NoRow", .bool true]) = true := SeqAt.eqv_refl _ (by
  have := norow_shaped
  unfold SeqAt.shaped at this
  exact (Bool.and_eq_true_iff.mp this).1)
end FR
namespace FR
open PySem PySem.Spec PyProof.Rows L2
/-- a list is changed: tuples stay -/
theorem sqT_upd {K : PySem.W.Frag} {H : Hp} {a l : Addr} {xs ys : List V} {o : HO} (h : SqT K H a xs) (e : H l = some (.lst ys)) : SqT K (upd H l o) a xs := by
  rcases h with (h | ⟨ob, h⟩) | h
  · exact .inl (.inl (by rw [upd_ne (ne_of h e (fun z => nomatch z))]; exact h))
  · exact .inl (.inr ⟨ob, by rw [upd_ne (ne_of h e (fun z => nomatch z))]; exact h⟩)
  · exact .inr h
theorem PurseO.updL {K : PySem.W.Frag} {cs : List Int} {H : Hp} {l : Addr} {ys : List V} {o : HO} {v : V} (e : H l = some (.lst ys)) : ∀ {u : Option (Int × List Int)}, PurseO K cs H v u → PurseO K cs (upd H l o) v u
  | none, h => h
  | some (x, zs), ⟨p, e1, ⟨s, h1, h2⟩, l'⟩ => ⟨p, e1, ⟨s, sqT_upd h1 e, sqT_upd h2 e⟩, l'⟩
theorem deedsE_none {xs : List V} (h : xs = []) : PyData.eqv (.list (xs.map dD)) (.list []) = true := by
  have := deeds_none h
  rwa [Bool.not_eq_false'] at this
theorem deedsE_some {xs : List V} (h : xs ≠ []) : PyData.eqv (.list (xs.map dD)) (.list []) = false := by
  have := deeds_some h
  rwa [Bool.not_eq_true'] at this
theorem stepO_no {cs zs : List Int} {x : Int} {v : V} (hl : zs.length = cs.length) (h : DeedV cs.length v) (n : ¬ Can cs x zs v) : stepO cs (some (x, zs)) v = none := by
  show (if canB cs x zs v = true then _ else none) = none
  rw [if_neg (fun z => n ((can_iff hl h).mpr z))]
theorem stepO_yes {cs zs : List Int} {x : Int} {v : V} (hl : zs.length = cs.length) (h : DeedV cs.length v) (n : Can cs x zs v) : stepO cs (some (x, zs)) v = some (aftX x v, aftS cs zs v) := by
  show (if canB cs x zs v = true then _ else none) = _
  rw [if_pos ((can_iff hl h).mp n)]
end FR
namespace FR
open PySem PySem.Spec PyProof.Rows L2
/-- what is no row -/
theorem bads_all {K : PySem.W.Frag} {H : Hp} {n : Nat} {t1 t2 t3 t4 t5 t6 t8 t10 t11 : Addr} (e1 : H t1 = some (.tup [.str "ride"])) (e2 : H t2 = some (.lst [.str "Ride"])) (e3 : H t3 = some (.lst [.int (n : Int)])) (e4 : H t4 = some (.lst [.int (-1)])) (e5 : H t5 = some (.lst [.non])) (e6 : H t6 = some (.lst [.bl false]))
    (e8 : H t8 = some (.lst (List.replicate 101 [V.str "ride"]).flatten)) (e10 : H t10 = some (.tup [.str "ride"])) (e11 : H t11 = some (.lst [.ref t10])) : ∀ x ∈ ([.non, .ref t1, .ref t2, .ref t3, .ref t4, .ref t5, .ref t6, .ref t8, .str "ride", .ref t11] : List V), ∃ d, Dp K H x d ∧ rowD (n : Int) d = false := by
  intro x hx
  simp only [List.mem_cons, List.not_mem_nil, or_false] at hx
  rcases hx with rfl | rfl | rfl | rfl | rfl | rfl | rfl | rfl | rfl | rfl
  · exact ⟨_, .non, rfl⟩
  · exact ⟨_, .tup (SqT.of e1) (.cons (.str _) .nil), rfl⟩
  · refine ⟨_, .lst (SqL.of e2) (.cons (.str _) .nil), ?_⟩
    show (decide (1 ≤ 100) && (decide (V.str "Ride" = V.str "ride") && true)) = false
    decide +kernel
  · refine ⟨_, .lst (SqL.of e3) (.cons (.int _) .nil), ?_⟩
    show (decide (1 ≤ 100) && ((decide (0 ≤ (n : Int)) && decide ((n : Int) ≤ (n : Int) - 1)) && true)) = false
    rw [decide_eq_false (show ¬ (n : Int) ≤ (n : Int) - 1 by omega), Bool.and_false, Bool.false_and, Bool.and_false]
  · exact ⟨_, .lst (SqL.of e4) (.cons (.int _) .nil), rfl⟩
  · exact ⟨_, .lst (SqL.of e5) (.cons .non .nil), rfl⟩
  · exact ⟨_, .lst (SqL.of e6) (.cons (.bl _) .nil), rfl⟩
  · refine ⟨_, .lst (SqL.of e8) (deeds_dp (n := n) fun v hv => ?_), ?_⟩
    · obtain ⟨l, hl, hv'⟩ := List.mem_flatten.mp hv
      rw [List.eq_of_mem_replicate hl] at hv'
      exact .inl (List.mem_singleton.mp hv')
    · show (decide (((List.replicate 101 [V.str "ride"]).flatten.map dD).length ≤ 100) && ((List.replicate 101 [V.str "ride"]).flatten.map dD).all (deedD (n : Int))) = false
      rw [List.length_map, decide_eq_false (by decide +kernel), Bool.false_and]
  · exact ⟨_, .str _, rfl⟩
  · exact ⟨_, .lst (SqL.of e11) (.cons (.tup (SqT.of e10) (.cons (.str _) .nil)) .nil), rfl⟩
end FR
set_option maxHeartbeats 2000000
namespace FR
open PySem PySem.Spec PyProof.Rows L2
/-! ### the end: defs that raise, classes -/
theorem FunAt.defX {P : Program} {w : World} {K : PySem.W.Frag} {mg : Str → Option Value} {base : Heap} {x : Str} {st : Stmt} {k : Nat} {ps : List Str} {sp : Sp} (F : FunAt K mg x st) (ok : ∀ f fd, Fun K x x st f fd → FnOk P w K mg base (L2N.CX P w) k f fd ps sp)
    (h : ∀ (kV doc pm : Value) (an : Option Addr) (cdv ct : Value) (us : List Value), us.length = ps.length → bindArgs (PySem.W.fnOf x x (defArgs st) (defBody st) (defScope st) .none kV doc pm an cdv ct) ⟨us, []⟩ = pure (ps.zip us)) : DefX P w K mg base x k ps sp := by
  obtain ⟨f, fd, F, m⟩ := F
  exact ⟨f, fd, ok f fd F, m, F.kp, F.binds h⟩
theorem DefX.held {P : Program} {w : World} {K : PySem.W.Frag} {mg : Str → Option Value} {base : Heap} {x : Str} {k j : Nat} {ps : List Str} {sp : Sp} (D : DefX P w K mg base x k ps sp) (h : k ≤ j) : ∃ f, mg x = some (.ref f) ∧ HeldX P w K mg base j f sp := by
  obtain ⟨f, fd, F, m, kp, b⟩ := D.ex
  exact ⟨f, m, fd, ps, F.mono h, kp, b⟩
def ExcAtX {K : PySem.W.Frag} {h : Heap} (_ : K.In h) (mg : Str → Option Value) (x : Str) : Prop := ∃ C, ExcT K mg x C
theorem excT_mk {K : PySem.W.Frag} {h : Heap} {mg : Str → Option Value} {x : Str} {C : Addr} (X : K.In h) (G : h.Ns mainGlobals mg) (a1 : PySem.W.nsIn K mainGlobals x = some (some (.ref C))) (ex : PySem.W.excIn K C [.type "ValueError", .type "Exception", .type "BaseException", .type "object"] "ValueError.__new__" = true)
    (kp : PySem.W.keepIn K (.ref C) = true) (sb : PySem.W.subIn K (.ref C) (.type "BaseException") = some true) (ty : PySem.W.typeIn K (.ref C) = some (.type "type")) : ExcAtX X mg x := ⟨C, PySem.W.mg_of X G a1, ex, kp, sb, ty⟩
theorem sglob_mk {K : PySem.W.Frag} {h : Heap} {mg : Str → Option Value} {x n : Str} {v : Value} (X : K.In h) (G : h.Ns mainGlobals mg) (z : PySem.W.nsIn K mainGlobals x = some (some v)) (e : ∃ t, v = .str n t) : ∃ t, mg x = some (.str n t) := by
  obtain ⟨t, rfl⟩ := e
  exact ⟨t, PySem.W.mg_of X G z⟩
/-- an own class asked for by isinstance -/
theorem kit_ref {K : PySem.W.Frag} {C D : Addr} {b : Bool} (hd : PySem.W.hasDictIn K C = true) (ht : PySem.W.typeIn K (.ref C) = some (.type "type")) (h : PySem.W.subIn K (.ref D) (.ref C) = some b) (hs : PySem.W.subIn K (.ref D) (.ref D) = some true) : PySem.W.kitOne K (.ref D) (.ref C) = some b := by
  unfold PySem.W.kitOne
  by_cases q : (Value.ref D == Value.ref C) = true
  · have e : D = C := Value.ref.inj (beq_iff_eq.mp q)
    subst e
    rw [if_pos q]
    exact hs.symm.trans h
  · rw [if_neg q]
    obtain ⟨cd, hc, _⟩ := PySem.W.any_some hd
    show (if ((PySem.W.clsIn K C).isSome && PySem.W.typeIn K (.ref C) == some (.type "type")) = true then PySem.W.subIn K (.ref D) (.ref C) else none) = some b
    have e2 : ((PySem.W.clsIn K C).isSome && PySem.W.typeIn K (.ref C) == some (.type "type")) = true := by rw [hc, ht] <;> rfl
    rw [if_pos e2]
    exact h
def cOf (c0 c1 c2 c3 c4 c5 c6 c7 c8 c9 c10 : Addr) : Nat → Addr
  | 0 => c0 | 1 => c1 | 2 => c2 | 3 => c3 | 4 => c4 | 5 => c5 | 6 => c6 | 7 => c7 | 8 => c8 | 9 => c9 | _ => c10
theorem kin_mk {K : PySem.W.Frag} {h : Heap} {mg : Str → Option Value} {c0 c1 c2 c3 c4 c5 c6 c7 c8 c9 c10 tf rd : Addr} (X : K.In h) (G : h.Ns mainGlobals mg)
    (a0 : PySem.W.nsIn K mainGlobals "NoCards" = some (some (.ref c0)))
    (a1 : PySem.W.nsIn K mainGlobals "NoPurse" = some (some (.ref c1)))
    (a2 : PySem.W.nsIn K mainGlobals "NoStamps" = some (some (.ref c2)))
    (a3 : PySem.W.nsIn K mainGlobals "NoRow" = some (some (.ref c3)))
    (a4 : PySem.W.nsIn K mainGlobals "NoNumber" = some (some (.ref c4)))
    (a5 : PySem.W.nsIn K mainGlobals "NoPurses" = some (some (.ref c5)))
    (a6 : PySem.W.nsIn K mainGlobals "NoSeen" = some (some (.ref c6)))
    (a7 : PySem.W.nsIn K mainGlobals "NoRide" = some (some (.ref c7)))
    (a8 : PySem.W.nsIn K mainGlobals "NoKind" = some (some (.ref c8)))
    (a9 : PySem.W.nsIn K mainGlobals "NoLoan" = some (some (.ref c9)))
    (a10 : PySem.W.nsIn K mainGlobals "NothingLeft" = some (some (.ref c10)))
    (atf : PySem.W.nsIn K mainGlobals "TooFew" = some (some (.ref tf))) (ard : PySem.W.nsIn K mainGlobals "RideError" = some (some (.ref rd))) : Kin K mg (cOf c0 c1 c2 c3 c4 c5 c6 c7 c8 c9 c10) tf rd := by
  refine ⟨fun j hj => ?_, PySem.W.mg_of X G atf, PySem.W.mg_of X G ard⟩
  match j, hj with
  | 0, _ => exact PySem.W.mg_of X G a0
  | 1, _ => exact PySem.W.mg_of X G a1
  | 2, _ => exact PySem.W.mg_of X G a2
  | 3, _ => exact PySem.W.mg_of X G a3
  | 4, _ => exact PySem.W.mg_of X G a4
  | 5, _ => exact PySem.W.mg_of X G a5
  | 6, _ => exact PySem.W.mg_of X G a6
  | 7, _ => exact PySem.W.mg_of X G a7
  | 8, _ => exact PySem.W.mg_of X G a8
  | 9, _ => exact PySem.W.mg_of X G a9
  | 10, _ => exact PySem.W.mg_of X G a10
theorem kinOf_mk {K : PySem.W.Frag} {c0 c1 c2 c3 c4 c5 c6 c7 c8 c9 c10 tf rd ci : Addr} {i : Nat} (lt : i < 11) (hc : cOf c0 c1 c2 c3 c4 c5 c6 c7 c8 c9 c10 i = ci)
    (hg : PySem.W.findIn K (.ref ci) "__getattribute__" = some (some (.builtin "BaseException.__getattribute__"))) (hk : PySem.W.findIn K (.ref ci) "__getattr__" = some none) (hs : PySem.W.subIn K (.ref ci) (.type "BaseException") = some true) (hd : PySem.W.hasDictIn K ci = true)
    (ha : PySem.W.findIn K (.ref ci) "__class__" = some (some (.builtin "object.__class__"))) (hn : PySem.W.specialIn K (.builtin "object.__class__") "__get__" = some (some (.builtin "getset_descriptor.__get__"))) (ht : PySem.W.takesIn K (.builtin "object.__class__") = some true) (hm : PySem.W.mroIn K ci (.type "object") = some true)
    (me : PySem.W.subIn K (.ref ci) (.ref ci) = some true) (sv : PySem.W.subIn K (.ref ci) (.type "ValueError") = some true)
    (d0 : PySem.W.hasDictIn K c0 = true) (t0 : PySem.W.typeIn K (.ref c0) = some (.type "type")) (s0 : PySem.W.subIn K (.ref ci) (.ref c0) = some (decide (i = 0)))
    (d1 : PySem.W.hasDictIn K c1 = true) (t1 : PySem.W.typeIn K (.ref c1) = some (.type "type")) (s1 : PySem.W.subIn K (.ref ci) (.ref c1) = some (decide (i = 1)))
    (d2 : PySem.W.hasDictIn K c2 = true) (t2 : PySem.W.typeIn K (.ref c2) = some (.type "type")) (s2 : PySem.W.subIn K (.ref ci) (.ref c2) = some (decide (i = 2)))
    (d3 : PySem.W.hasDictIn K c3 = true) (t3 : PySem.W.typeIn K (.ref c3) = some (.type "type")) (s3 : PySem.W.subIn K (.ref ci) (.ref c3) = some (decide (i = 3)))
    (d4 : PySem.W.hasDictIn K c4 = true) (t4 : PySem.W.typeIn K (.ref c4) = some (.type "type")) (s4 : PySem.W.subIn K (.ref ci) (.ref c4) = some (decide (i = 4)))
    (d5 : PySem.W.hasDictIn K c5 = true) (t5 : PySem.W.typeIn K (.ref c5) = some (.type "type")) (s5 : PySem.W.subIn K (.ref ci) (.ref c5) = some (decide (i = 5)))
    (d6 : PySem.W.hasDictIn K c6 = true) (t6 : PySem.W.typeIn K (.ref c6) = some (.type "type")) (s6 : PySem.W.subIn K (.ref ci) (.ref c6) = some (decide (i = 6)))
    (d7 : PySem.W.hasDictIn K c7 = true) (t7 : PySem.W.typeIn K (.ref c7) = some (.type "type")) (s7 : PySem.W.subIn K (.ref ci) (.ref c7) = some (decide (i = 7)))
    (d8 : PySem.W.hasDictIn K c8 = true) (t8 : PySem.W.typeIn K (.ref c8) = some (.type "type")) (s8 : PySem.W.subIn K (.ref ci) (.ref c8) = some (decide (i = 8)))
    (d9 : PySem.W.hasDictIn K c9 = true) (t9 : PySem.W.typeIn K (.ref c9) = some (.type "type")) (s9 : PySem.W.subIn K (.ref ci) (.ref c9) = some (decide (i = 9)))
    (d10 : PySem.W.hasDictIn K c10 = true) (t10 : PySem.W.typeIn K (.ref c10) = some (.type "type")) (s10 : PySem.W.subIn K (.ref ci) (.ref c10) = some (decide (i = 10)))
    (dtf : PySem.W.hasDictIn K tf = true) (ttf : PySem.W.typeIn K (.ref tf) = some (.type "type")) (btf : PySem.W.subIn K (.ref tf) (.type "BaseException") = some true) (stf : PySem.W.subIn K (.ref ci) (.ref tf) = some false)
    (drd : PySem.W.hasDictIn K rd = true) (trd : PySem.W.typeIn K (.ref rd) = some (.type "type")) (brd : PySem.W.subIn K (.ref rd) (.type "BaseException") = some true) (srd : PySem.W.subIn K (.ref ci) (.ref rd) = some true) : KinOf K (cOf c0 c1 c2 c3 c4 c5 c6 c7 c8 c9 c10) tf rd i := by
  subst hc
  refine ⟨lt, ⟨hg, hk, hs, hd, ha, hn, ht, hm⟩, fun j hj => ?_, ?_, PySem.W.exm_ref btf dtf ttf stf, PySem.W.exm_ref brd drd trd srd⟩
  · match j, hj with
    | 0, _ => exact kit_ref d0 t0 s0 me
    | 1, _ => exact kit_ref d1 t1 s1 me
    | 2, _ => exact kit_ref d2 t2 s2 me
    | 3, _ => exact kit_ref d3 t3 s3 me
    | 4, _ => exact kit_ref d4 t4 s4 me
    | 5, _ => exact kit_ref d5 t5 s5 me
    | 6, _ => exact kit_ref d6 t6 s6 me
    | 7, _ => exact kit_ref d7 t7 s7 me
    | 8, _ => exact kit_ref d8 t8 s8 me
    | 9, _ => exact kit_ref d9 t9 s9 me
    | 10, _ => exact kit_ref d10 t10 s10 me
  · unfold PySem.W.kitOne
    rw [if_neg (by intro q; exact nomatch beq_iff_eq.mp q)]
    unfold PySem.W.kitCls
    dsimp only
    rw [if_pos (by decide +kernel)]
    exact sv
def KinL (K : PySem.W.Frag) (C : Nat → Addr) (tf rd : Addr) : List Nat → Prop
  | [] => True
  | i :: is => KinOf K C tf rd i ∧ KinL K C tf rd is
theorem kinL_nil {K : PySem.W.Frag} {C : Nat → Addr} {tf rd : Addr} : KinL K C tf rd [] := trivial
theorem kinL_cons {K : PySem.W.Frag} {C : Nat → Addr} {tf rd : Addr} {i : Nat} {is : List Nat} (h : KinOf K C tf rd i) (t : KinL K C tf rd is) : KinL K C tf rd (i :: is) := ⟨h, t⟩
def KinAtX {K : PySem.W.Frag} {h : Heap} (_ : K.In h) (mg : Str → Option Value) (is : List Nat) : Prop := ∃ C tf rd, Kin K mg C tf rd ∧ KinL K C tf rd is
theorem kinAt_mk {K : PySem.W.Frag} {h : Heap} {mg : Str → Option Value} {is : List Nat} {C : Nat → Addr} {tf rd : Addr} (X : K.In h) (a : Kin K mg C tf rd) (b : KinL K C tf rd is) : KinAtX X mg is := ⟨C, tf, rd, a, b⟩
end FR
set_option maxHeartbeats 2000000
namespace FR
open PySem PySem.Spec PyProof.Rows L2 LamX NdefX
/-! ### lambdas with parameters, which capture nothing -/
/-- at f stands a lambda: F tells its words, b its body -/
def LamO (f : Addr) (F : NF) (b : Expr) : HO := .ext fun h => ∃ (od : Option Addr) (sl : Array (Option Value)) (pm ctv : Value), h.get? f = some (⟨.type "function", od, .func (PySem.W.kla_fn "<lambda>" F.qual F.params b F.scope F.cl pm (.ref F.c) ctv), sl⟩ : Obj)
theorem lamO_ne {f : Addr} {F : NF} {b : Expr} (ps : Array Value) : LamO f F b ≠ .tbl ps := by
  intro z
  unfold LamO at z
  exact nomatch z
theorem lamO_get {P : Program} {w : World} {H : Hp} {h : Heap} {f : Addr} {F : NF} {b : Expr} (ok : HOk P w H h) (e : H f = some (LamO f F b)) : ∃ (od : Option Addr) (sl : Array (Option Value)) (pm ctv : Value), h.get? f = some (⟨.type "function", od, .func (PySem.W.kla_fn "<lambda>" F.qual F.params b F.scope F.cl pm (.ref F.c) ctv), sl⟩ : Obj) :=
  (ok f _ e).1
theorem inv_lamO {X : Cx} {pins : List (Addr × Obj)} {σ : L2.St} {H : Hp} {s : Shared} {F : NF} {b : Expr} {tk : Nat} {pm ctv : Value} (I : Inv X pins σ H s) :
    Inv X pins σ (upd H s.heap.objs.size (LamO s.heap.objs.size F b)) { s with heap := s.heap.push (PySem.W.kla_obj "<lambda>" F.qual F.params b F.scope F.cl pm F.c ctv), toks := tk } := by
  have at_ : (s.heap.push (PySem.W.kla_obj "<lambda>" F.qual F.params b F.scope F.cl pm F.c ctv)).get? s.heap.objs.size = some (PySem.W.kla_obj "<lambda>" F.qual F.params b F.scope F.cl pm F.c ctv) := Heap.get?_push_size _ rfl
  refine I.laid (a := s.heap.objs.size) (fun _ _ e => Heap.get?_push_of_some _ e) (Nat.le_refl _) ⟨⟨_, _, pm, ctv, at_⟩, ⟨_, at_⟩, ?_⟩
  rintro h1 h2 ⟨od, sl, p', t', z⟩ st
  exact ⟨od, sl, p', t', st _ z⟩
theorem clo_nil {cells : List (Str × Addr)} {names : List (Str × NameKind)} (nf : ∀ y ∈ names, y.2 ≠ .free) : cloFrom cells names [] = [] := by
  refine List.eq_nil_iff_forall_not_mem.mpr ?_
  rintro ⟨n, c⟩ hm
  rcases cloFrom_mem hm with z | ⟨z, _⟩
  · exact nomatch z
  · exact nf _ z rfl
/-- what a lambda's making leaves -/
theorem lam_lay {X : Cx} {pins : List (Addr × Obj)} {σ : L2.St} {H : Hp} {s : Shared} {T : List (Addr × Str)} {c P : Addr} {params : Arguments} {b : Expr} {scope : Scope} {pos : Pos} {E : Value → Shared → Prop} {Q : Value → Shared → Prop} (I : Inv X pins σ H s) (TB : TabB X.base X.mg c P) (code : X.env.code = .ref c)
    (mem : (P, X.env.qual ++ "<lambda>") ∈ T) (one : ∀ p ∈ T, p.1 = P → p.2 = X.env.qual ++ "<lambda>") (tabs : Tabs T H) (dflt : defaultsOf params X.env = ([], [])) (nf : ∀ y ∈ scope.names, y.2 ≠ .free)
    (go : ∀ (f c' : Addr) (H1 : Hp) (s' : Shared), Inv X pins σ H1 s' → ExtN H H1 → Tabs T H1 → H f = none → H1 f = some (LamO f ⟨"<lambda>", X.env.qual ++ "<lambda>", params, [], scope, [], c'⟩ b) → H1 c' = some (CodeO c' (X.env.qual ++ "<lambda>")) → Q (.ref f) s') :
    wpAny (model X.prog X.w) X.A (eval (.Lambda params b scope pos) X.env) Q E s := by
  obtain ⟨ps, eP, tri, among⟩ := tabs _ mem
  have hcl : closureFor scope X.env = pure [] := by
    have z := closure_ok (scope := scope) (env := X.env) (fun y hy e => absurd e (nf y hy))
    rw [clo_nil nf] at z
    exact z
  have getP : s.heap.get? P = some { cls := .none, data := .fields ps } := I.hok P _ eP
  have blt : s.heap.BuiltinsAt X.mg P := TB.bm.keeps I.bk
  refine PySem.W.kla_eval dflt ?_
  rcases hc : codeAmong pos ps.toList with _ | cv
  · refine PySem.W.kla_makeFunction (clos := []) (mg := X.mg) (c := c) (P := P) (ps := ps) hcl I.ok.glob (I.mod.glob.keeps I.bk) code (TB.code.keeps I.bk) getP tri hc TB.gP blt ?_
    intro c' ctv h' tk keep ge lt rec tab
    obtain ⟨c2, oc, vs, t, e2, hoc, hdat, hq⟩ := rec
    cases e2
    have nC : H c' = none := I.hok.fresh ge
    have I1 := inv_table (t' := tk) (more := #[rawInt pos.line, rawInt pos.col, .ref c']) (h' := h') I eP (fun d o n e => keep d o n e) tab ge ⟨oc, vs, t, hoc, hdat, hq⟩
    have ext : ExtN H (upd (upd H P (.tbl (ps ++ #[rawInt pos.line, rawInt pos.col, .ref c']))) c' (CodeO c' (X.env.qual ++ "<lambda>"))) := by
      intro d o e n
      have d1 : d ≠ c' := ne_of_none e nC
      have d2 : d ≠ P := by
        rintro rfl
        rw [eP] at e
        exact n ps (Option.some.inj e).symm
      rw [upd_ne d1, upd_ne d2]
      exact e
    have toL : (ps ++ #[rawInt pos.line, rawInt pos.col, .ref c']).toList = ps.toList ++ [rawInt pos.line, rawInt pos.col, .ref c'] := by simp
    have tabs1 : Tabs T (upd (upd H P (.tbl (ps ++ #[rawInt pos.line, rawInt pos.col, .ref c']))) c' (CodeO c' (X.env.qual ++ "<lambda>"))) := by
      intro p hp
      by_cases q : p.1 = P
      · rw [one p hp q, q]
        refine ⟨_, (upd_ne (ne_of_none eP nC)).trans upd_same, toL ▸ PySem.TriplesOk_snoc _ _ _ _ tri, ?_⟩
        intro p' cv hcv
        rw [toL] at hcv
        rcases among_app _ tri hcv with z | z
        · obtain ⟨c0, e1, e2⟩ := among p' cv z
          exact ⟨c0, e1, ext _ _ e2 codeO_ne⟩
        · exact ⟨c', z, upd_same⟩
      · obtain ⟨ps', a1, a2, a3⟩ := tabs p hp
        refine ⟨ps', (upd_ne (ne_of_none a1 nC)).trans ((upd_ne q).trans a1), a2, ?_⟩
        intro p' cv hcv
        obtain ⟨c0, e1, e2⟩ := a3 p' cv hcv
        exact ⟨c0, e1, ext _ _ e2 codeO_ne⟩
    have nF := I1.hok.fresh (Nat.le_refl _)
    have I2 := inv_lamO (F := ⟨"<lambda>", X.env.qual ++ "<lambda>", params, [], scope, [], c'⟩) (b := b) (tk := tk) (pm := (X.mg "__name__").getD .none) (ctv := ctv) I1
    refine go h'.objs.size c' _ _ I2 ?_ (tabs1.ext ?_) (I.hok.fresh (Nat.le_trans ge (Nat.le_of_lt lt))) upd_same ((upd_ne (Nat.ne_of_lt lt)).trans upd_same)
    · intro d o e n
      have e1 := ext d o e n
      exact (upd_ne (ne_of_none e1 nF)).trans e1
    · intro d o e
      exact (upd_ne (ne_of_none e nF)).trans e
  · obtain ⟨c', rfl, hco⟩ := among pos cv hc
    refine PySem.W.kla_makeFunctionHit (clos := []) (mg := X.mg) (c := c) (P := P) (ps := ps) hcl I.ok.glob (I.mod.glob.keeps I.bk) code (TB.code.keeps I.bk) getP tri hc blt ?_
    intro ctv h' tk keep ge
    have I1 : Inv X pins σ H { s with heap := h', toks := tk } := I.kept keep
    have nF : H h'.objs.size = none := I1.hok.fresh (Nat.le_refl _)
    have I2 := inv_lamO (F := ⟨"<lambda>", X.env.qual ++ "<lambda>", params, [], scope, [], c'⟩) (b := b) (tk := tk) (pm := (X.mg "__name__").getD .none) (ctv := ctv) I1
    have ext : ∀ d o, H d = some o → upd H h'.objs.size (LamO h'.objs.size ⟨"<lambda>", X.env.qual ++ "<lambda>", params, [], scope, [], c'⟩ b) d = some o := fun d o e => (upd_ne (ne_of_none e nF)).trans e
    exact go h'.objs.size c' _ _ I2 (fun d o e _ => ext d o e) (tabs.ext ext) nF upd_same (ext _ _ hco)
/-- the reading of a lambda -/
def tLamV (T : List (Addr × Str)) (mk : Addr → NF) (b : Expr) : TE := fun _ H Q => Tabs T H ∧ ∀ (f c' : Addr) (H1 : Hp), ExtN H H1 → Tabs T H1 → H f = none → H1 f = some (LamO f (mk c') b) → H1 c' = some (CodeO c' (mk c').qual) → Q (.ref f) H1
theorem pe_lamV {X : Cx} {T : List (Addr × Str)} {c P : Addr} {params : Arguments} {b : Expr} {scope : Scope} {pos : Pos} (TB : TabB X.base X.mg c P) (code : X.env.code = .ref c) (mem : (P, X.env.qual ++ "<lambda>") ∈ T) (one : ∀ p ∈ T, p.1 = P → p.2 = X.env.qual ++ "<lambda>")
    (dflt : defaultsOf params X.env = ([], [])) (nf : ∀ y ∈ scope.names, y.2 ≠ .free) : PE X (.Lambda params b scope pos) (tLamV T (fun c' => ⟨"<lambda>", X.env.qual ++ "<lambda>", params, [], scope, [], c'⟩) b) := by
  refine ⟨fun pins s σ H Q I h => ?_⟩
  obtain ⟨tabs, h⟩ := h
  exact lam_lay I TB code mem one tabs dflt nf fun f c' H1 s' I1 ext t1 n0 e1 e2 => ⟨.ref f, H1, I1, rfl, h f c' H1 ext t1 n0 e1 e2⟩
/-- a lambda's promise -/
structure LOk (P : Program) (w : World) (K : PySem.W.Frag) (mg : Str → Option Value) (base : Heap) (k : Nat) (f : Addr) (F : NF) (b : Expr) (sp : Sp) : Prop where
  run : ∀ (A : Around) (outer : List Env) (s : Shared) (H : Hp) (us : List Value) (vs : List V) (Q : VK) (E : XK), Room k A → Env0 P w K mg base A outer s H → H f = some (LamO f F b) → H F.c = some (CodeO F.c F.qual) → Vals vs us → sp vs H Q E →
    codeAny (model P w) A (.call (.ref f) ⟨us, []⟩) (CR (L2N.CX P w) outer P w H s Q E) s
theorem LOk.mono {P : Program} {w : World} {K : PySem.W.Frag} {mg : Str → Option Value} {base : Heap} {j k : Nat} {f : Addr} {F : NF} {b : Expr} {sp : Sp} (o : LOk P w K mg base j f F b sp) (h : j ≤ k) : LOk P w K mg base k f F b sp :=
  ⟨fun A outer s H us vs Q E hr => o.run A outer s H us vs Q E (hr.mono h)⟩
theorem lok_of {P : Program} {w : World} {K : PySem.W.Frag} {mg : Str → Option Value} {base : Heap} {k : Nat} {f : Addr} {F : NF} {b : Expr} {N ps : List Str} {sp : Sp} (S : NScope N ps [] F.scope) (cl : F.cl = [])
    (bind : ∀ (pm ctv : Value) (us : List Value), us.length = ps.length → bindArgs (PySem.W.kla_fn "<lambda>" F.qual F.params b F.scope F.cl pm (.ref F.c) ctv) ⟨us, []⟩ = pure (ps.zip us)) (len : ∀ vs H Q E, sp vs H Q E → vs.length = ps.length)
    (body : ∀ (A : Around) (outer : List Env) (s : Shared) (H : Hp) (vs : List V) (Q : VK) (E : XK), Room k (A.deeper (envF F f s.heap.objs.size)) → sp vs H Q E → ∃ t, PE (ncx (L2N.CX P w) P w K mg base N F f A outer s H E) b t ∧ t (startF N vs []) H Q) : LOk P w K mg base (k + 1) f F b sp := by
  refine ⟨fun A outer s H us vs Q E hr e0 ef ec r wish => ?_⟩
  have hl := len _ _ _ _ wish
  have lim : s.heap.NoLimit := e0.mod.nolimit.keeps fun d o e => (e0.bs d o e).1
  have cells : CellsAt F.cl [] [] s.heap H := by
    rw [cl]
    exact ⟨rfl, fun y c e => (nomatch e), fun x y c e => (nomatch e), fun i y e => (nomatch e)⟩
  obtain ⟨od, sl, pm, ctv, ho⟩ := lamO_get e0.hok ef
  refine PySem.W.kla_callFunE hr.depth ho rfl S.co S.gen rfl (codeO_at e0.hok ec) ?_
  rw [bind pm ctv us (by rw [← r.length]; exact hl)]
  refine wpAny_pure (wpAny_newFunctionEnv S.nocell (fun y hy => S.par y.1 (List.of_mem_zip (show (y.1, y.2) ∈ ps.zip us from hy)).1) (fun h1 ns sb => ⟨lim.fresh _ sb, ?_⟩) S.kind)
  have keep : ∀ d o, s.heap.get? d = some o → h1.get? d = some o := fun d o e => sb.extBut d o (Nat.ne_of_lt (Heap.lt_size e)) (Heap.get?_push_of_some _ e)
  obtain ⟨t, pe, wish'⟩ := body A outer s H vs Q E (hr.deeper _) wish
  have I : Inv (ncx (L2N.CX P w) P w K mg base N F f A outer s H E) [] (startF N vs []) H { s with heap := h1, toks := s.toks + (ps.zip us).length } := inv_startN S hr.hd e0 hl r cells ns keep
  show codeAny _ _ (.expr b (envF F f s.heap.objs.size)) _ _
  refine PySem.W.kla_codeExpr (wpAny_mono (pe.run [] _ _ H Q I wish') ?_ fun e s' hs => hs)
  rintro v s' ⟨v', H', J, rv, q⟩
  exact ⟨v', H', J.os, J.bare, J.base, J.hok, rv, q⟩
/-- what may be called: a def of the program's, or a lambda that stands in H -/
def HeldH (P : Program) (w : World) (K : PySem.W.Frag) (mg : Str → Option Value) (base : Heap) (k : Nat) (f : Addr) (sp : Sp) (H : Hp) : Prop :=
  HeldX P w K mg base k f sp ∨ ∃ F b, LOk P w K mg base k f F b sp ∧ H f = some (LamO f F b) ∧ H F.c = some (CodeO F.c F.qual)
theorem HeldH.same {P : Program} {w : World} {K : PySem.W.Frag} {mg : Str → Option Value} {base : Heap} {k : Nat} {f : Addr} {sp : Sp} {H H' : Hp} (h : HeldH P w K mg base k f sp H) (s : Same H H') : HeldH P w K mg base k f sp H' := by
  rcases h with h | ⟨F, b, o, e1, e2⟩
  · exact .inl h
  · exact .inr ⟨F, b, o, s _ _ e1, s _ _ e2⟩
def tCallH (i : Nat) (P : Program) (w : World) (K : PySem.W.Frag) (mg : Str → Option Value) (base : Heap) (k : Nat) (W : WX) (t : TA) : TE := fun σ H Q => ∃ f sp, σ[i]? = some (some (.ref f)) ∧ ((HeldX P w K mg base k f sp ∧ t σ H fun vs H1 => sp vs H1 Q (fun cls d H' => W cls d σ H')) ∨
  ∃ F b, LOk P w K mg base k f F b sp ∧ H f = some (LamO f F b) ∧ t σ H fun vs H1 => H1 f = some (LamO f F b) ∧ H1 F.c = some (CodeO F.c F.qual) ∧ sp vs H1 Q (fun cls d H' => W cls d σ H'))
theorem pe_callH {X : Cx} {k i : Nat} {x : Str} {p pos : Pos} {e : Expr} {es : List Expr} {t : TA} {W : WX} (hr : Room k X.A) (slot : X.N[i]? = some x) (vis : Vis X.env.scope x) (tk : L2N.Takes X W) (ha : PA X (e :: es) t)
    (hdb : (x == ("__debug__" : Str)) = false := by decide) (hcd : (x == ("__classdict__" : Str)) = false := by decide) (he : starEach (e :: es) X.env = (false, eval e X.env) :: starEach es X.env := by rfl) (hpl : (backTo pos (starEach es X.env)).any (·.1) = false := by rfl) :
    PE X (.Call (.Name x p) (e :: es) [] pos) (tCallH i X.prog X.w X.K X.mg X.base k W t) := by
  refine ⟨fun pins s σ H Q I h => ?_⟩
  obtain ⟨f, sp, at_, h⟩ := h
  rcases h with ⟨hx, wish⟩ | ⟨F, b, lk, ef, wish⟩
  · exact (pe_callV (k := k) (i := i) hr slot vis tk ha hdb hcd he hpl).run pins s σ H Q I ⟨f, sp, at_, hx, wish⟩
  · refine wpAny_Call_Name_kw (thn ((pe_var (pos := p) slot vis hdb hcd).run pins s σ H (fun v H1 => v = .ref f ∧ H = H1) I ⟨.ref f, at_, rfl, rfl⟩) fun u s1 got => ?_)
    obtain ⟨v, H1, I1, rel, rfl, rfl⟩ := got
    cases rel
    have fa : ∀ {pins : List (Addr × Obj)} {σ : L2.St} {H : Hp} {s : Shared}, Inv X pins σ H s → H f = some (LamO f F b) → PySem.W.FnAt f s.heap := by
      intro pins σ H s J e
      obtain ⟨od, sl, pm, ctv, ho⟩ := lamO_get J.hok e
      exact ⟨_, od, _, sl, ho⟩
    refine PySem.W.callWith_F (first := []) (fa I1 ef) (thn (ha.run pos pins s1 σ _ _ I1 wish) fun us s2 got => ?_) he hpl
    obtain ⟨vs, H2, I2, r, e1, e2, q⟩ := got
    refine ⟨fa I2 e1, ?_⟩
    show wpAny _ _ (call (.ref f) us) _ _ _
    refine wpAny_call (codeAny_mono (lk.run X.A X.stack s2 H2 us vs Q (fun cls d H' => W cls d σ H') hr I2.env0 e1 e2 r q) ?_)
    intro r s' hq
    match r, hq with
    | .error e, hq => exact L2N.passAt tk σ pins H2 s2 e s' I2 hq
    | .ok (.ret u), hq => exact I2.after hq
    | .ok .next, hq => exact hq.elim
    | .ok .brk, hq => exact hq.elim
    | .ok .cont, hq => exact hq.elim
end FR
namespace FR
open PySem PySem.Spec PyProof.Rows L2 LamX NdefX
theorem held3 {P : Program} {w : World} {K : PySem.W.Frag} {mg : Str → Option Value} {base : Heap} {k : Nat} {f : Addr} {sp : Sp} {σ : L2.St} {H : Hp} {Q : VK} {W : WX} {x y z : V} (h : HeldH P w K mg base k f sp H) (e1 : σ[1]? = some (some x)) (e2 : σ[2]? = some (some y)) (e3 : σ[3]? = some (some z)) (q : sp [x, y, z] H Q (fun cls d H' => W cls d σ H')) :
    (HeldX P w K mg base k f sp ∧ tCons (tVar 1) (tCons (tVar 2) (tCons (tVar 3) tNil)) σ H fun vs H1 => sp vs H1 Q (fun cls d H' => W cls d σ H')) ∨
      ∃ F b, LOk P w K mg base k f F b sp ∧ H f = some (LamO f F b) ∧ tCons (tVar 1) (tCons (tVar 2) (tCons (tVar 3) tNil)) σ H fun vs H1 => H1 f = some (LamO f F b) ∧ H1 F.c = some (CodeO F.c F.qual) ∧ sp vs H1 Q (fun cls d H' => W cls d σ H') := by
  rcases h with h | ⟨F, b, lk, a1, a2⟩
  · exact .inl ⟨h, x, e1, y, e2, z, e3, q⟩
  · exact .inr ⟨F, b, lk, a1, x, e1, y, e2, z, e3, a1, a2, q⟩
end FR
set_option maxHeartbeats 2000000
namespace FR
open PySem PySem.Spec PyProof.Rows L2 LamX
theorem call_repr_bl {X : Cx} : CallR X (.builtin "repr") (fun xs H Q => ∃ b : Bool, xs = [.bl b] ∧ Q (.str (if b then "True" else "False")) H) := by
  intro pins s σ H xs us Q I r h
  obtain ⟨b, rfl, q⟩ := h
  obtain ⟨u, rfl, rx⟩ := vals1 r
  cases rx
  exact PySem.P.repr_of_bool ⟨.str _, H, I.tok _, ⟨_, rfl⟩, q⟩
/-- a def whose code object is told -/
theorem okC {P : Program} {w : World} {K : PySem.W.Frag} {mg : Str → Option Value} {base : Heap} {x qual : Str} {st : Stmt} {f : Addr} {fd : FuncData} {N ps : List Str} {k : Nat} {sp : Sp} (F : Fun K x qual st f fd) (S : FnScope N ps (defScope st)) (len : ∀ vs H Q E, sp vs H Q E → vs.length = ps.length)
    (body : ∀ (A : Around) (outer : List Env) (s : Shared) (H : Hp) (vs : List V) (Q : VK) (E : XK), Room k (A.deeper (envOfC qual (defScope st) s.heap.objs.size f fd.code)) → sp vs H Q E →
      ∃ t, PSs (cxOf CX0 P w K mg base N qual (defScope st) f fd.code A outer s H E).nox (defBody st) t ∧ t { nx := fun _ H' => Q .non H', rt := Q } (L2.start N vs) H) : FnOk P w K mg base CX0 (k + 1) f fd ps sp := by
  obtain ⟨oc, od, kV, doc, pm, an, cdv, ct, osl, rfl, lk, hcd⟩ := F.ex
  refine fn_of lk hcd S len fun A outer s H vs Q E room wish => ?_
  obtain ⟨t, pt, q⟩ := body A outer s H vs Q E room wish
  exact ⟨t, pt.nox, q⟩
/-! ### data of bounded width and depth -/
def Sz (m : Nat) : Nat → PyData → Prop
  | 0, .list _ => False
  | 0, .tuple _ => False
  | n + 1, .list ds => ds.length ≤ m ∧ ∀ d ∈ ds, Sz m n d
  | n + 1, .tuple ds => ds.length ≤ m ∧ ∀ d ∈ ds, Sz m n d
  | _, _ => True
theorem Sz.mono {m m' : Nat} (hm : m ≤ m') : ∀ {n n' : Nat} {d : PyData}, n ≤ n' → Sz m n d → Sz m' n' d
  | 0, n', d, hn, h => by
    cases d <;> first | exact h.elim | (cases n' <;> exact True.intro)
  | n + 1, 0, d, hn, h => by omega
  | n + 1, n' + 1, d, hn, h => by
    cases d with
    | list ds => exact ⟨Nat.le_trans h.1 hm, fun e he => Sz.mono hm (by omega) (h.2 e he)⟩
    | tuple ds => exact ⟨Nat.le_trans h.1 hm, fun e he => Sz.mono hm (by omega) (h.2 e he)⟩
    | _ => exact True.intro
def AllD (K : PySem.W.Frag) (H : Hp) (m n : Nat) (xs : List V) : Prop := ∀ x ∈ xs, ∃ d, Dp K H x d ∧ Sz m n d
section
variable {K : PySem.W.Frag} {H H' : Hp} {m m' n n' : Nat} {xs ys : List V} {x : V} {d : PyData}
theorem AllD.same (h : AllD K H m n xs) (s : Same H H') : AllD K H' m n xs := by
  intro x hx
  obtain ⟨d, h1, h2⟩ := h x hx
  exact ⟨d, Same.dp s h1, h2⟩
theorem AllD.mono (h : AllD K H m n xs) (hm : m ≤ m') (hn : n ≤ n') : AllD K H m' n' xs := by
  intro x hx
  obtain ⟨d, h1, h2⟩ := h x hx
  exact ⟨d, h1, h2.mono hm hn⟩
theorem AllD.nil : AllD K H m n [] := fun x hx => nomatch hx
theorem AllD.cons (h : Dp K H x d) (z : Sz m n d) (t : AllD K H m n xs) : AllD K H m n (x :: xs) := by
  intro y hy
  rcases List.mem_cons.mp hy with rfl | g
  · exact ⟨d, h, z⟩
  · exact t y g
theorem AllD.app (h : AllD K H m n xs) (t : AllD K H m n ys) : AllD K H m n (xs ++ ys) := by
  intro y hy
  rcases List.mem_append.mp hy with g | g
  · exact h y g
  · exact t y g
theorem AllD.sub (h : AllD K H m n xs) (s : ∀ y ∈ ys, y ∈ xs) : AllD K H m n ys := fun y hy => h y (s y hy)
theorem cut_mem {lo hi : Option Int} : ∀ y ∈ cutV xs lo hi, y ∈ xs := fun _ hy => List.mem_of_mem_drop (List.mem_of_mem_take hy)
theorem AllD.of {ds : List PyData} (h : DpAll K H xs ds) (z : ∀ d ∈ ds, Sz m n d) : AllD K H m n xs := by
  intro x hx
  obtain ⟨i, hi, e⟩ := List.getElem_of_mem hx
  obtain ⟨d, hd, hp⟩ := dp_get h (by rw [List.getElem?_eq_getElem hi, e])
  exact ⟨d, hp, z d (List.mem_of_getElem? hd)⟩
theorem AllD.all : ∀ {xs : List V}, AllD K H m n xs → ∃ ds, DpAll K H xs ds ∧ ds.length = xs.length ∧ ∀ d ∈ ds, Sz m n d
  | [], _ => ⟨[], .nil, rfl, fun d hd => nomatch hd⟩
  | x :: xs, h => by
    obtain ⟨d, h1, h2⟩ := h x (List.mem_cons_self ..)
    obtain ⟨ds, g1, g2, g3⟩ := AllD.all (xs := xs) (fun y hy => h y (List.mem_cons_of_mem _ hy))
    refine ⟨d :: ds, .cons h1 g1, congrArg (· + 1) g2, fun e he => ?_⟩
    rcases List.mem_cons.mp he with rfl | g
    · exact h2
    · exact g3 e g
theorem AllD.lst {a : Addr} (h : AllD K H m n xs) (l : xs.length ≤ m) (e : H a = some (.lst xs)) : ∃ d, Dp K H (.ref a) d ∧ Sz m (n + 1) d := by
  obtain ⟨ds, g1, g2, g3⟩ := h.all
  exact ⟨.list ds, .lst (SqL.of e) g1, by rw [g2]; exact l, g3⟩
theorem AllD.tup {a : Addr} (h : AllD K H m n xs) (l : xs.length ≤ m) (e : SqT K H a xs) : ∃ d, Dp K H (.ref a) d ∧ Sz m (n + 1) d := by
  obtain ⟨ds, g1, g2, g3⟩ := h.all
  exact ⟨.tuple ds, .tup e g1, by rw [g2]; exact l, g3⟩
end
/-! ### all but the tables of code objects is kept -/
theorem ext_same {H H' : Hp} (s : Same H H') : ExtN H H' := fun b o e _ => s b o e
theorem ntbl_lst {xs : List V} (ps : Array Value) : HO.lst xs ≠ .tbl ps := fun z => nomatch z
theorem ntbl_tup {xs : List V} (ps : Array Value) : HO.tup xs ≠ .tbl ps := fun z => nomatch z
theorem ntbl_frz {o : Obj} {u : HO} (ps : Array Value) : HO.frz o u ≠ .tbl ps := fun z => nomatch z
theorem ext_seqT {K : PySem.W.Frag} {H H' : Hp} {a : Addr} {xs : List V} (e : ExtN H H') (h : SqT K H a xs) : SqT K H' a xs := by
  rcases h with (h | ⟨o, h⟩) | h
  · exact .inl (.inl (e _ _ h ntbl_tup))
  · exact .inl (.inr ⟨o, e _ _ h ntbl_frz⟩)
  · exact .inr h
theorem ext_seqL {K : PySem.W.Frag} {H H' : Hp} {a : Addr} {xs : List V} (e : ExtN H H') (h : SqL K H a xs) : SqL K H' a xs := by
  rcases h with (h | ⟨o, h⟩) | h
  · exact .inl (.inl (e _ _ h ntbl_lst))
  · exact .inl (.inr ⟨o, e _ _ h ntbl_frz⟩)
  · exact .inr h
mutual
theorem ext_dp {K : PySem.W.Frag} {H H' : Hp} (e : ExtN H H') : ∀ {x : V} {d : PyData}, Dp K H x d → Dp K H' x d
  | _, _, .non => .non
  | _, _, .bl b => .bl b
  | _, _, .int b => .int b
  | _, _, .str b => .str b
  | _, _, .lst s t => .lst (ext_seqL e s) (ext_dpa e t)
  | _, _, .tup s t => .tup (ext_seqT e s) (ext_dpa e t)
theorem ext_dpa {K : PySem.W.Frag} {H H' : Hp} (e : ExtN H H') : ∀ {x : List V} {d : List PyData}, DpAll K H x d → DpAll K H' x d
  | _, _, .nil => .nil
  | _, _, .cons h t => .cons (ext_dp e h) (ext_dpa e t)
end
theorem ext_purse {K : PySem.W.Frag} {H H' : Hp} {p : Addr} {r : Int} {ss : List Int} (e : ExtN H H') (h : Purse K H p r ss) : Purse K H' p r ss := by
  obtain ⟨sA, h1, h2⟩ := h
  exact ⟨sA, ext_seqT e h1, ext_seqT e h2⟩
/-- all but the bags' places and the tables -/
structure Kq (H H' : Hp) : Prop where
  keep : ∀ a o, H a = some o → ¬ BagSh o → (∀ ps, o ≠ .tbl ps) → H' a = some o
  bag : ∀ a d c, H a = some (.lst [.ref d, .int c]) → ∃ c', H' a = some (.lst [.ref d, .int c'])
theorem Kq.of {H H' : Hp} (k : Kp H H') : Kq H H' := ⟨fun a o e n _ => k.keep a o e n, k.bag⟩
theorem Kq.ext {H H' : Hp} (k : ExtN H H') : Kq H H' := ⟨fun a o e _ n => k a o e n, fun a d c e => ⟨c, k _ _ e ntbl_lst⟩⟩
theorem Kq.trans {H H1 H2 : Hp} (x : Kq H H1) (y : Kq H1 H2) : Kq H H2 := by
  refine ⟨fun a o e n t => y.keep a o (x.keep a o e n t) n t, fun a d c e => ?_⟩
  obtain ⟨c1, e1⟩ := x.bag a d c e
  exact y.bag a d c1 e1
theorem Kq.bags {H H' : Hp} {b : Addr} (x : Kq H H') (h : Bag H b) : Bag H' b := by
  obtain ⟨d, c, ds, h1, h2, h3⟩ := h
  obtain ⟨c', e⟩ := x.bag b d c h1
  exact ⟨d, c', ds, e, x.keep _ _ h2 nint ntbl_lst, h3⟩
theorem Kp.tabs {T : List (Addr × Str)} {H H' : Hp} (k : Kp H H') (t : Tabs T H) : Tabs T H' := by
  intro p hp
  obtain ⟨ps, h1, h2, h3⟩ := t p hp
  refine ⟨ps, k.keep _ _ h1 (fun ⟨_, _, z⟩ => nomatch z), h2, fun pos cv hc => ?_⟩
  obtain ⟨c, e1, e2⟩ := h3 pos cv hc
  exact ⟨c, e1, k.keep _ _ e2 (fun ⟨_, _, z⟩ => by unfold CodeO at z; exact nomatch z)⟩
theorem same_tabs {T : List (Addr × Str)} {H H' : Hp} (s : Same H H') (t : Tabs T H) : Tabs T H' := t.ext s
/-- a list display's or a slice's ints -/
theorem rd_slI {K : PySem.W.Frag} {H : Hp} {Q : VK} {a : Addr} {ns : List Int} {k : Int} (h0 : 0 ≤ k) (h : SqL K H a (ns.map V.int)) (q : ∀ p, H p = none → Q (.ref p) (upd H p (.lst ((ns.drop k.toNat).map V.int)))) : rSlL K (.ref a) (some k) none H Q := by
  refine ⟨a, _, rfl, h, fun p np => ?_⟩
  rw [cut_from h0]
  exact q p np
end FR
namespace FR
open PySem PySem.Spec PyProof.Rows L2
def oddL (t1 t2 t3 t4 t5 t6 t7 t8 t9 t11 t13 t15 t16 : Addr) : List V := (([.non, .bl true, .bl false, .int (-1), .int 0, .int 1, .int 2, .int 20, .int 21, .int (10 ^ (Int.toNat 18)), .int (10 ^ (Int.toNat 18) + 1), .int (10 ^ (Int.toNat 30)), .str "", .str "ride", .str "a"] : List V) ++ [.ref t1, .ref t2, .ref t3, .ref t4, .ref t5, .ref t6, .ref t7]) ++ [.ref t8, .ref t9, .ref t11, .ref t13, .ref t15, .ref t16, .str "rides"]
theorem odd_all {K : PySem.W.Frag} {H : Hp} {t1 t2 t3 t4 t5 t6 t7 t8 t9 t10 t11 t12 t13 t14 t15 t16 : Addr} (e1 : H t1 = some (.tup [])) (e2 : H t2 = some (.lst [])) (e3 : H t3 = some (.tup [.int 0])) (e4 : H t4 = some (.tup [.int 2])) (e5 : H t5 = some (.lst [.int 2])) (e6 : H t6 = some (.tup [.int 2, .int 2])) (e7 : H t7 = some (.tup [.int 1, .int 2])) (e8 : H t8 = some (.tup [.int 21])) (e9 : H t9 = some (.tup [.int 2, .int 3, .int 4, .int 5]))
    (e10 : H t10 = some (.tup [.int 0])) (e11 : H t11 = some (.tup [.int 0, .ref t10])) (e12 : H t12 = some (.tup [])) (e13 : H t13 = some (.tup [.int 0, .ref t12])) (e14 : H t14 = some (.tup [.int 0])) (e15 : H t15 = some (.lst [.int 0, .ref t14])) (e16 : H t16 = some (.tup [.non])) : AllD K H 4 2 (oddL t1 t2 t3 t4 t5 t6 t7 t8 t9 t11 t13 t15 t16) := by
  have iz : ∀ {n : Nat} {i : Int}, Sz 4 n (.int i) := fun {n i} => by cases n <;> exact True.intro
  have A0 : ∀ {ns : List Int}, AllD K H 4 0 (ns.map V.int) := fun {ns} => .of (dp_ints ns) (fun d hd => by obtain ⟨i, _, rfl⟩ := List.mem_map.mp hd; exact iz)
  have sq : ∀ {t : Addr} {ns : List Int}, ns.length ≤ 4 → (H t = some (.tup (ns.map V.int)) ∨ H t = some (.lst (ns.map V.int))) → ∃ d, Dp K H (.ref t) d ∧ Sz 4 2 d := by
    intro t ns l h
    rcases h with h | h
    · obtain ⟨d, g1, g2⟩ := (A0 (ns := ns)).tup (by rw [List.length_map]; exact l) (SqT.of h)
      exact ⟨d, g1, g2.mono (Nat.le_refl _) (by decide)⟩
    · obtain ⟨d, g1, g2⟩ := (A0 (ns := ns)).lst (by rw [List.length_map]; exact l) h
      exact ⟨d, g1, g2.mono (Nat.le_refl _) (by decide)⟩
  have two : ∀ {t u : Addr} {ns : List Int}, ns.length ≤ 4 → H u = some (.tup (ns.map V.int)) → (H t = some (.tup [.int 0, .ref u]) ∨ H t = some (.lst [.int 0, .ref u])) → ∃ d, Dp K H (.ref t) d ∧ Sz 4 2 d := by
    intro t u ns l hu h
    obtain ⟨d, g1, g2⟩ := (A0 (ns := ns)).tup (by rw [List.length_map]; exact l) (SqT.of hu)
    have A1 : AllD K H 4 1 [.int 0, .ref u] := .cons (.int 0) iz (.cons g1 g2 .nil)
    rcases h with h | h
    · exact A1.tup (show 2 ≤ 4 by decide) (SqT.of h)
    · exact A1.lst (show 2 ≤ 4 by decide) h
  intro x hx
  unfold oddL at hx
  simp only [List.cons_append, List.nil_append, List.mem_cons, List.not_mem_nil, or_false] at hx
  rcases hx with rfl | rfl | rfl | rfl | rfl | rfl | rfl | rfl | rfl | rfl | rfl | rfl | rfl | rfl | rfl | rfl | rfl | rfl | rfl | rfl | rfl | rfl | rfl | rfl | rfl | rfl | rfl | rfl | rfl
  · exact ⟨_, .non, True.intro⟩
  · exact ⟨_, .bl _, True.intro⟩
  · exact ⟨_, .bl _, True.intro⟩
  iterate 9 exact ⟨_, .int _, True.intro⟩
  iterate 3 exact ⟨_, .str _, True.intro⟩
  · exact sq (ns := []) (by decide) (.inl e1)
  · exact sq (ns := []) (by decide) (.inr e2)
  · exact sq (ns := [0]) (by decide) (.inl e3)
  · exact sq (ns := [2]) (by decide) (.inl e4)
  · exact sq (ns := [2]) (by decide) (.inr e5)
  · exact sq (ns := [2, 2]) (by decide) (.inl e6)
  · exact sq (ns := [1, 2]) (by decide) (.inl e7)
  · exact sq (ns := [21]) (by decide) (.inl e8)
  · exact sq (ns := [2, 3, 4, 5]) (by decide) (.inl e9)
  · exact two (ns := [0]) (by decide) e10 (.inl e11)
  · exact two (ns := []) (by decide) e12 (.inl e13)
  · exact two (ns := [0]) (by decide) e14 (.inr e15)
  · refine ⟨_, .tup (SqT.of e16) (.cons .non .nil), ?_⟩
    exact ⟨by decide, fun d hd => by rw [List.mem_singleton.mp hd]; exact True.intro⟩
  · exact ⟨_, .str _, True.intro⟩
end FR
namespace FR
open PySem PySem.Spec PyProof.Rows L2
theorem kit2 {K : PySem.W.Frag} {a : String} {b1 b2 : Bool} (h1 : kitB a "tuple" = some b1) (h2 : kitB a "list" = some b2) : PySem.W.kitAny K (.type a) [.type "tuple", .type "list"] = some (b1 || b2) := by
  refine kitAny_cons (b := b1) (kit_ty h1) (fun e => ?_) (fun e => by rw [e]; rfl)
  rw [e, Bool.false_or]
  exact kitAny_cons (b := b2) (kit_ty h2) (fun e => by rw [e]; exact kitAny_nil) (fun e => e)
theorem clsTL : Paired ClsV [.ty "tuple", .ty "list"] [.type "tuple", .type "list"] := .cons (.ty "tuple") (.cons (.ty "list") .nil)
/-- which class data has -/
def tyN : PyData → String
  | .none => "NoneType"
  | .bool _ => "bool"
  | .int _ => "int"
  | .str _ => "str"
  | .list _ => "list"
  | .tuple _ => "tuple"
  | _ => "object"
theorem ty_dp {K : PySem.W.Frag} {H : Hp} {x : V} {d : PyData} (h : Dp K H x d) : TyX K H x (.type (tyN d)) := by
  cases h with
  | non => exact .base .non
  | bl b => exact .base (.bl b)
  | int b => exact .base (.int b)
  | str b => exact .base (.str b)
  | lst s _ => exact tyL s
  | tup s _ => exact tyT s
end FR
namespace FR
open PySem PySem.Spec PyProof.Rows L2
theorem seq_of {K : PySem.W.Frag} {H : Hp} {x : V} {d : PyData} {m n : Nat} (hd : Dp K H x d) (hz : Sz m n d) : (kitB (tyN d) "tuple" = some false ∧ kitB (tyN d) "list" = some false) ∨
    ∃ a xs n' b, x = .ref a ∧ n = n' + 1 ∧ (SqL K H a xs ∨ SqT K H a xs) ∧ AllD K H m n' xs ∧ xs.length ≤ m ∧ kitB (tyN d) "tuple" = some b ∧ kitB (tyN d) "list" = some (!b) := by
  cases hd with
  | non => exact .inl ⟨show kitB "NoneType" "tuple" = _ by decide +kernel, show kitB "NoneType" "list" = _ by decide +kernel⟩
  | bl b => exact .inl ⟨show kitB "bool" "tuple" = _ by decide +kernel, show kitB "bool" "list" = _ by decide +kernel⟩
  | int b => exact .inl ⟨show kitB "int" "tuple" = _ by decide +kernel, show kitB "int" "list" = _ by decide +kernel⟩
  | str b => exact .inl ⟨show kitB "str" "tuple" = _ by decide +kernel, show kitB "str" "list" = _ by decide +kernel⟩
  | lst s t =>
    cases n with
    | zero => exact hz.elim
    | succ n => exact .inr ⟨_, _, n, false, rfl, rfl, .inl s, .of t hz.2, by rw [dp_len t]; exact hz.1, show kitB "list" "tuple" = _ by decide +kernel, show kitB "list" "list" = _ by decide +kernel⟩
  | tup s t =>
    cases n with
    | zero => exact hz.elim
    | succ n => exact .inr ⟨_, _, n, true, rfl, rfl, .inr s, .of t hz.2, by rw [dp_len t]; exact hz.1, show kitB "tuple" "tuple" = _ by decide +kernel, show kitB "tuple" "list" = _ by decide +kernel⟩
end FR
namespace FR
open PySem PySem.Spec PyProof.Rows L2
/-! ### a heap of which some is hidden -/
def hidS (S : Addr → Bool) (H : Hp) : Hp := fun a => if S a = true then none else H a
theorem hid_sub {S : Addr → Bool} {H : Hp} : Same (hidS S H) H := fun a o e => by
  unfold hidS at e
  split at e
  · exact nomatch e
  · exact e
theorem hid_same {S : Addr → Bool} {H H' : Hp} (s : Same H H') : Same (hidS S H) (hidS S H') := fun a o e => by
  unfold hidS at e ⊢
  split at e
  · exact nomatch e
  · rename_i q
    rw [if_neg q]
    exact s a o e
theorem hid_new {S : Addr → Bool} {H H' : Hp} {t : Addr} {o : HO} (c : ∀ a, S a = true → H a ≠ none) (n : H t = none) (e : H' t = some o) : hidS S H' t = some o := by
  unfold hidS
  rw [if_neg (fun z => c t z n)]
  exact e
theorem hid_grow {S : Addr → Bool} {H H1 : Hp} {p : Addr} (n : H p = none) (s : Same H H1) : Same (hidS S H) (hidS (fun a => S a || decide (a = p)) H1) := fun a o e => by
  have e' := hid_sub a o e
  have ne : a ≠ p := ne_of_none e' n
  unfold hidS at e ⊢
  split at e
  · exact nomatch e
  · rename_i q
    rw [if_neg (by show ¬ (S a || decide (a = p)) = true; rw [decide_eq_false ne, Bool.or_false]; exact q)]
    exact s a o e
theorem hid_back {S : Addr → Bool} {H : Hp} {p : Addr} {o : HO} : Same (hidS (fun a => S a || decide (a = p)) H) (hidS S (upd H p o)) := fun a u e => by
  unfold hidS at e ⊢
  split at e
  · exact nomatch e
  · rename_i q
    have q' : ¬ (S a || decide (a = p)) = true := q
    rw [Bool.or_eq_true, decide_eq_true_eq, not_or] at q'
    have q := q'
    rw [if_neg q.1, upd_ne q.2]
    exact e
theorem hid_none {H : Hp} : hidS (fun _ => false) H = H := by
  funext a
  unfold hidS
  rw [if_neg (fun z => nomatch z)]
theorem cutG_to {xs : List V} {k : Int} (h0 : 0 ≤ k) : cutV xs none (some k) = xs.take k.toNat := by
  unfold cutV
  obtain ⟨n, rfl⟩ : ∃ n : Nat, k = (n : Int) := ⟨k.toNat, by omega⟩
  rw [HT.sIx_none, HT.sIx_nat, List.drop_zero, Nat.sub_zero]
  by_cases c : n ≤ xs.length
  · rw [Nat.min_eq_left c]
    rfl
  · rw [Nat.min_eq_right (by omega), List.take_length]
    exact (List.take_of_length_le (by show xs.length ≤ n; omega)).symm
theorem cutG_from {xs : List V} {k : Int} (h0 : 0 ≤ k) : cutV xs (some k) none = xs.drop k.toNat := by
  unfold cutV
  obtain ⟨n, rfl⟩ : ∃ n : Nat, k = (n : Int) := ⟨k.toNat, by omega⟩
  rw [HT.sIx_none, HT.sIx_nat]
  by_cases c : n ≤ xs.length
  · rw [Nat.min_eq_left c, List.take_of_length_le (by rw [List.length_drop]; exact Nat.le_refl _)]
    rfl
  · rw [Nat.min_eq_right (by omega), List.drop_eq_nil_of_le (Nat.le_refl _), List.take_nil]
    exact (List.drop_eq_nil_of_le (by show xs.length ≤ n; omega)).symm
end FR
namespace FR
open PySem PySem.Spec PyProof.Rows L2
theorem upd_at {H : Hp} {p : Addr} {o : HO} (_ : H p = none) : upd H p o p = some o := upd_same
theorem ixN_of {n : Nat} {k : Int} (h0 : 0 ≤ k) (h1 : k < (n : Int)) : ixN n k = some k.toNat := by
  unfold ixN
  rw [if_pos h0, if_pos (by omega)]
end FR
namespace FR
open PySem PySem.Spec PyProof.Rows L2 LamX
theorem sz_int {m n : Nat} {i : Int} : Sz m n (.int i) := by cases n <;> exact True.intro
theorem sz_ints {m n : Nat} {ns : List Int} (h : ns.length ≤ m) : Sz m (n + 1) (.tuple (ns.map PyData.int)) := by
  refine ⟨by rw [List.length_map]; exact h, fun d hd => ?_⟩
  obtain ⟨i, _, rfl⟩ := List.mem_map.mp hd
  exact sz_int
theorem sz_purse {m n : Nat} {r : Int} {ns : List Int} (h : ns.length ≤ m) (h2 : 2 ≤ m) : Sz m (n + 2) (.tuple [.int r, .tuple (ns.map PyData.int)]) := by
  refine ⟨h2, fun d hd => ?_⟩
  rcases List.mem_cons.mp hd with rfl | hd
  · exact sz_int
  · rw [List.mem_singleton.mp hd]
    exact sz_ints h
def HD (K : PySem.W.Frag) (H : Hp) (xs : List V) : Prop := ∀ x ∈ xs, ∃ d, Dp K H x d
section
variable {K : PySem.W.Frag} {H H' : Hp} {xs ys : List V} {x : V} {d : PyData}
theorem HD.same (h : HD K H xs) (s : Same H H') : HD K H' xs := fun x hx => let ⟨d, g⟩ := h x hx; ⟨d, Same.dp s g⟩
theorem HD.ext (h : HD K H xs) (s : ExtN H H') : HD K H' xs := fun x hx => let ⟨d, g⟩ := h x hx; ⟨d, ext_dp s g⟩
theorem HD.nil : HD K H [] := fun x hx => nomatch hx
theorem HD.cons (h : Dp K H x d) (t : HD K H xs) : HD K H (x :: xs) := fun y hy => by
  rcases List.mem_cons.mp hy with rfl | g
  · exact ⟨d, h⟩
  · exact t y g
theorem HD.app (h : HD K H xs) (t : HD K H ys) : HD K H (xs ++ ys) := fun y hy => by
  rcases List.mem_append.mp hy with g | g
  · exact h y g
  · exact t y g
theorem dpa_app : ∀ {xs ys : List V} {ds es : List PyData}, DpAll K H xs ds → DpAll K H ys es → DpAll K H (xs ++ ys) (ds ++ es)
  | _, _, _, _, .nil, h => h
  | _, _, _, _, .cons a t, h => .cons a (dpa_app t h)
end
def nums : List V := [.int 0, .int 1, .int 2, .int 20, .int 21, .int (-1), .bl true, .non, .int (10 ^ (Int.toNat 18)), .int (10 ^ (Int.toNat 18) + 1)]
theorem num_dp {K : PySem.W.Frag} {x : V} (h : x ∈ nums) : ∃ d, ∀ H : Hp, Dp K H x d := by
  unfold nums at h
  simp only [List.mem_cons, List.not_mem_nil, or_false] at h
  rcases h with rfl | rfl | rfl | rfl | rfl | rfl | rfl | rfl | rfl | rfl
  iterate 6 exact ⟨_, fun H => .int _⟩
  · exact ⟨_, fun H => .bl _⟩
  · exact ⟨_, fun H => .non⟩
  iterate 2 exact ⟨_, fun H => .int _⟩
theorem nocards_shaped : SeqAt.shaped (.list [.str "NoCards", .bool true]) = true := by
  unfold SeqAt.shaped
  rw [PyData.canLay0, PyData.canLayAll0, PyData.canLayAll0, PyData.canLayAll0, PyData.depth, PyData.depthAll, PyData.depthAll, PyData.depthAll, PyData.canLay0, PyData.canLay0, PyData.depth, PyData.depth]
  decide +kernel
theorem nocards_eqv : PyData.eqv (.list [.str "NoCards", .bool true]) (.list [.str "NoCards", .bool true]) = true := SeqAt.eqv_refl _ (by
  have := nocards_shaped
  unfold SeqAt.shaped at this
  exact (Bool.and_eq_true_iff.mp this).1)
theorem nil_eqv : PyData.eqv (.list []) (.list []) = true := SeqAt.eqv_refl _ (by
  have := shaped_nil
  unfold SeqAt.shaped at this
  exact (Bool.and_eq_true_iff.mp this).1)
end FR
namespace FR
open PySem PySem.Spec PyProof.Rows L2 LamX
theorem hid_in {K : PySem.W.Frag} {H : Hp} {x : V} {d : PyData} (h : Dp K H x d) : Dp K (hidS (fun _ => false) H) x d := by
  rw [hid_none]
  exact h
theorem hid_out {K : PySem.W.Frag} {H : Hp} {x : V} {d : PyData} (h : Dp K (hidS (fun _ => false) H) x d) : Dp K H x d := by
  rw [hid_none] at h
  exact h
theorem no_hid {H : Hp} : ∀ a : Addr, (fun _ : Addr => false) a = true → H a ≠ none := fun _ h => nomatch h
theorem cut_at {H : Hp} {p : Addr} {ns : List Int} {k : Int} (h0 : 0 ≤ k) : upd H p (.lst (cutV (ns.map V.int) (some k) none)) p = some (.lst ((ns.drop k.toNat).map V.int)) := by
  rw [upd_same, cut_from h0]
end FR
set_option maxHeartbeats 2000000
namespace FR
open PySem PySem.Spec PyProof.Rows L2 LamX
/-- a def that makes lambdas: its code object at c, that one's table at P -/
structure TabAt (K : PySem.W.Frag) (mg : Str → Option Value) (h : Heap) (x : Str) (st : Stmt) (c P : Addr) : Prop where
  fn : ∃ f fd, Fun K x x st f fd ∧ mg x = some (.ref f) ∧ fd.code = .ref c
  tab : h.get? P = some { cls := .none, data := .fields #[] }
  out : K.lookup P = none
  hd : PySem.W.CodeHd h c P
def TabAtX {K : PySem.W.Frag} {h : Heap} (_ : K.In h) (mg : Str → Option Value) (x : Str) (st : Stmt) : Prop := ∃ c P, TabAt K mg h x st c P
theorem tabAt_mk {K : PySem.W.Frag} {h : Heap} {mg : Str → Option Value} {x : Str} {st : Stmt} {f c P : Addr} {od od2 an : Option Addr} {sl sl2 : Array (Option Value)} {oc oc2 kV dc pm ct : Value} {vs : Array Value} {ts : List Addr} (X : K.In h) (G : h.Ns mainGlobals mg)
    (hT : ∀ P ∈ ts, h.get? P = some (PySem.W.tabObj #[]))
    (a1 : PySem.W.nsIn K mainGlobals x = some (some (.ref f))) (l1 : K.lookup f = some ⟨oc, od, .func (PySem.W.fnOf x x (defArgs st) (defBody st) (defScope st) .none kV dc pm an (.ref c) ct), sl⟩) (c1 : PySem.W.codeIn K (.ref c) x = true) (k1 : PySem.W.keepIn K (.ref f) = true)
    (lc : K.lookup c = some ⟨oc2, od2, .fields vs, sl2⟩) (vP : vs[11]? = some (.ref P)) (hc : PySem.W.codeHdIn K c P = true) (hn : K.lookup P = none) (mem : P ∈ ts) : TabAtX X mg x st :=
  ⟨c, P, ⟨f, _, fun_mk (st := st) l1 c1 k1, PySem.W.mg_of X G a1, rfl⟩, hT P mem, hn, PySem.W.codeHd_of_K X hc⟩
end FR
namespace FR
open PySem PySem.Spec PyProof.Rows L2
/-! ### enumerate of a tuple -/
set_option maxHeartbeats 1000000 in
theorem meets_enum1 {v : Value} {o : Obj} {H : Heap → Prop} (B : Begins v o H) :
    Meets (Builtin.«enumerate.__new__» ⟨[.type "enumerate", v], []⟩) (fun _ R s => H s.heap ∧
      R (.ok (.ret (.ref (s.heap.push o).objs.size))) { s with heap := (s.heap.push o).push { cls := .type "enumerate", data := .fields #[.none, .bool false, .ref s.heap.objs.size, rawInt 0, .none, .none] } }) :=
  .of_wp fun prog w A R s h => by
    obtain ⟨hp, g, d, tk, os⟩ := s
    obtain ⟨h1, h⟩ := h
    have hsub := sub_enumerate
    have q1 : ∀ {A' : Around} {E : Value → Shared → Prop} {Q : Value → Shared → Prop}, Q (.ref hp.objs.size) ⟨hp.push o, g, d, tk, os⟩ → wpAny (model prog w) A' (pyIter v) Q E ⟨hp, g, d, tk, os⟩ :=
      fun q => B.iter prog w _ _ ⟨hp, g, d, tk, os⟩ _ h1 q
    wp_walk using q1
    refine wpAny_stack_any fun st => wpAny_pure ?_
    split
    · rename_i c _ _ _ _ _
      cases (c == Value.type "enumerate")
      · wp_walk using q1
        exact ⟨_, rfl, h⟩
      · wp_walk using q1
        exact ⟨_, rfl, h⟩
    · wp_walk using q1
      exact ⟨_, rfl, h⟩
theorem call_enum1 {prog : Program} {w : World} {A : Around} {E : Value → Shared → Prop} {s : Shared} {v : Value} {o : Obj} {H : Heap → Prop} {Q : Value → Shared → Prop} (B : Begins v o H) (h1 : H s.heap)
    (h : ∀ h', IsEnum h' (s.heap.objs.size + 1) s.heap.objs.size 0 .none → h'.get? s.heap.objs.size = some o → h'.objs.size = s.heap.objs.size + 2 →
      (∀ b o, s.heap.get? b = some o → h'.get? b = some o) → Q (.ref (s.heap.objs.size + 1)) { s with heap := h' }) :
    wpAny (model prog w) A (call (.type "enumerate") [v]) Q E s := by
  refine callType_new F.called_enumerate (by decide) (F.typeCall_enumerate_1 _) (F.newCall_enumerate_1 _) (fun obj => F.args_object_init_2 obj _) F.entry_enumerate_new
    (meets_enum1 B) ⟨h1, ?_⟩
  have hz : (s.heap.push o).objs.size = s.heap.objs.size + 1 := Heap.size_push ..
  show _ ∧ _
  rw [hz]
  have he : IsEnum ((s.heap.push o).push { cls := .type "enumerate", data := .fields #[.none, .bool false, .ref s.heap.objs.size, rawInt 0, .none, .none] }) (s.heap.objs.size + 1) s.heap.objs.size 0 .none := by
    have z := Heap.get?_push_size (s.heap.push o) (o := { cls := .type "enumerate", data := .fields #[.none, .bool false, .ref s.heap.objs.size, rawInt 0, .none, .none] }) rfl
    rw [hz] at z
    exact z
  exact ⟨⟨_, he, rfl⟩, h _ he (Heap.get?_push_of_some _ (Heap.get?_push_size _ B.free)) (by rw [Heap.size_push, hz]) fun b o x => Heap.get?_push_of_some _ (Heap.get?_push_of_some _ x)⟩
/-- the tuple at a, each item in a new pair -/
def IteT (K : PySem.W.Frag) (a : Addr) : It :=
  ⟨fun i H => ∃ (xs : List V) (x : V), SqT K H a xs ∧ xs[i]? = some x, fun i H v H' => ∃ T x, v = .ref T ∧ H T = none ∧ H' = upd H T (.tup [.int (i : Nat), x]) ∧ ∀ xs, SqT K H a xs → xs[i]? = some x, fun i H => ∃ xs : List V, SqT K H a xs ∧ xs.length = i⟩
theorem turn_enumT {P : Program} {w : World} {K : PySem.W.Frag} {elts : List Expr} {kk : Nat} {tpos : Pos} (a e it : Addr) :
    Turn P w K (.Tuple elts kk tpos) (IteT K a) [e, it] e (fun i h => (∃ old, IsEnum h e it ((i : Nat) : Int) old) ∧ h.IsTupleIter it a i ∧ e ≠ it) where
  mem := by simp
  obj := fun i h st b hb => by
    obtain ⟨⟨old, he⟩, ⟨o, ho, hc, hd⟩, _⟩ := st
    have e' : b = e ∨ b = it := by simpa using hb
    rcases e' with z | z
    · rw [z]
      exact ⟨_, he, fun v q => nomatch q⟩
    · rw [z]
      exact ⟨o, ho, fun v q => by rw [hd] at q; cases q⟩
  keep := fun i h h' st k => let ⟨⟨old, he⟩, hi, hne⟩ := st; ⟨⟨old, k e (by simp) _ he⟩, hi.at fun o q => k it (by simp) o q, hne⟩
  item := by
    intro X hP hw hK hc i pins s σ H E I hf st hg
    subst hP hw hK
    obtain ⟨⟨old, he⟩, hit, hne⟩ := st
    obtain ⟨xs, x, hq, hx⟩ := hg
    obtain ⟨its, rv, p, hz⟩ := I.tuple hq
    obtain ⟨u, hu, ru⟩ := rv.get hx
    have hel : e < s.heap.objs.size := Heap.lt_size he
    have hil : it < s.heap.objs.size := by obtain ⟨_, q, _⟩ := hit; exact Heap.lt_size q
    have nae : e ≠ a := fun z => by
      obtain ⟨o, ho, hcl, _⟩ := id p
      rw [← z, he] at ho
      cases ho
      exact absurd hcl (by simp)
    have nai : a ≠ it := fun z => by
      obtain ⟨o, ho, hcl, _⟩ := id p
      obtain ⟨o2, ho2, hcl2, _⟩ := id hit
      rw [z, ho2] at ho
      cases ho
      rw [hcl] at hcl2
      exact absurd hcl2 (by simp)
    have hh : X.A.in1.handled = none := I.ok.hd hc
    have hlt : i < its.toArray.size := (Array.getElem?_eq_some_iff.mp (show its.toArray[i]? = some u by simpa using hu)).1
    refine wpAny_pyNext_enum_itemD (Draws.tuple hh it a nai its.toArray) he ⟨hit, p⟩ hlt hne (by simp [hne, nae]) fun u' h' tk hu' ho hit' hT hsz hk => ?_
    have eu : u' = u := by
      have e1 : its.toArray[i]? = some u := by simpa using hu
      rw [e1] at hu'
      exact (Option.some.inj hu').symm
    subst eu
    refine ⟨_, rfl, wpAny_letOwnedTupleGo_enum (s := { s with heap := h', toks := tk + 1 }) ho fun h'' he' sb => ?_⟩
    have hT2 : h''.get? s.heap.objs.size = some { cls := .type "tuple", data := .seq #[.int i tk, u'] } := (sb.2 _ (Nat.ne_of_gt hel)).trans hT
    have new : ObjOk X.prog X.w (upd H s.heap.objs.size (.tup [.int (i : Nat), x])) h'' s.heap.objs.size (.tup [.int (i : Nat), x]) :=
      ⟨by show 2 ≤ sizeLine; decide, [.int i tk, u'], .cons ⟨_, rfl⟩ (.cons ru .nil), ⟨_, hT2, rfl, _, rfl⟩⟩
    have I1 : Inv X pins σ (upd H s.heap.objs.size (.tup [.int (i : Nat), x])) { s with heap := h'', toks := tk + 1 } :=
      I.turnedNew (t' := tk + 1) (ch := [e, it]) (fun b ob hb q => (sb.2 b (fun z => hb (by simp [z]))).trans (hk b ob (fun z => hb (by simp [z])) (fun z => hb (by simp [z])) q)) hf (Nat.le_refl _) new
    refine ⟨.ref s.heap.objs.size, _, I1, rfl, ⟨_, x, rfl, I.hok.fresh (Nat.le_refl _), rfl, fun ys hy => by rw [I.tuple_inj hy hq]; exact hx⟩, ⟨⟨u', ?_⟩, hit'.1.at fun o q => (sb.2 it (Ne.symm hne)).trans q, hne⟩, fun b hb => ?_⟩
    · have e1 : ((i + 1 : Nat) : Int) = (i : Int) + 1 := by omega
      rw [e1]
      exact he'
    · have hb' : b < s.heap.objs.size := by
        have e' : b = e ∨ b = it := by simpa using hb
        rcases e' with z | z
        · rw [z]
          exact hel
        · rw [z]
          exact hil
      rw [upd_ne (Nat.ne_of_lt hb')]
      exact (hf b hb).1
  done := by
    intro X hP hw hK hc i pins s σ H E I hf st hg
    subst hP hw hK
    obtain ⟨⟨old, he⟩, hit, hne⟩ := st
    obtain ⟨xs, hq, hx⟩ := hg
    obtain ⟨its, rv, p, hz⟩ := I.tuple hq
    obtain ⟨f0, f1, f2, f3, f4, f5⟩ := hf it (by simp)
    have hl := rv.length
    have nai : a ≠ it := fun z => by
      obtain ⟨o, ho, hcl, _⟩ := id p
      obtain ⟨o2, ho2, hcl2, _⟩ := id hit
      rw [z, ho2] at ho
      cases ho
      rw [hcl] at hcl2
      exact absurd hcl2 (by simp)
    have hh : X.A.in1.handled = none := I.ok.hd hc
    have hn : i = its.toArray.size := by simp; omega
    exact wpAny_pyNext_enum_endD (Draws.tuple hh it a nai its.toArray) he ⟨hn ▸ hit, p⟩ fun h' eb => ⟨rfl, I.turned (t' := s.toks) (fun b o hb q => eb b o hb q) f0 f1 f3 f4 f5⟩
  self := fun A i s Q E st h => let ⟨⟨_, he⟩, _⟩ := st; wpAny_pyIter_enum he h
def iEnumT (K : PySem.W.Frag) (ta : TA) : TI := fun σ H R => ta σ H fun vs H1 => ∃ a xs, vs = [.ref a] ∧ SqT K H1 a xs ∧ R (IteT K a) H1
theorem pi_enumT {X : Cx} {e : Expr} {ta : TA} {p pos tpos : Pos} {elts : List Expr} {kk : Nat} (hg : Gl X "enumerate") (hm : X.mg "enumerate" = none) (ha : PA X [e] ta) (hs : starEach [e] X.env = [(false, eval e X.env)] := by rfl) :
    PI X (.Tuple elts kk tpos) (.Call (.Name "enumerate" p) [e] [] pos) (iEnumT X.K ta) := by
  refine ⟨fun pins s σ H R I h => ?_⟩
  refine Call_ (ld_blt I hg hm boot_enumerate (PyProof.Rows.callWith_type1 (thn (ha.run pos pins s σ H _ I h) fun us s1 ⟨vs, H1, I1, r1, q1⟩ => ?_) hs rfl))
  obtain ⟨a, xs, ex, hq, q⟩ := q1
  subst ex
  cases r1 with
  | cons r rr =>
    cases rr
    cases r
    obtain ⟨its, rv, p', hz⟩ := I1.tuple hq
    refine call_enum1 (begins_tuple a its.toArray) p' fun h' he hit hsz hk => wpAny_pyIter_enum he ?_
    have I2 : Inv X pins σ H1 { s1 with heap := h' } := I1.kept (t' := s1.toks) hk
    refine ⟨s1.heap.objs.size + 1, [s1.heap.objs.size + 1, s1.heap.objs.size], _, _, H1, rfl, I2, turn_enumT a (s1.heap.objs.size + 1) s1.heap.objs.size, ⟨⟨.none, he⟩, ⟨_, hit, rfl, rfl⟩, Nat.succ_ne_self _⟩, fun b hb => ?_, q⟩
    have e' : b = s1.heap.objs.size + 1 ∨ b = s1.heap.objs.size := by simpa using hb
    have hle : s1.heap.objs.size ≤ b := by
      rcases e' with z | z
      · rw [z]
        exact Nat.le_add_right _ _
      · rw [z]
        exact Nat.le_refl _
    exact I1.fpOk hle (I1.hok.fresh hle)
theorem for_enumT {K : PySem.W.Frag} {a : Addr} {xs : List V} {g : TG} {tb : TS} {D : Ends} {σ : L2.St} {H : Hp} (Pv : Nat → L2.St → Hp → Prop) (h0 : Pv 0 σ H) (hq : ∀ i σ H, Pv i σ H → SqT K H a xs)
    (hs : ∀ (i : Nat) (x : V) (T : Addr) (σ : L2.St) (H : Hp), xs[i]? = some x → Pv i σ H → H T = none → g (.ref T) σ (upd H T (.tup [.int (i : Nat), x])) fun σ2 H2 => tb { D with nx := Pv (i + 1), ct := Pv (i + 1), bk := D.nx } σ2 H2) (hd : ∀ σ H, Pv xs.length σ H → D.nx σ H) :
    ∃ W : Nat → Nat → L2.St → Hp → Prop, (∃ m, W 0 m σ H) ∧ ∀ i m σ H, W i m σ H →
      ((IteT K a).stop i H ∧ D.nx σ H) ∨ ((IteT K a).go i H ∧ ∃ N : L2.St → Hp → Prop, (∀ σ' H', N σ' H' → ∃ m', m' < m ∧ W (i + 1) m' σ' H') ∧ ∀ v H', (IteT K a).yld i H v H' → g v σ H' fun σ2 H2 => tb { D with nx := N, ct := N, bk := D.nx } σ2 H2) := by
  refine ⟨fun i m σ H => m = xs.length - i ∧ i ≤ xs.length ∧ Pv i σ H, ⟨xs.length, rfl, Nat.zero_le _, h0⟩, ?_⟩
  rintro i m σ H ⟨rfl, hi, p⟩
  have qx := hq i σ H p
  by_cases hlt : i < xs.length
  · have hx : xs[i]? = some xs[i] := List.getElem?_eq_getElem hlt
    refine .inr ⟨⟨xs, _, qx, hx⟩, Pv (i + 1), fun σ' H' p' => ⟨xs.length - (i + 1), by omega, rfl, hlt, p'⟩, fun v H' y => ?_⟩
    obtain ⟨T, x', rfl, hT, rfl, f1⟩ := y
    exact hs i x' T σ H (f1 xs qx) p hT
  · have e : i = xs.length := by omega
    subst e
    exact .inl ⟨⟨xs, qx, rfl⟩, hd σ H p⟩
end FR
namespace FR
open PySem PySem.Spec PyProof.Rows L2
theorem call_repr_b {X : Cx} : CallR X (.builtin "repr") (fun xs H Q => ∃ b : Bool, xs = [.bl b] ∧ Q (.str (if b then "True" else "False")) H) := by
  intro pins s σ H xs us Q I r h
  obtain ⟨b, rfl, q⟩ := h
  cases r with
  | cons rx rr =>
    cases rr
    cases rx
    exact PySem.P.repr_of_bool ⟨.str _, H, I.tok _, ⟨_, rfl⟩, q⟩
/-- the numbers of a range -/
def rgI (a b : Int) : List Int := (List.range (b - a).toNat).map fun i => a + (i : Nat)
theorem rgI_map (a b : Int) : rgV a b = (rgI a b).map V.int := by
  unfold rgV rgI
  rw [List.map_map]
  rfl
theorem rgI_mem {a b x : Int} (h : x ∈ rgI a b) : a ≤ x ∧ x < b := by
  unfold rgI at h
  obtain ⟨i, h1, h2⟩ := List.mem_map.mp h
  rw [List.mem_range] at h1
  omega
theorem rgI_len (a b : Int) : (rgI a b).length = (b - a).toNat := by
  unfold rgI
  rw [List.length_map, List.length_range]
end FR
namespace FR
open PySem PySem.Spec PyProof.Rows L2
theorem shaped_ints (ns : List Int) : SeqAt.shaped (.list (ns.map PyData.int)) = true := by
  unfold SeqAt.shaped
  rw [PyData.canLay0, PyData.depth, lay_ints, deep_ints]
  rfl
theorem ints_ne {ns : List Int} (h : ns ≠ []) : (!PyData.eqv (.list (ns.map PyData.int)) (.list [])) = true := by
  match ns, h with
  | _ :: _, _ =>
    rw [PyData.eqv]
    rfl
theorem ints_eq {ns : List Int} (h : ns = []) : (!PyData.eqv (.list (ns.map PyData.int)) (.list [])) = false := by
  subst h
  rw [PyData.eqv]
  rfl
end FR
namespace FR
open PySem PySem.Spec PyProof.Rows L2
/-! ### rules with the written part named, for what stands inside a comprehension -/
theorem pi_tupK (K : PySem.W.Frag) {X : Cx} {tg l : Expr} {tl : TE} (hl : PE X l tl) (h : X.K = K := by rfl) : PI X tg l (iTup K tl) := h ▸ pi_tup hl
theorem pi_listK (K : PySem.W.Frag) {X : Cx} {tg l : Expr} {tl : TE} (hl : PE X l tl) (h : X.K = K := by rfl) : PI X tg l (iList K tl) := h ▸ pi_list hl
theorem cr_sumK (K : PySem.W.Frag) {X : Cx} (hc : X.calm = true) (h : X.K = K := by rfl) : CallR X (.builtin "sum") (rSum K) := h ▸ cr_sum hc
theorem cr_allK (K : PySem.W.Frag) {X : Cx} (hc : X.calm = true) (h : X.K = K := by rfl) : CallR X (.builtin "all") (rAll K) := h ▸ cr_all hc
theorem op_eqDK (K : PySem.W.Frag) {X : Cx} (hu : X.A.units + 64 < cLine) (h : X.K = K := by rfl) : OpR X (compareOp .Eq) (rEqD K) := h ▸ op_eqD hu
theorem op_neDK (K : PySem.W.Frag) {X : Cx} (hu : X.A.units + 64 < cLine) (h : X.K = K := by rfl) : OpR X (compareOp .NotEq) (rNeD K) := h ▸ op_neD hu
end FR
namespace FR
open PySem PySem.Spec PyProof.Rows L2
/-- two lists of numbers put together: a new one -/
theorem rd_catL {H : Hp} {Q : VK} {l b : Addr} (ns ms : List Int) (h1 : H l = some (.lst (ns.map V.int))) (h2 : H b = some (.lst (ms.map V.int))) (hl : ns.length + ms.length ≤ 999) (q : ∀ p H', Same H H' → H p = none → H' p = some (.lst ((ns ++ ms).map V.int)) → Q (.ref p) H') : rCat (.ref l) (.ref b) H Q := by
  refine ⟨l, b, _, _, rfl, rfl, h1, h2, ?_, fun p np => ?_⟩
  · rw [List.length_map, List.length_map]
    exact Nat.le_of_lt (small1000 (by omega))
  · rw [← List.map_append]
    exact q p _ (same_upd np) np upd_same
end FR
namespace FR
open L2
/-- one way on from several ends -/
theorem via {G P : Prop} (main : G → P) (rest : G) : P := main rest
theorem viaH {H0 : Hp} {G : Hp → Prop} {P : Prop} (main : (∀ H', Same H0 H' → G H') → P) (rest : ∀ H', Same H0 H' → G H') : P := main rest
end FR
namespace FR
open PySem PySem.Spec PyProof.Rows L2
theorem pe_def0 {X : Cx} {k j : Nat} {sp : Sp} {x : Str} {p pos : Pos} (D : Def X.prog X.w X.K X.mg X.base x k [] sp) (hr : Room j X.A) (hg : Gl X x := by rfl) (hl : k ≤ j := by decide) (hdb : (x == ("__debug__" : Str)) = false := by decide) :
    PE X (.Call (.Name x p) [] [] pos) (tCall sp [] E0 tNil) := by
  obtain ⟨f, fd, F, m, kp, b⟩ := D.ex
  exact pe_call0 F (hr.mono hl) hg m kp b .nil pass0 hdb
end FR
namespace FR
open PySem PySem.Spec PyProof.Rows L2
def rGetQ (K : PySem.W.Frag) : V → V → Hp → VK → Prop := fun o i H Q => ∃ p xs k v, o = .ref p ∧ i = .int k ∧ SqL K H p xs ∧ 0 ≤ k ∧ k < 2 ^ 63 ∧ xs[k.toNat]? = some v ∧ Q v H
theorem get_lst {X : Cx} : PGet X (rGetQ X.K) := by
  intro pins s σ H o i ov iv Q I ro ri h
  obtain ⟨p, xs, k, v, rfl, rfl, sq, k0, k1, at_, q⟩ := h
  cases ro
  obtain ⟨tk, rfl⟩ := ri
  obtain ⟨its, rv, isl, _⟩ := I.list sq
  obtain ⟨u, atu, ru⟩ := rv.get at_
  exact wpAny_getItem_list isl.isList k0 k1 (by simpa using atu) ⟨v, H, I, ru, q⟩
/-! ### defs that raise -/
end FR
namespace FR
open PySem PySem.Spec PyProof.Rows L2
/-! ### zip of a list and a tuple, one beside the other -/
def SqB (b : Bool) (K : PySem.W.Frag) (H : Hp) (a : Addr) (xs : List V) : Prop := match b with | true => SqL K H a xs | false => SqT K H a xs
def IsB (b : Bool) (h : Heap) (a : Addr) (its : Array Value) : Prop := match b with | true => h.IsList a its | false => h.IsTuple a its
def ItB (b : Bool) (h : Heap) (it a : Addr) (i : Nat) : Prop := match b with | true => h.IsListIter it a i | false => h.IsTupleIter it a i
def obB (b : Bool) (a : Addr) : Obj := { cls := .type (match b with | true => "list_iterator" | false => "tuple_iterator"), data := .fields #[.ref a, .int 0 0] }
theorem drawsB {prog : Program} {w : World} {A : Around} (b : Bool) (hh : A.handled = none) (it l : Addr) (hne : l ≠ it) (items : Array Value) :
    Draws prog w A it [it, l] items.size (fun i v => items[i]? = some v) (fun i h => ItB b h it l i ∧ IsB b h l items) := by
  cases b
  · exact Draws.tuple hh it l hne items
  · exact Draws.list hh it l hne items
theorem beginsB (b : Bool) (a : Addr) (items : Array Value) : Begins (.ref a) (obB b a) fun h => IsB b h a items := by
  cases b
  · exact begins_tuple a items
  · exact begins_list a items
theorem ItB.new {b : Bool} {h : Heap} {it a : Addr} (e : h.get? it = some (obB b a)) : ItB b h it a 0 := by
  cases b
  · exact ⟨_, e, rfl, rfl⟩
  · exact ⟨_, e, rfl, rfl⟩
theorem ItB.at {b : Bool} {h h' : Heap} {it a : Addr} {i : Nat} (x : ItB b h it a i) (k : ∀ o, h.get? it = some o → h'.get? it = some o) : ItB b h' it a i := by
  cases b
  · exact Heap.IsTupleIter.at x k
  · exact Heap.IsListIter.at x k
theorem ItB.ex {b : Bool} {h : Heap} {it a : Addr} {i : Nat} (x : ItB b h it a i) : ∃ o, h.get? it = some o ∧ ∀ v, o.data ≠ .cell v := by
  cases b
  · obtain ⟨o, e, _, d⟩ := x
    exact ⟨o, e, fun v q => by rw [d] at q; cases q⟩
  · obtain ⟨o, e, _, d⟩ := x
    exact ⟨o, e, fun v q => by rw [d] at q; cases q⟩
theorem invB {b : Bool} {X : Cx} {pins : List (Addr × Obj)} {σ : L2.St} {H : Hp} {s : Shared} {a : Addr} {xs : List V} (I : Inv X pins σ H s) (h : SqB b X.K H a xs) : ∃ its : List Value, Vals xs its ∧ IsB b s.heap a its.toArray ∧ a < s.heap.objs.size := by
  cases b
  · obtain ⟨its, rv, p, _⟩ := I.tuple h
    obtain ⟨o, ho, _⟩ := id p
    exact ⟨its, rv, p, Heap.lt_size ho⟩
  · obtain ⟨its, rv, p, _⟩ := I.list h
    exact ⟨its, rv, p.isList, p.lt⟩
theorem injB {b : Bool} {X : Cx} {pins : List (Addr × Obj)} {σ : L2.St} {H : Hp} {s : Shared} {a : Addr} {xs ys : List V} (I : Inv X pins σ H s) (h : SqB b X.K H a xs) (h' : SqB b X.K H a ys) : xs = ys := by
  cases b
  · exact I.tuple_inj h h'
  · exact I.list_inj h h'
def ItzB (p q : Bool) (K : PySem.W.Frag) (a b : Addr) : It :=
  ⟨fun i H => ∃ (xs ys : List V) (x y : V), SqB p K H a xs ∧ SqB q K H b ys ∧ xs[i]? = some x ∧ ys[i]? = some y,
    fun i H v H' => ∃ T x y, v = .ref T ∧ H T = none ∧ H' = upd H T (.tup [x, y]) ∧ (∀ xs, SqB p K H a xs → xs[i]? = some x) ∧ ∀ ys, SqB q K H b ys → ys[i]? = some y,
    fun i H => ∃ xs ys : List V, SqB p K H a xs ∧ SqB q K H b ys ∧ xs.length = i ∧ ys.length = i⟩
theorem sepB {z TI TO i1 i2 a b : Addr} (D : ZipApart z TI TO i1 i2 a b) : ZipSep2 z TI TO i1 i2 [i1, a] [i2, b] :=
  { TIz := D.TIz, TOz := D.TOz, TITO := D.TITO, TIi1 := D.TIi1, mem1 := by simp, zf1 := by simp [Ne.symm D.i1z, Ne.symm D.l1z], Tf1 := by simp [D.TOi1, Ne.symm D.l1TO],
    TIi2 := D.TIi2, mem2 := by simp, zf2 := by simp [Ne.symm D.i2z, Ne.symm D.l2z], Tf2 := by simp [D.TOi2, Ne.symm D.l2TO],
    sep1_2 := by simp [D.i12, Ne.symm D.l2i1], sep2_1 := by simp [Ne.symm D.i12, Ne.symm D.l1i2] }
theorem turn_zipB {P : Program} {w : World} {K : PySem.W.Frag} {elts : List Expr} {kk : Nat} {tpos : Pos} {p q : Bool} {a b z TI TO i1 i2 : Addr} (D : ZipApart z TI TO i1 i2 a b) :
    Turn P w K (.Tuple elts kk tpos) (ItzB p q K a b) [z, TI, TO, i1, i2] z (fun i h => IsZip h z TI TO .none ∧ IsTupOf2 h TI (.ref i1) (.ref i2) ∧ (∃ x y, IsTupOf2 h TO x y) ∧ ItB p h i1 a i ∧ ItB q h i2 b i) where
  mem := by simp
  obj := fun i h st c hc => by
    obtain ⟨hz, hTI, ⟨x, y, hTO⟩, h1, h2⟩ := st
    have e' : c = z ∨ c = TI ∨ c = TO ∨ c = i1 ∨ c = i2 := by simpa using hc
    rcases e' with q | q | q | q | q
    · rw [q]; exact ⟨_, hz, fun v q => nomatch q⟩
    · rw [q]; exact ⟨_, hTI, fun v q => nomatch q⟩
    · rw [q]; exact ⟨_, hTO, fun v q => nomatch q⟩
    · rw [q]; exact h1.ex
    · rw [q]; exact h2.ex
  keep := fun i h h' st k => by
    obtain ⟨hz, hTI, ⟨x, y, hTO⟩, h1, h2⟩ := st
    exact ⟨k z (by simp) _ hz, k TI (by simp) _ hTI, ⟨x, y, k TO (by simp) _ hTO⟩, h1.at fun o q => k i1 (by simp) o q, h2.at fun o q => k i2 (by simp) o q⟩
  item := by
    intro X hP hw hK hc i pins s σ H E I hf st hg
    subst hP hw hK
    obtain ⟨hz, hTI, ⟨x0, y0, hTO⟩, h1, h2⟩ := st
    obtain ⟨xs, ys, x, y, hqx, hqy, hx, hy⟩ := hg
    obtain ⟨its, rv, pp, _⟩ := invB I hqx
    obtain ⟨its2, rv2, pp2, _⟩ := invB I hqy
    obtain ⟨u, hu, ru⟩ := rv.get hx
    obtain ⟨u2, hu2, ru2⟩ := rv2.get hy
    have hu' : its.toArray[i]? = some u := by simpa using hu
    have hu2' : its2.toArray[i]? = some u2 := by simpa using hu2
    have hzl : z < s.heap.objs.size := Heap.lt_size hz
    have hh : X.A.in1.handled = none := I.ok.hd hc
    refine wpAny_pyNext_zipD2_item (sepB D) (drawsB p hh i1 a D.l1i1 its.toArray) (drawsB q hh i2 b D.l2i2 its2.toArray) hz hTI hTO ⟨h1, pp⟩ ⟨h2, pp2⟩ (Array.getElem?_eq_some_iff.mp hu').1 (Array.getElem?_eq_some_iff.mp hu2').1 fun v v2 h' tk hv hv2 z' TO' h1' h2' hT hsz hk => ?_
    have ev : v = u := by
      rw [hu'] at hv
      exact (Option.some.inj hv).symm
    have ev2 : v2 = u2 := by
      rw [hu2'] at hv2
      exact (Option.some.inj hv2).symm
    subst ev ev2
    refine ⟨_, rfl, wpAny_letOwnedTupleGo_zip (s := { s with heap := h', toks := tk }) z' fun h'' z'' sb => ?_⟩
    have hT2 : h''.get? s.heap.objs.size = some { cls := .type "tuple", data := .seq #[v, v2] } := (sb.2 _ (Nat.ne_of_gt hzl)).trans hT
    have new : ObjOk X.prog X.w (upd H s.heap.objs.size (.tup [x, y])) h'' s.heap.objs.size (.tup [x, y]) :=
      ⟨by show 2 ≤ sizeLine; decide, [v, v2], .cons ru (.cons ru2 .nil), ⟨_, hT2, rfl, _, rfl⟩⟩
    have I1 : Inv X pins σ (upd H s.heap.objs.size (.tup [x, y])) { s with heap := h'', toks := tk } :=
      I.turnedNew (t' := tk) (ch := [z, TI, TO, i1, i2]) (fun c o hb q => (sb.2 c (fun q' => hb (by simp [q']))).trans (hk c o (fun q' => hb (by simp [q'])) (fun q' => hb (by simp [q'])) (fun q' => hb (by simp [q'])) (fun q' => hb (by simp [q'])) q)) hf (Nat.le_refl _) new
    refine ⟨.ref s.heap.objs.size, _, I1, rfl, ⟨_, x, y, rfl, I.hok.fresh (Nat.le_refl _), rfl, fun l hl => by rw [injB I hl hqx]; exact hx, fun l hl => by rw [injB I hl hqy]; exact hy⟩, ⟨z'', ?_, ⟨v, v2, ?_⟩, ?_, ?_⟩, fun c hcm => ?_⟩
    · exact (sb.2 _ D.TIz).trans (hk _ _ D.TIz D.TITO D.TIi1 D.TIi2 hTI)
    · exact (sb.2 _ D.TOz).trans TO'
    · exact h1'.1.at fun o q => (sb.2 _ D.i1z).trans q
    · exact h2'.1.at fun o q => (sb.2 _ D.i2z).trans q
    · have hlt : c < s.heap.objs.size := by
        have e' : c = z ∨ c = TI ∨ c = TO ∨ c = i1 ∨ c = i2 := by simpa using hcm
        rcases e' with q | q | q | q | q
        · rw [q]; exact hzl
        · rw [q]; exact Heap.lt_size hTI
        · rw [q]; exact Heap.lt_size hTO
        · rw [q]; obtain ⟨_, e1, _⟩ := h1.ex; exact Heap.lt_size e1
        · rw [q]; obtain ⟨_, e2, _⟩ := h2.ex; exact Heap.lt_size e2
      rw [upd_ne (Nat.ne_of_lt hlt)]
      exact (hf c hcm).1
  done := by
    intro X hP hw hK hc i pins s σ H E I hf st hg
    subst hP hw hK
    obtain ⟨hz, hTI, ⟨x0, y0, hTO⟩, h1, h2⟩ := st
    obtain ⟨xs, ys, hqx, hqy, e1, e2⟩ := hg
    obtain ⟨its, rv, pp, _⟩ := invB I hqx
    obtain ⟨its2, rv2, pp2, _⟩ := invB I hqy
    have l1 := rv.length
    have l2 := rv2.length
    have hh : X.A.in1.handled = none := I.ok.hd hc
    have n1 : i = its.toArray.size := by simp; omega
    have n2 : i = its2.toArray.size := by simp; omega
    exact wpAny_pyNext_zipD2_end (sepB D) (drawsB p hh i1 a D.l1i1 its.toArray) (drawsB q hh i2 b D.l2i2 its2.toArray) hz hTI hTO ⟨h1, pp⟩ ⟨h2, pp2⟩ (Nat.le_of_eq n1) (Nat.le_of_eq n2) (.inl n1) fun h' tk hk => ⟨rfl, I.turnedL (t' := tk) (ch := [z, TI, TO, i1, i2]) (fun c o hb q =>
      hk c o (fun q' => hb (by simp [q'])) (fun q' => hb (by simp [q'])) (fun q' => hb (by simp [q'])) (fun q' => hb (by simp [q'])) q) hf⟩
  self := fun A i s Q E st h => wpAny_pyIter_zip st.1 h
def iZipB (K : PySem.W.Frag) (p q : Bool) (ta : TA) : TI := fun σ H R => ta σ H fun vs H1 => ∃ a b xs ys, vs = [.ref a, .ref b] ∧ SqB p K H1 a xs ∧ SqB q K H1 b ys ∧ R (ItzB p q K a b) H1
theorem pi_zipB (p q : Bool) {X : Cx} {e e2 : Expr} {ta : TA} {ps pos tpos : Pos} {elts : List Expr} {kk : Nat} (hg : Gl X "zip") (hm : X.mg "zip" = none) (ha : PA X [e, e2] ta)
    (hs : starEach [e, e2] X.env = (false, eval e X.env) :: starEach [e2] X.env := by rfl) (hpl : (backTo pos (starEach [e2] X.env)).any (·.1) = false := by rfl) :
    PI X (.Tuple elts kk tpos) (.Call (.Name "zip" ps) [e, e2] [] pos) (iZipB X.K p q ta) := by
  refine ⟨fun pins s σ H R I h => ?_⟩
  refine Call_ (ld_blt I hg hm PyProof.Rows.boot_zip (PyProof.Rows.callWith_type1 (thn (ha.run pos pins s σ H _ I h) fun us s1 ⟨vs, H1, I1, r1, q1⟩ => ?_) hs hpl))
  obtain ⟨a, b, xs, ys, ex, hqx, hqy, q2⟩ := q1
  subst ex
  cases r1 with
  | cons r rr =>
    cases rr with
    | cons r' rr =>
      cases rr
      cases r
      cases r'
      have fresh5 : ∀ c, c ∈ [s1.heap.objs.size + 4, s1.heap.objs.size + 2, s1.heap.objs.size + 3, s1.heap.objs.size, s1.heap.objs.size + 1] → FpOk X pins H1 c := fun c hcm => by
        have e' : c = s1.heap.objs.size + 4 ∨ c = s1.heap.objs.size + 2 ∨ c = s1.heap.objs.size + 3 ∨ c = s1.heap.objs.size ∨ c = s1.heap.objs.size + 1 := by simpa using hcm
        have hle : s1.heap.objs.size ≤ c := by
          rcases e' with z | z | z | z | z
          · rw [z]; exact Nat.le_add_right _ _
          · rw [z]; exact Nat.le_add_right _ _
          · rw [z]; exact Nat.le_add_right _ _
          · rw [z]; exact Nat.le_refl _
          · rw [z]; exact Nat.le_add_right _ _
        exact I1.fpOk hle (I1.hok.fresh hle)
      obtain ⟨its, rv, p1, lt1⟩ := invB I1 hqx
      obtain ⟨its2, rv2, p2, lt2⟩ := invB I1 hqy
      refine zip_begins2 (beginsB p a its.toArray) (beginsB q b its2.toArray) p1 p2 fun h' hz hTI hTO h1 h2 hsz hk => wpAny_pyIter_zip hz ?_
      have I2 : Inv X pins σ H1 { s1 with heap := h' } := I1.kept (t' := s1.toks) hk
      exact ⟨s1.heap.objs.size + 4, [s1.heap.objs.size + 4, s1.heap.objs.size + 2, s1.heap.objs.size + 3, s1.heap.objs.size, s1.heap.objs.size + 1], _, _, H1, rfl, I2, turn_zipB (PySem.W.ktu_apart s1.heap.objs.size a b lt1 lt2), ⟨hz, hTI, ⟨_, _, hTO⟩, ItB.new h1, ItB.new h2⟩, fresh5, q2⟩
/-- a comprehension over both -/
theorem lc_zipB {p q : Bool} {K : PySem.W.Frag} {a b : Addr} {xs ys : List V} {g : TG} {tt : TT} {te : TE} {vs : List Nat} {σ : L2.St} {H1 : Hp} {D : Addr} {Qd : Hp → Prop} (hl : xs.length = ys.length) (Pv : Nat → Hp → Prop) (h0 : Pv 0 (upd H1 D (.lst []))) (hq : ∀ i H, Pv i H → SqB p K H a xs ∧ SqB q K H b ys)
    (hs : ∀ (i : Nat) (x y : V) (T : Addr) (H : Hp), xs[i]? = some x → ys[i]? = some y → Pv i H → H T = none → g (.ref T) (wipe σ vs) (upd H T (.tup [x, y])) fun σ2 H2 => wipe σ2 vs = wipe σ vs ∧ tt σ2 H2 fun b H3 =>
      if b = true then te σ2 H3 fun y H4 => ∃ acc, H4 D = some (.lst acc) ∧ acc.length < sizeLine ∧ Pv (i + 1) (upd H4 D (.lst (acc ++ [y]))) else Pv (i + 1) H3) (hd : ∀ H, Pv xs.length H → Qd H) :
    ∃ W : Nat → Nat → Hp → Prop, (∃ m, W 0 m (upd H1 D (.lst []))) ∧ ∀ i m H, W i m H →
      ((ItzB p q K a b).stop i H ∧ Qd H) ∨ ((ItzB p q K a b).go i H ∧ ∃ Nx : Hp → Prop, (∀ H', Nx H' → ∃ m', m' < m ∧ W (i + 1) m' H') ∧ ∀ x H', (ItzB p q K a b).yld i H x H' → g x (wipe σ vs) H' fun σ2 H2 => wipe σ2 vs = wipe σ vs ∧ tt σ2 H2 fun b H3 =>
        if b = true then te σ2 H3 fun y H4 => ∃ acc, H4 D = some (.lst acc) ∧ acc.length < sizeLine ∧ Nx (upd H4 D (.lst (acc ++ [y]))) else Nx H3) := by
  refine ⟨fun i m H => m = xs.length - i ∧ i ≤ xs.length ∧ Pv i H, ⟨xs.length, rfl, Nat.zero_le _, h0⟩, ?_⟩
  rintro i m H ⟨rfl, hi, p⟩
  obtain ⟨qx, qy⟩ := hq i H p
  by_cases hlt : i < xs.length
  · have g1 : xs[i]? = some xs[i] := List.getElem?_eq_getElem hlt
    have g2 : ys[i]? = some ys[i] := List.getElem?_eq_getElem (by omega)
    refine .inr ⟨⟨_, _, _, _, qx, qy, g1, g2⟩, Pv (i + 1), fun H' p' => ⟨xs.length - (i + 1), by omega, rfl, hlt, p'⟩, fun x H' y => ?_⟩
    obtain ⟨T, x1, x2, rfl, nT, rfl, f1, f2⟩ := y
    exact hs i x1 x2 T H (f1 _ qx) (f2 _ qy) p nT
  · have e : i = xs.length := by omega
    subst e
    exact .inl ⟨⟨_, _, qx, qy, rfl, hl.symm⟩, hd H p⟩
end FR
namespace FR
open PySem PySem.Spec PyProof.Rows L2 HT
/-! ### t[::-1] -/
theorem rev_pick (its : List Value) : ((List.range its.length).filterMap fun (m : Nat) => its.toArray[(((its.length : Int) - 1) + (m : Int) * (-1)).toNat]?) = its.reverse := by
  have e : ∀ m ∈ List.range its.length, its.toArray[(((its.length : Int) - 1) + (m : Int) * (-1)).toNat]? = its.reverse[m]? := fun m hm => by
    rw [List.mem_range] at hm
    rw [List.getElem?_reverse hm, List.getElem?_toArray]
    congr 1
    omega
  have e2 : ∀ (l : List Nat) (f g : Nat → Option Value), (∀ m ∈ l, f m = g m) → l.filterMap f = l.filterMap g := fun l f g h => by
    induction l with
    | nil => rfl
    | cons a r ih =>
      rw [List.filterMap_cons, List.filterMap_cons, h a List.mem_cons_self, ih fun m hm => h m (List.mem_cons_of_mem _ hm)]
  rw [e2 _ _ _ e]
  have e3 : ∀ (ys : List Value), (List.range ys.length).filterMap (fun m => ys[m]?) = ys := fun ys => by
    have h := pick_run ys.toArray 0 ys.length
    simpa using h
  have := e3 its.reverse
  rw [List.length_reverse] at this
  exact this
theorem sliceApplied_rev {prog : Program} {w : World} {A : Around} {E : Value → Shared → Prop} {s : Shared} {sl : Addr} {t : Tok} {n : Nat} {Q : Int × Int × Nat → Shared → Prop} (hs : s.heap.IsSliceOf sl .none .none (.int (-1) t))
    (h : Q ((n : Int) - 1, -1, n) s) : wpAny (model prog w) A (Builtin.Slice.sliceApplied (.ref sl) (pure (n : Int))) Q E s := by
  obtain ⟨os, hos, hcs, hds⟩ := id hs
  unfold Builtin.Slice.sliceApplied Builtin.Slice.sliceFields
  refine wpAny_bind (wpAny_bind (wpAny_field hos hds (x := .none) rfl (wpAny_bind (wpAny_field hos hds (x := .none) rfl (wpAny_bind (wpAny_field hos hds (x := .int (-1) t) rfl (wpAny_pure ?_)))))))
  refine wpAny_bind (slicePart_int ?_)
  show wpAny _ _ (if ((-1 : Int) == 0) = true then _ else _) _ _ s
  rw [if_neg (by decide)]
  refine wpAny_bind (slicePart_none (wpAny_bind (slicePart_none (wpAny_bind (wpAny_pure ?_)))))
  show wpAny _ _ (pure ((n : Int) - 1, (-1 : Int), Builtin.Slice.slicePlaces ((n : Int) - 1) (-1) (-1))) _ _ s
  have e : Builtin.Slice.slicePlaces ((n : Int) - 1) (-1) (-1) = n := by
    unfold Builtin.Slice.slicePlaces
    rw [if_neg (by decide)]
    split
    · have : ((n : Int) - 1 - -1 - 1) / (- -1) = (n : Int) - 1 := by
        rw [show (- -1 : Int) = 1 by decide, Int.ediv_one]
        omega
      rw [this]
      omega
    · omega
  rw [e]
  exact wpAny_pure h
theorem getItem_rev {prog : Program} {w : World} {A : Around} {E : Value → Shared → Prop} {s : Shared} {t sl : Addr} {its : List Value} {k : Tok} {Q : Value → Shared → Prop} (ht : IsTup s.heap t its.toArray) (hs : s.heap.IsSliceOf sl .none .none (.int (-1) k))
    (h : Q (.ref s.heap.objs.size) { s with heap := s.heap.push { cls := .type "tuple", data := .seq its.reverse.toArray } })
    (hsz : its.length ≤ sizeLine) : wpAny (model prog w) A (getItem (.ref t) (.ref sl)) Q E s := by
  have htake : sizeOk (.seq its.reverse.toArray) := by
    show its.reverse.toArray.size ≤ sizeLine
    rw [List.size_toArray, List.length_reverse]
    exact hsz
  obtain ⟨os, hos, hcs, hds⟩ := id hs
  have hTs : s.TypeIs (.ref sl) "slice" := ⟨os, hos, hcs⟩
  unfold getItem
  try with_reducible refine wpAny_holding ?_
  first | refine wpAny_bind (wpAny_pure ?_) | skip
  refine wpAny_bind (wpAny_sequenceKey ht.typeIs (by decide) ?_)
  refine wpAny_bind (wpAny_callSpecial?_slot (name := Str.ofString "__getitem__") ht.typeIs PyProof.Rows.slot_tuple_getitem
    (wpAny_call_entry PyProof.Rows.slot_tuple_getitem ht.typeIs entry_tuple_getitem ?_ (args_tuple_getitem _ _)))
  show wpAny _ _ (Builtin.Tuple.tupleItemsOf (.ref t) >>= _) _ _ s
  refine wpAny_bind (tupleItemsOf_ ht ?_)
  refine wpAny_bind (wpAny_typeOf hTs ?_)
  rw [if_pos (by decide)]
  refine wpAny_bind (sliceApplied_rev (n := its.toArray.size) hs ?_)
  have hno : ¬ ((((its.toArray.size : Int) - 1) == 0 && (-1 : Int) == 1 && its.toArray.size == its.toArray.size) = true) := by
    intro q
    rw [Bool.and_eq_true, Bool.and_eq_true] at q
    exact absurd q.1.2 (by decide)
  show wpAny _ _ (if (((its.toArray.size : Int) - 1) == 0 && (-1 : Int) == 1 && its.toArray.size == its.toArray.size) = true then _ else _) _ _ s
  rw [if_neg hno, List.size_toArray, rev_pick]
  first
    | exact wpAny_bind (m := Builtin.Tuple.tupleExact _) (wpAny_newObj_type (wpAny_pure ⟨_, rfl, wpAny_pure h⟩) htake)
    | exact wpAny_bind (m := Builtin.Tuple.tupleExact _) (wpAny_newObj_type (wpAny_bind (wpAny_pure (wpAny_pure ⟨_, rfl, wpAny_pure h⟩))) htake)
    | exact wpAny_bind (wpAny_bind (m := Builtin.Tuple.tupleExact _) (wpAny_newObj_type (wpAny_pure (wpAny_pure ⟨_, rfl, wpAny_pure h⟩)) htake))
    | exact wpAny_bind (wpAny_bind (m := Builtin.Tuple.tupleExact _) (wpAny_newObj_type (wpAny_pure ⟨_, rfl, wpAny_pure h⟩) htake))
theorem vals_rev {xs : List V} {us : List Value} (r : Vals xs us) : Vals xs.reverse us.reverse := by
  have app : ∀ {a c : List V} {b d : List Value}, Vals a b → Vals c d → Vals (a ++ c) (b ++ d) := by
    intro a c b d h1 h2
    induction h1 with
    | nil => exact h2
    | cons r rr ih => exact .cons r ih
  induction r with
  | nil => exact .nil
  | cons r rr ih =>
    rw [List.reverse_cons, List.reverse_cons]
    exact app ih (.cons r .nil)
def tRev (K : PySem.W.Frag) (te ts : TE) : TE := fun σ H Q => te σ H fun x H1 => ts σ H1 fun y H2 => y = .int (-1) ∧ ∃ a xs, x = .ref a ∧ SqT K H2 a xs ∧ ∀ p, H2 p = none → Q (.ref p) (upd H2 p (.tup xs.reverse))
theorem pe_rev {X : Cx} {e es : Expr} {te ts : TE} {pos p2 : Pos} (he : PE X e te) (hs : PE X es ts) : PE X (.Subscript e (.Slice none none (some es) p2) pos) (tRev X.K te ts) := by
  refine ⟨fun pins s σ H Q I h => ?_⟩
  refine Subscript_ (thn (he.run pins s σ H _ I h) fun v s1 ⟨x, H1, I1, r1, q1⟩ => ?_)
  refine wpAny_Slice ?_
  rw [evalPart_none]
  refine wpAny_pure ?_
  refine wpAny_pure ?_
  rw [evalPart_some]
  refine thn (hs.run pins s1 σ H1 _ I1 q1) fun u s3 ⟨y, H3, I3, r3, q3⟩ => ?_
  obtain ⟨rfl, a, xs, rfl, hx, q⟩ := q3
  obtain ⟨t, rfl⟩ := r3
  cases r1
  have I4 : Inv X pins σ H3 { s3 with heap := s3.heap.push { cls := .type "slice", data := .fields #[.none, .none, .int (-1) t] } } := I3.kept (t' := s3.toks) fun b ob q => Heap.get?_push_of_some _ q
  obtain ⟨its, r, ht, hz⟩ := I4.tuple hx
  show wpAny (model X.prog X.w) X.A (subscriptTail e (.Slice none none (some es) p2) (.ref a) (.ref s3.heap.objs.size)) (EP X pins σ Q) X.xe { s3 with heap := s3.heap.push { cls := .type "slice", data := .fields #[.none, .none, .int (-1) t] } }
  refine tail_any (ops := [.ref a, .ref s3.heap.objs.size]) (T := "tuple") ht.typeIs PyProof.Rows.slot_tuple_getitem.lookup ?_ (by with_unfolding_all rfl)
  refine getItem_rev ht (Heap.IsSliceOf.new ..) ?_ (by rw [← r.length]; exact hz)
  refine ⟨.ref _, _, I4.laid (t' := s3.toks) (o := .tup xs.reverse) (fun b ob q => Heap.get?_push_of_some _ q) (Nat.le_refl _) ?_, rfl, q _ (I4.hok.fresh (Nat.le_refl _))⟩
  exact ⟨by rw [List.length_reverse]; exact hz, _, vals_rev r, IsTup.new _ _⟩
end FR
namespace FR
open PySem PySem.Spec PyProof.Rows L2
/-! ### folk: purses in a tuple -/
def pursesD (n : Nat) : PyData → Bool
  | .tuple ds => decide (1 ≤ ds.length) && decide (ds.length ≤ 8) && ds.all (purseD n)
  | _ => false
inductive Pss (K : PySem.W.Frag) (H : Hp) : List Addr → List (Int × List Int) → Prop
  | nil : Pss K H [] []
  | cons {a : Addr} {as : List Addr} {p : Int × List Int} {ps : List (Int × List Int)} : Purse K H a p.1 p.2 → Pss K H as ps → Pss K H (a :: as) (p :: ps)
theorem Pss.kp {K : PySem.W.Frag} {H H' : Hp} (k : Kp H H') {as : List Addr} {ps : List (Int × List Int)} (h : Pss K H as ps) : Pss K H' as ps := by
  induction h with
  | nil => exact .nil
  | cons h1 _ ih => exact .cons (h1.kp k) ih
theorem Pss.same {K : PySem.W.Frag} {H H' : Hp} (k : Same H H') {as : List Addr} {ps : List (Int × List Int)} (h : Pss K H as ps) : Pss K H' as ps := h.kp (.of k)
theorem Pss.len {K : PySem.W.Frag} {H : Hp} {as : List Addr} {ps : List (Int × List Int)} (h : Pss K H as ps) : as.length = ps.length := by
  induction h with
  | nil => rfl
  | cons _ _ ih => exact congrArg (· + 1) ih
theorem Pss.get {K : PySem.W.Frag} {H : Hp} {as : List Addr} {ps : List (Int × List Int)} (h : Pss K H as ps) : ∀ {i : Nat} {a : Addr}, as[i]? = some a → ∃ p, ps[i]? = some p ∧ Purse K H a p.1 p.2 := by
  induction h with
  | nil => intro i a e; simp at e
  | cons h1 _ ih =>
    intro i a e
    match i, e with
    | 0, e =>
      cases e
      exact ⟨_, rfl, h1⟩
    | i + 1, e => exact ih e
theorem Pss.app {K : PySem.W.Frag} {H : Hp} {as bs : List Addr} {ps qs : List (Int × List Int)} (h : Pss K H as ps) (h' : Pss K H bs qs) : Pss K H (as ++ bs) (ps ++ qs) := by
  induction h with
  | nil => exact h'
  | cons h1 _ ih => exact .cons h1 ih
theorem Pss.rev {K : PySem.W.Frag} {H : Hp} {as : List Addr} {ps : List (Int × List Int)} (h : Pss K H as ps) : Pss K H as.reverse ps.reverse := by
  induction h with
  | nil => exact .nil
  | cons h1 _ ih =>
    rw [List.reverse_cons, List.reverse_cons]
    exact ih.app (.cons h1 .nil)
theorem Pss.take {K : PySem.W.Frag} {H : Hp} {as : List Addr} {ps : List (Int × List Int)} (h : Pss K H as ps) : ∀ n : Nat, Pss K H (as.take n) (ps.take n) := by
  induction h with
  | nil => intro n; rw [List.take_nil, List.take_nil]; exact .nil
  | cons h1 _ ih =>
    intro n
    match n with
    | 0 => exact .nil
    | n + 1 => exact .cons h1 (ih n)
def purD (p : Int × List Int) : PyData := .tuple [.int p.1, .tuple (p.2.map PyData.int)]
theorem Pss.dp {K : PySem.W.Frag} {H : Hp} {as : List Addr} {ps : List (Int × List Int)} (h : Pss K H as ps) : DpAll K H (as.map V.ref) (ps.map purD) := by
  induction h with
  | nil => exact .nil
  | cons h1 _ ih => exact .cons h1.dp ih
/-- purses within the bounds -/
def Folk (n : Nat) (ps : List (Int × List Int)) : Prop := 1 ≤ ps.length ∧ ps.length ≤ 8 ∧ ∀ p ∈ ps, 0 ≤ p.1 ∧ p.1 ≤ 1000000000000000000 ∧ Stamps n p.2
theorem pursesD_ok {n : Nat} {ps : List (Int × List Int)} (h : Folk n ps) : pursesD n (.tuple (ps.map purD)) = true := by
  obtain ⟨h1, h8, h⟩ := h
  show (decide (1 ≤ (ps.map purD).length) && decide ((ps.map purD).length ≤ 8) && (ps.map purD).all (purseD n)) = true
  rw [List.length_map, decide_eq_true h1, decide_eq_true h8, List.all_map, Bool.true_and, Bool.true_and, List.all_eq_true]
  intro p hp
  obtain ⟨a, b, c⟩ := h p hp
  exact purseD_ok a b c
theorem Folk.good {n : Nat} {ps : List (Int × List Int)} (h : Folk n ps) : GoodP n ps := fun p hp => by
  obtain ⟨a, b, c⟩ := h.2.2 p hp
  exact ⟨a, c.1, fun x hx => (c.2 x hx).1⟩
/-- the sum of one kind's stamps -/
def colS (k : Nat) (ps : List (Int × List Int)) : Int := (ps.map fun p => p.2.getD k 0).sum
theorem tots_get {n k : Nat} (hk : k < n) : ∀ {ps : List (Int × List Int)}, GoodP n ps → (totS n ps)[k]? = some (colS k ps)
  | [], _ => by
    show (List.replicate n (0 : Int))[k]? = some 0
    rw [List.getElem?_replicate, if_pos hk]
  | p :: ps, h => by
    have ih := tots_get hk (ps := ps) (fun q hq => h q (List.mem_cons_of_mem _ hq))
    obtain ⟨_, e, _⟩ := h p List.mem_cons_self
    show (zadd p.2 (totS n ps))[k]? = some (colS k (p :: ps))
    unfold zadd
    rw [List.getElem?_zipWith, ih, List.getElem?_eq_getElem (by omega)]
    unfold colS
    rw [List.map_cons, List.sum_cons, List.getD_eq_getElem?_getD, List.getElem?_eq_getElem (by omega)]
    rfl
theorem tots_eq {n : Nat} {ps : List (Int × List Int)} (h : GoodP n ps) : totS n ps = (List.range n).map fun k => colS k ps := by
  refine List.ext_getElem? fun k => ?_
  by_cases hk : k < n
  · rw [tots_get hk h, List.getElem?_map, List.getElem?_range hk]
    rfl
  · rw [List.getElem?_eq_none (by rw [(tot_ok h).2.1]; omega), List.getElem?_eq_none (by rw [List.length_map, List.length_range]; omega)]
end FR
namespace FR
open PySem PySem.Spec PyProof.Rows L2
theorem totS_rev {n : Nat} {ps : List (Int × List Int)} (h : GoodP n ps) : totS n ps.reverse = totS n ps := by
  rw [tots_eq h, tots_eq (good_rev h)]
  refine List.map_congr_left fun k _ => ?_
  unfold colS
  rw [List.map_reverse, sum_rev]
def ApartV (cs : List Int) (ps : List (Int × List Int)) (v : V) : Prop := (v = .non ∧ ∃ p ∈ ps, Never cs p.1 p.2) ∨ ∃ ts, v = .int ts.sum ∧ Each cs ps ts
theorem apart_unique {cs : List Int} {ps : List (Int × List Int)} {v w : V} (h : ApartV cs ps v) (h' : ApartV cs ps w) : v = w := by
  rcases h with ⟨rfl, p, hp, hn⟩ | ⟨ts, rfl, he⟩
  · rcases h' with ⟨rfl, _⟩ | ⟨ts, rfl, he⟩
    · rfl
    · obtain ⟨t, ht⟩ := each_mem he hp
      exact (least_never ht hn).elim
  · rcases h' with ⟨rfl, p, hp, hn⟩ | ⟨ts', rfl, he'⟩
    · obtain ⟨t, ht⟩ := each_mem he hp
      exact (least_never ht hn).elim
    · rw [each_unique he he']
theorem apart_rev {cs : List Int} {ps : List (Int × List Int)} {v : V} (h : ApartV cs ps v) : ApartV cs ps.reverse v := by
  rcases h with ⟨rfl, p, hp, hn⟩ | ⟨ts, rfl, he⟩
  · exact .inl ⟨rfl, p, List.mem_reverse.mpr hp, hn⟩
  · exact .inr ⟨ts.reverse, by rw [sum_rev], each_rev he⟩
theorem told_unique {cs ss : List Int} {r : Int} {v w : V} (h : ToldV cs r ss v) (h' : ToldV cs r ss w) : v = w := by
  match w, h' with
  | .non, h' => exact told_never h h'
  | .int t, h' => exact told_least h h'
/-- what is told of each -/
inductive Tolds (cs : List Int) : List (Int × List Int) → List V → Prop
  | nil : Tolds cs [] []
  | cons {p : Int × List Int} {v : V} {ps : List (Int × List Int)} {vs : List V} : ToldV cs p.1 p.2 v → Tolds cs ps vs → Tolds cs (p :: ps) (v :: vs)
theorem Tolds.snoc {cs : List Int} {ps : List (Int × List Int)} {vs : List V} {p : Int × List Int} {v : V} (h : Tolds cs ps vs) (h' : ToldV cs p.1 p.2 v) : Tolds cs (ps ++ [p]) (vs ++ [v]) := by
  induction h with
  | nil => exact .cons h' .nil
  | cons h1 _ ih => exact .cons h1 ih
theorem Tolds.len {cs : List Int} {ps : List (Int × List Int)} {vs : List V} (h : Tolds cs ps vs) : vs.length = ps.length := by
  induction h with
  | nil => rfl
  | cons _ _ ih => exact congrArg (· + 1) ih
/-- all are numbers, or somebody's never end -/
theorem Tolds.split {cs : List Int} {ps : List (Int × List Int)} {vs : List V} (h : Tolds cs ps vs) : (∃ ts, vs = ts.map V.int ∧ Each cs ps ts) ∨ (V.non ∈ vs ∧ ∃ p ∈ ps, Never cs p.1 p.2) := by
  induction h with
  | nil => exact .inl ⟨[], rfl, .nil⟩
  | @cons p v ps vs h1 h2 ih =>
    match v, h1 with
    | .non, h1 => exact .inr ⟨List.mem_cons_self, p, List.mem_cons_self, h1⟩
    | .int t, h1 =>
      rcases ih with ⟨ts, rfl, he⟩ | ⟨hm, q, hq, hn⟩
      · exact .inl ⟨t :: ts, rfl, .cons h1 he⟩
      · exact .inr ⟨List.mem_cons_of_mem _ hm, q, List.mem_cons_of_mem _ hq, hn⟩
theorem Tolds.flat {cs : List Int} {ps : List (Int × List Int)} {vs : List V} (h : Tolds cs ps vs) : vs.all flatV = true := by
  induction h with
  | nil => rfl
  | @cons p v ps vs h1 h2 ih =>
    rw [List.all_cons, ih, Bool.and_true]
    match v, h1 with
    | .non, _ => rfl
    | .int t, _ => rfl
end FR
namespace FR
open PySem PySem.Spec PyProof.Rows L2
theorem sqT_updL {K : PySem.W.Frag} {H : Hp} {a D : Addr} {xs ys : List V} {o : HO} (h : SqT K H a xs) (e : H D = some (.lst ys)) : SqT K (upd H D o) a xs := by
  rcases h with (h | ⟨ob, h⟩) | h
  · exact .inl (.inl (by rw [upd_ne (ne_of h e (fun z => nomatch z))]; exact h))
  · exact .inl (.inr ⟨ob, by rw [upd_ne (ne_of h e (fun z => nomatch z))]; exact h⟩)
  · exact .inr h
theorem Purse.upd {K : PySem.W.Frag} {H : Hp} {a D : Addr} {r : Int} {ss : List Int} {ys : List V} {o : HO} (h : Purse K H a r ss) (e : H D = some (.lst ys)) : Purse K (L2.upd H D o) a r ss := by
  obtain ⟨s, h1, h2⟩ := h
  exact ⟨s, sqT_updL h1 e, sqT_updL h2 e⟩
theorem Pss.upd {K : PySem.W.Frag} {H : Hp} {D : Addr} {ys : List V} {o : HO} (e : H D = some (.lst ys)) {as : List Addr} {ps : List (Int × List Int)} (h : Pss K H as ps) : Pss K (L2.upd H D o) as ps := by
  induction h with
  | nil => exact .nil
  | cons h1 _ ih => exact .cons (h1.upd e) ih
theorem inV_ints (ts : List Int) : inV .non (ts.map V.int) = false := by
  unfold inV
  rw [List.any_map, List.any_eq_false]
  intro x _ h
  exact nomatch h
theorem inV_mem {es : List V} (h : V.non ∈ es) : inV .non es = true := by
  unfold inV
  rw [List.any_eq_true]
  exact ⟨.non, h, rfl⟩
theorem get_refA {as : List Addr} {i : Nat} {x : V} (hi : (as.map V.ref)[i]? = some x) : ∃ a, as[i]? = some a ∧ x = .ref a := by
  rw [List.getElem?_map] at hi
  cases z : as[i]? with
  | none => rw [z] at hi; exact nomatch hi
  | some a => rw [z] at hi; exact ⟨a, rfl, (Option.some.inj hi).symm⟩
theorem cut_first (xs : List V) : cutV xs none (some 1) = xs.take 1 := by
  unfold cutV
  rw [HT.sIx_none, show (some (1 : Int)) = some ((1 : Nat) : Int) from rfl, HT.sIx_nat, List.drop_zero, Nat.sub_zero]
  match xs with
  | [] => rfl
  | x :: r =>
    rw [Nat.min_eq_left (by rw [List.length_cons]; omega)]
theorem each_get {cs : List Int} : ∀ {ps : List (Int × List Int)} {ts : List Int} {i : Nat} {p : Int × List Int}, Each cs ps ts → ps[i]? = some p → ∃ t, ts[i]? = some t ∧ Least cs p.1 p.2 t
  | q :: ps, t :: ts, 0, p, .cons h _, e => by
    cases e
    exact ⟨t, rfl, h⟩
  | q :: ps, t :: ts, i + 1, p, .cons _ h, e => each_get (i := i) h e
theorem Folk.rev {n : Nat} {ps : List (Int × List Int)} (h : Folk n ps) : Folk n ps.reverse := by
  obtain ⟨h1, h2, h3⟩ := h
  exact ⟨by rw [List.length_reverse]; exact h1, by rw [List.length_reverse]; exact h2, fun p hp => h3 p (List.mem_reverse.mp hp)⟩
theorem zadd_get {xs ys : List Int} {i : Nat} {x y : Int} (h1 : xs[i]? = some x) (h2 : ys[i]? = some y) : (zadd xs ys)[i]? = some (x + y) := by
  unfold zadd
  rw [List.getElem?_zipWith, h1, h2]
theorem least_45 : Least [4] 4 [0] 5 := ⟨by decide, by decide, fun m h0 h1 => by rw [fc_one]; omega⟩
theorem least_43 : Least [4] 3 [0] 3 := ⟨by decide, by decide, fun m h0 h1 => by rw [fc_one]; omega⟩
theorem least_41 : Least [4] 1 [0] 1 := ⟨by decide, by decide, fun m h0 h1 => by rw [fc_one]; omega⟩
end FR
namespace FR
open PySem PySem.Spec PyProof.Rows L2
theorem rep_zero : ∀ n : Nat, (List.replicate n [V.int 0]).flatten = (List.replicate n (0 : Int)).map V.int
  | 0 => rfl
  | n + 1 => by
    rw [List.replicate_succ, List.flatten_cons, rep_zero n, List.replicate_succ, List.map_cons]
    rfl
theorem scal_told {cs ss : List Int} {r : Int} {v : V} (h : ToldV cs r ss v) : scal v v = true := by
  match v, h with
  | .non, _ => rfl
  | .int t, _ => rfl
theorem scal_apart {cs : List Int} {ps : List (Int × List Int)} {v : V} (h : ApartV cs ps v) : scal v v = true := by
  rcases h with ⟨rfl, _⟩ | ⟨ts, rfl, _⟩ <;> rfl
theorem Folk.one {n : Nat} {p : Int × List Int} {ps : List (Int × List Int)} (h : Folk n (p :: ps)) : Folk n [p] := ⟨Nat.le_refl 1, by show 1 ≤ 8; omega, fun q hq => by
  rw [List.mem_singleton.mp hq]
  exact h.2.2 p List.mem_cons_self⟩
theorem tot_one {n : Nat} {p : Int × List Int} (h : p.2.length = n) : totR [p] = p.1 ∧ totS n [p] = p.2 := by
  refine ⟨by unfold totR; simp, ?_⟩
  show zadd p.2 (List.replicate n 0) = p.2
  rw [← h, zadd_zero]
theorem apart_one {cs : List Int} {p : Int × List Int} {v w : V} (h : ToldV cs p.1 p.2 v) (h' : ApartV cs [p] w) : w = v := by
  refine apart_unique h' ?_
  match v, h with
  | .non, h => exact .inl ⟨rfl, p, List.mem_singleton.mpr rfl, h⟩
  | .int t, h => exact .inr ⟨[t], by simp, .cons h .nil⟩
theorem told_cases {cs ss : List Int} {r : Int} {v : V} (h : ToldV cs r ss v) : (v = .non ∧ Never cs r ss) ∨ ∃ t, v = .int t ∧ Least cs r ss t := by
  match v, h with
  | .non, h => exact .inl ⟨rfl, h⟩
  | .int t, h => exact .inr ⟨t, rfl, h⟩
end FR
namespace FR
open PySem PySem.Spec PyProof.Rows L2
/-! ### t * 1 is t itself -/
theorem tuple_mul1 (l : Addr) (items : Array Value) (n : Nat) (dd : Option Addr) (sl : Array (Option Value)) (u : Tok) :
    Meets (Builtin.«tuple.__mul__» ⟨[.ref l, .int 1 u], []⟩) (fun _ R s => s.heap.get? l = some { cls := .type "tuple", dict := dd, data := .seq items n, slots := sl } ∧ R (.ok (.ret (Value.ref l))) s) :=
  .of_wp fun prog w A R s h => by
    obtain ⟨hp, g, d, tk, os⟩ := s
    obtain ⟨hl, h⟩ := h
    have f1 := AutoSeq1.idx_int
    have c1 : (items.isEmpty || (1 : Int) == 1) = true := by rw [Bool.or_eq_true]; exact .inr rfl
    wp_walk using wpAny_loadPart' hl
    repeat (first
      | (refine wpAny_ite_true (decide_eq_true c1) ?_; wp_walk using wpAny_loadPart' hl))
    exact ⟨_, rfl, h⟩
end FR
namespace FR
open PySem PySem.Spec PyProof.Rows L2
def rRepA (K : PySem.W.Frag) : R2 := fun x y H Q => ∃ l k xs, x = .ref l ∧ y = .int k ∧ SqT K H l xs ∧ xs ≠ [] ∧ 1 ≤ k ∧ k ≤ 1000 ∧ xs.length ≤ 1000 ∧ ∀ p H', Same H H' → SqT K H' p (List.replicate k.toNat xs).flatten → Q (.ref p) H'
theorem op_repA {X : Cx} : OpR X (binaryOp .Mult) (rRepA X.K) := by
  intro pins s σ H x y v u Q I rx ry h
  obtain ⟨l, k, xs, rfl, rfl, hT, hne, h1, h2, hz, q⟩ := h
  by_cases hk : k = 1
  · subst hk
    cases rx
    obtain ⟨t, rfl⟩ := ry
    obtain ⟨its, r, ⟨⟨cls, dd, data, sl⟩, ho, hc, n, hd⟩, hs⟩ := I.tuple hT
    simp only at hc hd
    subst hc hd
    have e : (List.replicate (1 : Int).toNat xs).flatten = xs := by
      show (List.replicate 1 xs).flatten = xs
      simp
    refine wpAny_binaryOp_repeat_ref (T := "tuple") (U := "int") (by decide) ⟨_, ho, rfl⟩ (fun s' => typeIs_int s' 1 t) noFill_tuple_mul F.fills_int_mul F.slot_int_rmul repeat_tuple F.slot_int_index.lookup
      (call_meets F.slot_int_rmul (typeIs_int s 1 t) F.entry_int_rmul (F.args_int_rmul_2 _ _) (int_rmul_tuple 1 t l its.toArray n dd sl)
        ⟨ho, rfl, ⟨_, ho, rfl⟩, call_meets F.slot_tuple_mul ⟨_, ho, rfl⟩ F.entry_tuple_mul (F.args_tuple_mul_2 _ _) (tuple_mul1 l its.toArray n dd sl t) ⟨ho, ?_⟩⟩)
    exact ⟨.ref l, H, I, rfl, q l H (.refl H) (by rw [e]; exact hT)⟩
  · exact op_repT pins s σ H _ _ v u Q I rx ry ⟨l, k, xs, rfl, rfl, hT, hne, by omega, h2, hz, fun p np => q p _ (same_upd np) (SqT.of upd_same)⟩
theorem op_repAK (K : PySem.W.Frag) {X : Cx} (h : X.K = K := by rfl) : OpR X (binaryOp .Mult) (rRepA K) := h ▸ op_repA
theorem rep_zeros {K : PySem.W.Frag} {H : Hp} {p : Addr} {n : Nat} (h : SqT K H p (List.replicate (n : Int).toNat [V.int 0]).flatten) : SqT K H p ((List.replicate n (0 : Int)).map V.int) := by
  rw [← rep_zero]
  exact h
/-! ### tuples of numbers in a list -/
inductive Tps (K : PySem.W.Frag) (H : Hp) : List Addr → List (List Int) → Prop
  | nil : Tps K H [] []
  | cons {a : Addr} {as : List Addr} {c : List Int} {css : List (List Int)} : SqT K H a (c.map V.int) → Tps K H as css → Tps K H (a :: as) (c :: css)
theorem Tps.same {K : PySem.W.Frag} {H H' : Hp} (k : Same H H') {as : List Addr} {css : List (List Int)} (h : Tps K H as css) : Tps K H' as css := by
  induction h with
  | nil => exact .nil
  | cons h1 _ ih => exact .cons (Same.seqT k h1) ih
theorem Tps.upd {K : PySem.W.Frag} {H : Hp} {D : Addr} {ys : List V} {o : HO} (e : H D = some (.lst ys)) {as : List Addr} {css : List (List Int)} (h : Tps K H as css) : Tps K (L2.upd H D o) as css := by
  induction h with
  | nil => exact .nil
  | cons h1 _ ih => exact .cons (sqT_updL h1 e) ih
theorem Tps.len {K : PySem.W.Frag} {H : Hp} {as : List Addr} {css : List (List Int)} (h : Tps K H as css) : as.length = css.length := by
  induction h with
  | nil => rfl
  | cons _ _ ih => exact congrArg (· + 1) ih
theorem Tps.app {K : PySem.W.Frag} {H : Hp} {as bs : List Addr} {css dss : List (List Int)} (h : Tps K H as css) (h' : Tps K H bs dss) : Tps K H (as ++ bs) (css ++ dss) := by
  induction h with
  | nil => exact h'
  | cons h1 _ ih => exact .cons h1 ih
theorem Tps.get {K : PySem.W.Frag} {H : Hp} {as : List Addr} {css : List (List Int)} (h : Tps K H as css) : ∀ {i : Nat} {a : Addr}, as[i]? = some a → ∃ c, css[i]? = some c ∧ SqT K H a (c.map V.int) := by
  induction h with
  | nil => intro i a e; simp at e
  | cons h1 _ ih =>
    intro i a e
    match i, e with
    | 0, e =>
      cases e
      exact ⟨_, rfl, h1⟩
    | i + 1, e => exact ih e
def csD (css : List (List Int)) : List PyData := css.map fun c => .tuple (c.map PyData.int)
theorem Tps.dp {K : PySem.W.Frag} {H : Hp} {as : List Addr} {css : List (List Int)} (h : Tps K H as css) : DpAll K H (as.map V.ref) (csD css) := by
  induction h with
  | nil => exact .nil
  | cons h1 _ ih => exact .cons (.tup h1 (dp_ints _)) ih
theorem csD_lay : ∀ css : List (List Int), PyData.canLayAll0 (csD css) = true
  | [] => by simp [csD, PyData.canLayAll0]
  | c :: css => by
    show PyData.canLayAll0 (.tuple (c.map PyData.int) :: csD css) = true
    simp [PyData.canLayAll0, PyData.canLay0, lay_ints, csD_lay css]
theorem csD_deep : ∀ css : List (List Int), PyData.depthAll (csD css) ≤ 1
  | [] => by simp [csD, PyData.depthAll]
  | c :: css => by
    show PyData.depthAll (.tuple (c.map PyData.int) :: csD css) ≤ 1
    have := csD_deep css
    simp only [PyData.depthAll, PyData.depth, deep_ints]
    omega
theorem csD_eqv (css : List (List Int)) : PyData.eqv (.list (csD css)) (.list (csD css)) = true := SeqAt.eqv_refl _ (by rw [PyData.canLay0]; exact csD_lay css)
/-! ### all cards that may be told -/
def allC2 (a b : Int) : List (List Int) := (rgI b 13).map fun c => [a, b, c]
def allC1 (a : Int) : List (List Int) := (rgI a 13).flatMap fun b => [a, b] :: allC2 a b
def allC : List (List Int) := (rgI 2 13).flatMap fun a => [a] :: allC1 a
theorem allC_cards : ∀ c ∈ allC, Cards c := by
  intro c hc
  unfold allC at hc
  obtain ⟨a, ha, hc⟩ := List.mem_flatMap.mp hc
  have h1 := rgI_mem ha
  rcases List.mem_cons.mp hc with rfl | hc
  · exact ⟨by show 1 ≤ 1; omega, by show 1 ≤ 3; omega, fun x hx => by rw [List.mem_singleton.mp hx]; omega⟩
  unfold allC1 at hc
  obtain ⟨b, hb, hc⟩ := List.mem_flatMap.mp hc
  have h2 := rgI_mem hb
  rcases List.mem_cons.mp hc with rfl | hc
  · refine ⟨by show 1 ≤ 2; omega, by show 2 ≤ 3; omega, fun x hx => ?_⟩
    simp only [List.mem_cons, List.not_mem_nil, or_false] at hx
    omega
  unfold allC2 at hc
  obtain ⟨d, hd, rfl⟩ := List.mem_map.mp hc
  have h3 := rgI_mem hd
  refine ⟨by show 1 ≤ 3; omega, by show 3 ≤ 3; omega, fun x hx => ?_⟩
  simp only [List.mem_cons, List.not_mem_nil, or_false] at hx
  omega
/-! ### what was seen -/
def hadB : PyData → Bool
  | .none => true
  | h => withinD 0 1000000000000000000 h
def pairD : PyData → Bool
  | .tuple [r, h] => withinD 0 1000 r && hadB h
  | _ => false
def seenD : PyData → Bool
  | .tuple ds => decide (1 ≤ ds.length) && decide (ds.length ≤ 20) && ds.all pairD
  | _ => false
inductive Prs (K : PySem.W.Frag) (H : Hp) : List Addr → List (Int × V) → Prop
  | nil : Prs K H [] []
  | cons {a : Addr} {as : List Addr} {p : Int × V} {ps : List (Int × V)} : SqT K H a [.int p.1, p.2] → Prs K H as ps → Prs K H (a :: as) (p :: ps)
theorem Prs.kp {K : PySem.W.Frag} {H H' : Hp} (k : Kp H H') {as : List Addr} {ps : List (Int × V)} (h : Prs K H as ps) : Prs K H' as ps := by
  induction h with
  | nil => exact .nil
  | cons h1 _ ih => exact .cons (k.tup h1) ih
theorem Prs.same {K : PySem.W.Frag} {H H' : Hp} (k : Same H H') {as : List Addr} {ps : List (Int × V)} (h : Prs K H as ps) : Prs K H' as ps := h.kp (.of k)
theorem Prs.len {K : PySem.W.Frag} {H : Hp} {as : List Addr} {ps : List (Int × V)} (h : Prs K H as ps) : as.length = ps.length := by
  induction h with
  | nil => rfl
  | cons _ _ ih => exact congrArg (· + 1) ih
theorem Prs.get {K : PySem.W.Frag} {H : Hp} {as : List Addr} {ps : List (Int × V)} (h : Prs K H as ps) : ∀ {i : Nat} {a : Addr}, as[i]? = some a → ∃ p, ps[i]? = some p ∧ SqT K H a [.int p.1, p.2] := by
  induction h with
  | nil => intro i a e; simp at e
  | cons h1 _ ih =>
    intro i a e
    match i, e with
    | 0, e =>
      cases e
      exact ⟨_, rfl, h1⟩
    | i + 1, e => exact ih e
theorem Prs.upd {K : PySem.W.Frag} {H : Hp} {D : Addr} {ys : List V} {o : HO} (e : H D = some (.lst ys)) {as : List Addr} {ps : List (Int × V)} (h : Prs K H as ps) : Prs K (L2.upd H D o) as ps := by
  induction h with
  | nil => exact .nil
  | cons h1 _ ih => exact .cons (sqT_updL h1 e) ih
theorem Prs.app {K : PySem.W.Frag} {H : Hp} {as bs : List Addr} {ps qs : List (Int × V)} (h : Prs K H as ps) (h' : Prs K H bs qs) : Prs K H (as ++ bs) (ps ++ qs) := by
  induction h with
  | nil => exact h'
  | cons h1 _ ih => exact .cons h1 ih
def hadD : V → PyData
  | .int t => .int t
  | _ => .none
/-- what can have been seen -/
def SeenOk (ps : List (Int × V)) : Prop := 1 ≤ ps.length ∧ ps.length ≤ 20 ∧ ∀ p ∈ ps, 0 ≤ p.1 ∧ p.1 ≤ 1000 ∧ (p.2 = .non ∨ ∃ t, p.2 = .int t ∧ 0 ≤ t ∧ t ≤ 1000000000000000000)
def sdD (ps : List (Int × V)) : List PyData := ps.map fun p => .tuple [.int p.1, hadD p.2]
theorem Prs.dp {K : PySem.W.Frag} {H : Hp} {as : List Addr} {ps : List (Int × V)} (h : Prs K H as ps) (hs : ∀ p ∈ ps, p.2 = .non ∨ ∃ t, p.2 = .int t) : DpAll K H (as.map V.ref) (sdD ps) := by
  induction h with
  | nil => exact .nil
  | @cons a as p ps h1 _ ih =>
    refine .cons (.tup h1 (.cons (.int _) (.cons ?_ .nil))) (ih fun q hq => hs q (List.mem_cons_of_mem _ hq))
    rcases hs p List.mem_cons_self with e | ⟨t, e⟩
    · rw [e]
      exact .non
    · rw [e]
      exact .int t
theorem seenD_ok {ps : List (Int × V)} (h : SeenOk ps) : seenD (.tuple (sdD ps)) = true := by
  obtain ⟨h1, h2, h3⟩ := h
  show (decide (1 ≤ (sdD ps).length) && decide ((sdD ps).length ≤ 20) && (sdD ps).all pairD) = true
  have el : (sdD ps).length = ps.length := List.length_map ..
  rw [el, decide_eq_true h1, decide_eq_true h2, Bool.true_and, Bool.true_and]
  unfold sdD
  rw [List.all_map, List.all_eq_true]
  intro p hp
  obtain ⟨a, b, c⟩ := h3 p hp
  rcases c with e | ⟨t, e, t0, t1⟩
  · show (withinD 0 1000 (.int p.1) && hadB (hadD p.2)) = true
    rw [e]
    show ((decide (0 ≤ p.1) && decide (p.1 ≤ 1000)) && true) = true
    rw [decide_eq_true a, decide_eq_true b]
    rfl
  · show (withinD 0 1000 (.int p.1) && hadB (hadD p.2)) = true
    rw [e]
    show ((decide (0 ≤ p.1) && decide (p.1 ≤ 1000)) && (decide (0 ≤ t) && decide (t ≤ 1000000000000000000))) = true
    rw [decide_eq_true a, decide_eq_true b, decide_eq_true t0, decide_eq_true t1]
    rfl
/-- the cards fit all that was seen -/
def Fit (cs : List Int) (p : Int × V) : Prop := ToldV cs p.1 (List.replicate cs.length 0) p.2
def FitAll (ps : List (Int × V)) (cs : List Int) : Prop := ∀ p ∈ ps, Fit cs p
noncomputable def fitB (ps : List (Int × V)) (cs : List Int) : Bool := @decide (FitAll ps cs) (Classical.propDecidable _)
theorem fitB_iff {ps : List (Int × V)} {cs : List Int} : fitB ps cs = true ↔ FitAll ps cs := by
  unfold fitB
  exact @decide_eq_true_iff _ (Classical.propDecidable _)
end FR
namespace FR
open PySem PySem.Spec PyProof.Rows L2
theorem rgI_get {a b : Int} {i : Nat} (h : i < (b - a).toNat) : (rgI a b)[i]? = some (a + (i : Int)) := by
  unfold rgI
  rw [List.getElem?_map, List.getElem?_range h]
  rfl
theorem take_flat {α β : Type} {l : List α} {i : Nat} {z : α} (f : α → List β) (h : l[i]? = some z) : (l.take (i + 1)).flatMap f = (l.take i).flatMap f ++ f z := by
  rw [List.take_add_one, h, List.flatMap_append]
  simp
theorem small2000 {n : Nat} (h : n ≤ 2000) : n < sizeLine := Nat.lt_of_le_of_lt h (by decide)
end FR
namespace FR
open PySem PySem.Spec PyProof.Rows L2
theorem csD_shaped (css : List (List Int)) : SeqAt.shaped (.list (csD css)) = true := by
  unfold SeqAt.shaped
  rw [PyData.canLay0, PyData.depth, csD_lay]
  have := csD_deep css
  simp
  omega
theorem fc_ones : ∀ (cs : List Int), (∀ c ∈ cs, (2 : Int) ≤ c) → fc cs (List.replicate cs.length 0) 1 = 0 ∧ fc cs (List.replicate cs.length 0) 0 = 0
  | [], _ => ⟨rfl, rfl⟩
  | c :: cs, h => by
    obtain ⟨a, b⟩ := fc_ones cs (fun x hx => h x (List.mem_cons_of_mem _ hx))
    have c2 := h c List.mem_cons_self
    show (0 + 1) / c + fc cs (List.replicate cs.length 0) 1 = 0 ∧ (0 + 0) / c + fc cs (List.replicate cs.length 0) 0 = 0
    rw [a, b]
    have e1 : ((0 : Int) + 1) / c = 0 := Int.ediv_eq_zero_of_lt (by omega) (by omega)
    have e2 : ((0 : Int) + 0) / c = 0 := Int.ediv_eq_zero_of_lt (by omega) (by omega)
    omega
theorem one_one {cs : List Int} (hK : Cards cs) : Least cs 1 (List.replicate cs.length 0) 1 := by
  obtain ⟨a, b⟩ := fc_ones cs fun c h => (hK.2.2 c h).1
  refine ⟨by omega, by omega, fun m m0 m1 => ?_⟩
  have e : m = 0 := by omega
  rw [e]
  omega
def endB (cs : List Int) (r : Nat) : Bool := decide (perOf cs ≤ pq (perOf cs) cs) && (List.range (perOf cs).toNat).all fun m => decide ((m : Int) < (r : Int) + fc cs (List.replicate cs.length 0) (m : Int))
theorem zeros_ok (n : Nat) : (List.replicate n (0 : Int)).length = n ∧ ∀ x ∈ List.replicate n (0 : Int), (0 : Int) ≤ x := ⟨List.length_replicate, fun x hx => by rw [(List.mem_replicate.mp hx).2]; omega⟩
theorem endB_iff {cs : List Int} {r : Nat} (hK : Cards cs) : endB cs r = true ↔ Never cs (r : Int) (List.replicate cs.length 0) := by
  obtain ⟨z1, z2⟩ := zeros_ok cs.length
  unfold endB
  rw [Bool.and_eq_true, decide_eq_true_eq, List.all_eq_true]
  constructor
  · rintro ⟨h1, h2⟩
    refine never_of hK z1.symm h1 fun m m0 m1 => ?_
    have := of_decide_eq_true (h2 m.toNat (List.mem_range.mpr (by omega)))
    rw [show ((m.toNat : Nat) : Int) = m by omega] at this
    exact this
  · intro h
    refine ⟨?_, fun m _ => decide_eq_true (h m (by omega))⟩
    by_cases z : perOf cs ≤ pq (perOf cs) cs
    · exact z
    · exact (wears_ends hK z1.symm z2 (by omega) (by omega) h).elim
def twosL : List (List Int) := [[2, 2]] ++ (rgI 2 13).map (fun m => [2, 2, m]) ++ [[2, 3, 3], [2, 3, 4], [2, 3, 5]]
theorem fits_twos : allC.filter (fitB [(1, .int 1), (2, .non)]) = twosL := by
  have e : allC.filter (fitB [(1, .int 1), (2, .non)]) = allC.filter fun c => endB c 2 := by
    refine List.filter_congr fun c hc => ?_
    have hK := allC_cards c hc
    rw [Bool.eq_iff_iff, fitB_iff, endB_iff hK]
    constructor
    · intro h
      exact h (2, .non) (by simp)
    · intro h p hp
      simp only [List.mem_cons, List.not_mem_nil, or_false] at hp
      rcases hp with rfl | rfl
      · exact one_one hK
      · exact h
  rw [e]
  decide +kernel
end FR
namespace FR
open PySem PySem.Spec PyProof.Rows L2
/-! ### a class of the program: its methods, its making -/
structure KeptT (K : PySem.W.Frag) (mg : Str → Option Value) (C : Addr) : Prop where
  cl : Cls K C
  nC : NoAttr K C "cards"
  nS : NoAttr K C "states"
  g : mg "Kept" = some (.ref C)
structure MDef (P : Program) (w : World) (K : PySem.W.Frag) (mg : Str → Option Value) (base : Heap) (C : Addr) (m : Str) (k : Nat) (ps : List Str) (sp : Sp) : Prop where
  ex : ∃ f fd, FnOk P w K mg base CX0 k f fd ps sp ∧ Meth K C m f ∧ Binds K fd ps []
structure KMk (P : Program) (w : World) (K : PySem.W.Frag) (mg : Str → Option Value) (base : Heap) (C : Addr) (k : Nat) (ps : List Str) (sp : Sp) : Prop where
  ex : ∃ f fd, Mk K C f ∧ FnOk P w K mg base CX0 k f fd ps sp ∧ Binds K fd ps []
theorem pe_mdef {X : Cx} {pl : Sem Bool} {k j : Nat} {ps : List Str} {sp : Sp} {C : Addr} {m : Str} {apos pos : Pos} {o e : Expr} {es : List Expr} {ta : TE} {t : TA} (T : KeptT X.K X.mg C) (D : MDef X.prog X.w X.K X.mg X.base C m k ps sp) (hr : Room j X.A) (ho : PE X o ta) (ha : PA X (e :: es) t) (hl : k ≤ j := by decide)
    (he : starEach (e :: es) X.env = (false, eval e X.env) :: starEach es X.env := by rfl) (hpl : (backTo pos (starEach es X.env)).any (·.1) = false := by rfl)
    (ht : eval (.Call (.Attribute o m apos) (e :: es) [] pos) X.env = (do
      let ov ← eval o X.env
      standAt apos.atName
      let (f, first) ← holding [ov] (getMethod ov m pl)
      callWith pos f first (backTo pos (starEach (e :: es) X.env)) (backToKw pos (keywordEach [] X.env))) := by rfl) :
    PE X (.Call (.Attribute o m apos) (e :: es) [] pos) (tMeth C m sp [] E0 ta t) := by
  obtain ⟨f, fd, F, M, b⟩ := D.ex
  exact pe_meth ho T.cl M F (hr.mono hl) b .nil pass0 ha he hpl ht
theorem pe_mdef0 {X : Cx} {pl : Sem Bool} {k j : Nat} {ps : List Str} {sp : Sp} {C : Addr} {m : Str} {apos pos : Pos} {o : Expr} {ta : TE} (T : KeptT X.K X.mg C) (D : MDef X.prog X.w X.K X.mg X.base C m k ps sp) (hr : Room j X.A) (ho : PE X o ta) (hl : k ≤ j := by decide)
    (ht : eval (.Call (.Attribute o m apos) [] [] pos) X.env = (do
      let ov ← eval o X.env
      standAt apos.atName
      let (f, first) ← holding [ov] (getMethod ov m pl)
      callWith pos f first (backTo pos (starEach [] X.env)) (backToKw pos (keywordEach [] X.env))) := by rfl) :
    PE X (.Call (.Attribute o m apos) [] [] pos) (tMeth C m sp [] E0 ta tNil) := by
  obtain ⟨f, fd, F, M, b⟩ := D.ex
  exact pe_meth0 ho T.cl M F (hr.mono hl) b .nil pass0 ht
theorem pe_mkdef {X : Cx} {k j : Nat} {ps : List Str} {sp : Sp} {C : Addr} {p pos : Pos} {e : Expr} {es : List Expr} {t : TA} (T : KeptT X.K X.mg C) (D : KMk X.prog X.w X.K X.mg X.base C k ps sp) (hr : Room j X.A) (ha : PA X (e :: es) t) (hg : Gl X "Kept" := by rfl) (hl : k + 1 ≤ j := by decide)
    (he : starEach (e :: es) X.env = (false, eval e X.env) :: starEach es X.env := by rfl) (hpl : (backTo pos (starEach es X.env)).any (·.1) = false := by rfl) :
    PE X (.Call (.Name "Kept" p) (e :: es) [] pos) (tMake C sp [] E0 t) := by
  obtain ⟨f, fd, M, F, b⟩ := D.ex
  exact pe_make M F (hr.mono hl) hg T.g b .nil pass0 ha (by decide) he hpl
/-! ### a kept purse as it stands -/
structure KS where
  r : Int
  ss : List Int
  rd : Int
  ln : Int
def kf (cA sA : Addr) : List (Str × V) := putF "states" (.ref sA) (putF "cards" (.ref cA) [])
theorem kf_ne : ¬ (("cards" : Str) = "states") := by decide +kernel
theorem kf_cards (cA sA : Addr) : (kf cA sA).lookup ("cards" : Str) = some (.ref cA) := by
  unfold kf
  rw [lookup_putF, if_neg kf_ne, lookup_putF, if_pos rfl]
theorem kf_states (cA sA : Addr) : (kf cA sA).lookup ("states" : Str) = some (.ref sA) := by
  unfold kf
  rw [lookup_putF, if_pos rfl]
theorem kf_no (cA sA : Addr) {m : Str} (h1 : ¬ m = "states") (h2 : ¬ m = "cards") : (kf cA sA).lookup m = none := by
  unfold kf
  rw [lookup_putF, if_neg h1, lookup_putF, if_neg h2]
  rfl
inductive Sts (K : PySem.W.Frag) (H : Hp) : List Addr → List KS → Prop
  | nil : Sts K H [] []
  | cons {t pA : Addr} {ts : List Addr} {k : KS} {ks : List KS} : SqT K H t [.ref pA, .int k.rd, .int k.ln] → Purse K H pA k.r k.ss → Sts K H ts ks → Sts K H (t :: ts) (k :: ks)
theorem Sts.kp {K : PySem.W.Frag} {H H' : Hp} (k : Kp H H') {ts : List Addr} {ks : List KS} (h : Sts K H ts ks) : Sts K H' ts ks := by
  induction h with
  | nil => exact .nil
  | cons h1 h2 _ ih => exact .cons (k.tup h1) (h2.kp k) ih
theorem Sts.same {K : PySem.W.Frag} {H H' : Hp} (k : Same H H') {ts : List Addr} {ks : List KS} (h : Sts K H ts ks) : Sts K H' ts ks := h.kp (.of k)
theorem Sts.upd {K : PySem.W.Frag} {H : Hp} {D : Addr} {ys : List V} {o : HO} (e : H D = some (.lst ys)) {ts : List Addr} {ks : List KS} (h : Sts K H ts ks) : Sts K (L2.upd H D o) ts ks := by
  induction h with
  | nil => exact .nil
  | cons h1 h2 _ ih => exact .cons (sqT_updL h1 e) (h2.upd e) ih
theorem Sts.len {K : PySem.W.Frag} {H : Hp} {ts : List Addr} {ks : List KS} (h : Sts K H ts ks) : ts.length = ks.length := by
  induction h with
  | nil => rfl
  | cons _ _ _ ih => exact congrArg (· + 1) ih
theorem Sts.app {K : PySem.W.Frag} {H : Hp} {ts us : List Addr} {ks ls : List KS} (h : Sts K H ts ks) (h' : Sts K H us ls) : Sts K H (ts ++ us) (ks ++ ls) := by
  induction h with
  | nil => exact h'
  | cons h1 h2 _ ih => exact .cons h1 h2 ih
theorem Sts.last {K : PySem.W.Frag} {H : Hp} {ks : List KS} {k : KS} : ∀ {ts : List Addr}, Sts K H ts (ks ++ [k]) → ∃ us t pA, ts = us ++ [t] ∧ Sts K H us ks ∧ SqT K H t [.ref pA, .int k.rd, .int k.ln] ∧ Purse K H pA k.r k.ss := by
  induction ks with
  | nil =>
    intro ts h
    cases h with
    | cons h1 h2 h3 =>
      cases h3
      exact ⟨[], _, _, rfl, .nil, h1, h2⟩
  | cons a ks ih =>
    intro ts h
    cases h with
    | cons h1 h2 h3 =>
      obtain ⟨us, t, pA, rfl, h4, h5, h6⟩ := ih h3
      exact ⟨_ :: us, t, pA, rfl, .cons h1 h2 h4, h5, h6⟩
/-- a kept purse at x, its states' list at sA -/
structure KeptAt (C : Addr) (K : PySem.W.Frag) (H : Hp) (x sA : Addr) (cs : List Int) (ks : List KS) : Prop where
  ob : ∃ dx cA, H x = some (.ins C dx (kf cA sA)) ∧ SqT K H cA (cs.map V.int)
  st : ∃ ts, H sA = some (.lst (ts.map V.ref)) ∧ Sts K H ts ks
/-- all but one place is kept -/
def But (sA : Addr) (H H' : Hp) : Prop := ∀ b o, H b = some o → b ≠ sA → H' b = some o
theorem But.of {sA : Addr} {H H' : Hp} (h : Same H H') : But sA H H' := fun b o e _ => h b o e
theorem But.trans {sA : Addr} {H H1 H2 : Hp} (a : But sA H H1) (b : But sA H1 H2) : But sA H H2 := fun c o e n => b c o (a c o e n) n
theorem But.same {sA : Addr} {H0 H H' : Hp} (s : Same H0 H) (n : H0 sA = none) (b : But sA H H') : Same H0 H' := fun c o e => b c o (s c o e) (ne_of_none e n)
theorem But.kp {sA : Addr} {H0 H H' : Hp} (s : Kp H0 H) (n : H0 sA = none) (b : But sA H H') : Kp H0 H' := by
  refine ⟨fun a o e h => b a o (s.keep a o e h) (ne_of_none e n), fun a d c e => ?_⟩
  obtain ⟨c', e'⟩ := s.bag a d c e
  exact ⟨c', b _ _ e' (ne_of_none e n)⟩
theorem nins {C dx : Addr} {fs : List (Str × V)} : ¬ BagSh (.ins C dx fs) := fun ⟨_, _, e⟩ => nomatch e
theorem KeptAt.kp {C : Addr} {K : PySem.W.Frag} {H H' : Hp} {x sA : Addr} {cs : List Int} {ks : List KS} (h : KeptAt C K H x sA cs ks) (k : Kp H H') : KeptAt C K H' x sA cs ks := by
  obtain ⟨⟨dx, cA, h1, h2⟩, ts, h3, h4⟩ := h
  exact ⟨⟨dx, cA, k.keep _ _ h1 nins, k.tup h2⟩, ts, k.keep _ _ h3 nrefs, h4.kp k⟩
theorem KeptAt.same {C : Addr} {K : PySem.W.Frag} {H H' : Hp} {x sA : Addr} {cs : List Int} {ks : List KS} (h : KeptAt C K H x sA cs ks) (k : Same H H') : KeptAt C K H' x sA cs ks := h.kp (.of k)
/-- the top's state: where it stands -/
theorem KeptAt.top {C : Addr} {K : PySem.W.Frag} {H : Hp} {x sA : Addr} {cs : List Int} {ks : List KS} {k : KS} (h : KeptAt C K H x sA cs (ks ++ [k])) :
    ∃ dx cA us t pA, H x = some (.ins C dx (kf cA sA)) ∧ SqT K H cA (cs.map V.int) ∧ H sA = some (.lst (us.map V.ref ++ [.ref t])) ∧ Sts K H us ks ∧ SqT K H t [.ref pA, .int k.rd, .int k.ln] ∧ Purse K H pA k.r k.ss := by
  obtain ⟨⟨dx, cA, h1, h2⟩, ts, h3, h4⟩ := h
  obtain ⟨us, t, pA, rfl, h5, h6, h7⟩ := h4.last
  rw [List.map_append] at h3
  exact ⟨dx, cA, us, t, pA, h1, h2, h3, h5, h6, h7⟩
/-- one state more -/
theorem KeptAt.push {C : Addr} {K : PySem.W.Frag} {H H1 : Hp} {x sA t : Addr} {cs : List Int} {ks : List KS} {k : KS} {pA : Addr} {ts : List Addr} (h : KeptAt C K H x sA cs ks) (s : Same H H1) (e : H1 sA = some (.lst (ts.map V.ref))) (hS : Sts K H1 ts ks)
    (ht : SqT K H1 t [.ref pA, .int k.rd, .int k.ln]) (hp : Purse K H1 pA k.r k.ss) : KeptAt C K (upd H1 sA (.lst (ts.map V.ref ++ [.ref t]))) x sA cs (ks ++ [k]) := by
  obtain ⟨⟨dx, cA, h1, h2⟩, _⟩ := h
  have h1' := s _ _ h1
  refine ⟨⟨dx, cA, ?_, sqT_updL (Same.seqT s h2) e⟩, ts ++ [t], ?_, ?_⟩
  · rw [upd_ne (ne_of h1' e (fun z => nomatch z))]
    exact h1'
  · rw [upd_same, List.map_append]
    rfl
  · exact (hS.upd e).app (.cons (sqT_updL ht e) (hp.upd e) .nil)
/-! ### the end -/
def MethL (K : PySem.W.Frag) (C : Addr) : List (Str × Str × Stmt) → Prop
  | [] => True
  | (m, q, st) :: r => (∃ f fd, Fun K m q st f fd ∧ Meth K C m f) ∧ MethL K C r
theorem methL_cons {K : PySem.W.Frag} {C : Addr} {m q : Str} {st : Stmt} {r : List (Str × Str × Stmt)} {f : Addr} {od an : Option Addr} {sl : Array (Option Value)} {oc kV dc pm cd ct : Value}
    (a : PySem.W.findIn K (.ref C) m = some (some (.ref f))) (i : PySem.W.isFn K (.ref f) = true) (l1 : K.lookup f = some ⟨oc, od, .func (PySem.W.fnOf m q (defArgs st) (defBody st) (defScope st) .none kV dc pm an cd ct), sl⟩) (c1 : PySem.W.codeIn K cd q = true) (k1 : PySem.W.keepIn K (.ref f) = true) (h : MethL K C r) : MethL K C ((m, q, st) :: r) :=
  ⟨⟨f, _, fun_mk (st := st) l1 c1 k1, ⟨a, i, k1⟩⟩, h⟩
def KeptAll (K : PySem.W.Frag) (mg : Str → Option Value) (ms : List (Str × Str × Stmt)) : Prop := ∃ C, KeptT K mg C ∧ PySem.W.makesIn K C = true ∧ PySem.W.keepIn K (.ref C) = true ∧ MethL K C ms
def KeptAllX {K : PySem.W.Frag} {h : Heap} (_ : K.In h) (mg : Str → Option Value) (ms : List (Str × Str × Stmt)) : Prop := KeptAll K mg ms
theorem keptAll_mk {K : PySem.W.Frag} {h : Heap} {mg : Str → Option Value} {C : Addr} {ms : List (Str × Str × Stmt)} (X : K.In h) (G : h.Ns mainGlobals mg) (aC : PySem.W.nsIn K mainGlobals "Kept" = some (some (.ref C)))
    (pg : PySem.W.plainGet K C Str.empty = true) (hd : PySem.W.hasDictIn K C = true) (po : PySem.W.plainOver K C = true) (sa : PySem.W.findIn K (.ref C) "__setattr__" = some (some (.builtin "object.__setattr__"))) (mk : PySem.W.makesIn K C = true) (kc : PySem.W.keepIn K (.ref C) = true)
    (nC : PySem.W.findIn K (.ref C) "cards" = some none) (nS : PySem.W.findIn K (.ref C) "states" = some none) (ml : MethL K C ms) : KeptAllX X mg ms :=
  ⟨C, ⟨⟨pg, hd, po, sa⟩, nC, nS, PySem.W.mg_of X G aC⟩, mk, kc, ml⟩
theorem mdef_mk {P : Program} {w : World} {K : PySem.W.Frag} {mg : Str → Option Value} {base : Heap} {C : Addr} {m q : Str} {st : Stmt} {k : Nat} {ps : List Str} {sp : Sp} (F : ∃ f fd, Fun K m q st f fd ∧ Meth K C m f) (ok : ∀ f fd, Fun K m q st f fd → FnOk P w K mg base CX0 k f fd ps sp)
    (h : ∀ (kV doc pm : Value) (an : Option Addr) (cdv ct : Value) (us : List Value), us.length = ps.length → bindArgs (PySem.W.fnOf m q (defArgs st) (defBody st) (defScope st) .none kV doc pm an cdv ct) ⟨us, []⟩ = pure (ps.zip us)) : MDef P w K mg base C m k ps sp := by
  obtain ⟨f, fd, F, m⟩ := F
  exact ⟨f, fd, ok f fd F, m, F.binds h⟩
theorem kmk_mk {P : Program} {w : World} {K : PySem.W.Frag} {mg : Str → Option Value} {base : Heap} {C : Addr} {q : Str} {st : Stmt} {k : Nat} {ps : List Str} {sp : Sp} (mk : PySem.W.makesIn K C = true) (kc : PySem.W.keepIn K (.ref C) = true) (F : ∃ f fd, Fun K "__init__" q st f fd ∧ Meth K C "__init__" f) (ok : ∀ f fd, Fun K "__init__" q st f fd → FnOk P w K mg base CX0 k f fd ps sp)
    (h : ∀ (kV doc pm : Value) (an : Option Addr) (cdv ct : Value) (us : List Value), us.length = ps.length → bindArgs (PySem.W.fnOf "__init__" q (defArgs st) (defBody st) (defScope st) .none kV doc pm an cdv ct) ⟨us, []⟩ = pure (ps.zip us)) : KMk P w K mg base C k ps sp := by
  obtain ⟨f, fd, F, m⟩ := F
  exact ⟨f, fd, ⟨mk, m.at_, m.fn, kc⟩, ok f fd F, F.binds h⟩
end FR
namespace FR
open PySem PySem.Spec PyProof.Rows L2
theorem smallM {n : Nat} (h : n ≤ 1000000) : n < sizeLine := Nat.lt_of_le_of_lt h (by decide)
end FR
namespace FR
open PySem PySem.Spec PyProof.Rows L2
/-- a while whose measure the invariant tells -/
theorem while_m {c : TT} {tb : TS} {D : Ends} {σ : L2.St} {H : Hp} (Pv : Nat → L2.St → Hp → Prop) (m0 : Nat) (h0 : Pv m0 σ H)
    (hs : ∀ m σ H, Pv m σ H → c σ H fun b H1 => if b = true then tb { D with nx := fun σ' H' => ∃ m', m' < m ∧ Pv m' σ' H', ct := fun σ' H' => ∃ m', m' < m ∧ Pv m' σ' H', bk := D.nx } σ H1 else D.nx σ H1)
    (mono : ∀ σ H Q Q', (∀ b H1, Q b H1 → Q' b H1) → c σ H Q → c σ H Q') : tWhile c tb D σ H := by
  refine ⟨Pv, ⟨m0, h0⟩, ?_⟩
  intro m σ H p
  refine mono σ H _ _ (fun b H1 q => ?_) (hs m σ H p)
  cases b with
  | true => exact ⟨_, fun σ' H' h => h, q⟩
  | false => exact q
theorem But.sqT {K : PySem.W.Frag} {sA a : Addr} {H H' : Hp} {xs : List V} (b : But sA H H') (n : a ≠ sA) (h : SqT K H a xs) : SqT K H' a xs := by
  rcases h with (h | ⟨o, h⟩) | h
  · exact .inl (.inl (b _ _ h n))
  · exact .inl (.inr ⟨o, b _ _ h n⟩)
  · exact .inr h
end FR
namespace FR
open PySem PySem.Spec PyProof.Rows L2
theorem viaP (R : Hp → Prop) {G : Hp → Prop} {P : Prop} (main : (∀ H', R H' → G H') → P) (rest : ∀ H', R H' → G H') : P := main rest
theorem same_made {H : Hp} {x dx C : Addr} (nx : H x = none) (nd : H dx = none) : Same H (upd (upd H dx (.own x)) x (.ins C dx [])) := fun b o e => by
  rw [upd_ne (ne_of_none e nx), upd_ne (ne_of_none e nd)]
  exact e
theorem KeptAt.but {C : Addr} {K : PySem.W.Frag} {H H' : Hp} {x sA sB : Addr} {cs : List Int} {ks : List KS} {ys : List V} (h : KeptAt C K H x sA cs ks) (b : But sB H H') (n : sA ≠ sB) (e : H sB = some (.lst ys)) : KeptAt C K H' x sA cs ks := by
  have tp : ∀ {a : Addr} {xs : List V}, SqT K H a xs → SqT K H' a xs := fun {a xs} h => by
    rcases h with (h | ⟨ob, h⟩) | h
    · exact .inl (.inl (b _ _ h (ne_of h e (fun z => nomatch z))))
    · exact .inl (.inr ⟨ob, b _ _ h (ne_of h e (fun z => nomatch z))⟩)
    · exact .inr h
  obtain ⟨⟨dx, cA, h1, h2⟩, ts, h3, h4⟩ := h
  refine ⟨⟨dx, cA, b _ _ h1 (ne_of h1 e (fun z => nomatch z)), tp h2⟩, ts, b _ _ h3 n, ?_⟩
  clear h3
  induction h4 with
  | nil => exact .nil
  | cons g1 g2 _ ih =>
    obtain ⟨z, g3, g4⟩ := g2
    exact .cons (tp g1) ⟨z, tp g3, tp g4⟩ ih
theorem KeptAt.lst {C : Addr} {K : PySem.W.Frag} {H : Hp} {x sA : Addr} {cs : List Int} {ks : List KS} (h : KeptAt C K H x sA cs ks) : ∃ ys, H sA = some (.lst ys) := by
  obtain ⟨_, ts, h3, _⟩ := h
  exact ⟨_, h3⟩
end FR
set_option maxHeartbeats 2000000
namespace FR
open PySem PySem.Spec PyProof.Rows L2
/-! ### raise X(e), e of any form -/
theorem pmk_any {X : Cx} {C : Addr} {bmB : List Value} {B newId initId : String} {x : Str} {e : Expr} {ta : TE} {p pos : Pos} (F : ExcBaseFacts B newId initId bmB) (q : PySem.W.excIn X.K C bmB newId = true) (gC : X.mg x = some (.ref C)) (kC : PySem.W.keepIn X.K (.ref C) = true) (r : Raises X (.ref C)) (hg : Gl X x)
    (he : PE X e ta) (hs : starEach [e] X.env = (false, eval e X.env) :: starEach [] X.env := by rfl) (hdb : (x == ("__debug__" : Str)) = false := by decide) :
    L2N.PMk X (.Call (.Name x p) [e] [] pos) (fun σ H Q => ta σ H fun _ H1 => Q (.ref C) none H1) := by
  intro pins s σ H Q I h
  refine wpAny_Call_Name_kw (ld_glob I hg gC ?_ hdb)
  refine PySem.W.callWith_K (h₀ := X.base) I.ok.mod.kin kC ?_ hs (by rfl)
  rw [hs]
  show wpAny _ _ (spliced ((false, eval e X.env) :: backTo pos (starEach [] X.env))) _ _ s
  refine Calls.spliced_cons (thn (he.run pins s σ H _ I h) fun u s1 ⟨v, H1, I1, r1, q1⟩ => ?_)
  refine Calls.spliced_nil ⟨I1.kIn, ?_⟩
  show wpAny _ _ (call (.ref C) [u]) _ _ _
  obtain ⟨bm, N, nm, qn, bs, hdct, sn, sub, ab, col, dd, k0, k1, k2, k3, k5, mN, hC, hN, hni, T⟩ := exc_obj I1.kIn q
  refine wpAny_call_exc_subT F T hC hN hni (fun h' e hm => ?_) (by show 1 ≤ sizeLine; rw [sizeLine_eq]; omega)
  exact L2N.mk_of I1 hm r q1 (I1.hok.gone hm.new)
theorem ps_raiseF {X : Cx} {x : Str} {C : Addr} {W : WX} {e : Expr} {te : TE} {p p3 p4 : Pos} (T : ExcT X.K X.mg x C) (tk : L2N.Takes X W) (he : PE X e te) (hg : Gl X x := by rfl) (hc : X.calm = true := by rfl) (hs : starEach [e] X.env = (false, eval e X.env) :: starEach [] X.env := by rfl) (hdb : (x == ("__debug__" : Str)) = false := by decide) :
    PS X (.Raise (some (.Call (.Name x p) [e] [] p3)) none p4) (fun _ σ H => te σ H fun _ H1 => W (.ref C) none σ H1) :=
  L2N.ps_raise hc tk (pmk_any PySem.F.excBase_ValueError T.ex T.g T.kp (raises_own T.sb T.ty) hg he hs hdb)
/-! ### a class whose making may raise -/
structure KMkX (P : Program) (w : World) (K : PySem.W.Frag) (mg : Str → Option Value) (base : Heap) (C : Addr) (k : Nat) (ps : List Str) (sp : Sp) : Prop where
  ex : ∃ f fd, Mk K C f ∧ FnOk P w K mg base (L2N.CX P w) k f fd ps sp ∧ Binds K fd ps []
theorem pe_mkdefX {X : Cx} {k j : Nat} {ps : List Str} {sp : Sp} {C : Addr} {p pos : Pos} {e : Expr} {es : List Expr} {t : TA} {E : XK} (T : KeptT X.K X.mg C) (D : KMkX X.prog X.w X.K X.mg X.base C k ps sp) (hr : Room j X.A) (tk : L2N.Takes X (fun cls d _ H => E cls d H)) (ha : PA X (e :: es) t) (hg : Gl X "Kept" := by rfl) (hl : k + 1 ≤ j := by decide)
    (he : starEach (e :: es) X.env = (false, eval e X.env) :: starEach es X.env := by rfl) (hpl : (backTo pos (starEach es X.env)).any (·.1) = false := by rfl) :
    PE X (.Call (.Name "Kept" p) (e :: es) [] pos) (tMake C sp [] E t) := by
  obtain ⟨f, fd, M, F, b⟩ := D.ex
  exact pe_make M F (hr.mono hl) hg T.g b .nil (L2N.passes_call tk fun _ _ _ _ h => h) ha (by decide) he hpl
theorem kmkX_mk {P : Program} {w : World} {K : PySem.W.Frag} {mg : Str → Option Value} {base : Heap} {C : Addr} {q : Str} {st : Stmt} {k : Nat} {ps : List Str} {sp : Sp} (mk : PySem.W.makesIn K C = true) (kc : PySem.W.keepIn K (.ref C) = true) (F : ∃ f fd, Fun K "__init__" q st f fd ∧ Meth K C "__init__" f) (ok : ∀ f fd, Fun K "__init__" q st f fd → FnOk P w K mg base (L2N.CX P w) k f fd ps sp)
    (h : ∀ (kV doc pm : Value) (an : Option Addr) (cdv ct : Value) (us : List Value), us.length = ps.length → bindArgs (PySem.W.fnOf "__init__" q (defArgs st) (defBody st) (defScope st) .none kV doc pm an cdv ct) ⟨us, []⟩ = pure (ps.zip us)) : KMkX P w K mg base C k ps sp := by
  obtain ⟨f, fd, F, m⟩ := F
  exact ⟨f, fd, ⟨mk, m.at_, m.fn, kc⟩, ok f fd F, F.binds h⟩
theorem HeldX.mono {P : Program} {w : World} {K : PySem.W.Frag} {mg : Str → Option Value} {base : Heap} {j k : Nat} {f : Addr} {sp : Sp} (h : HeldX P w K mg base j f sp) (l : j ≤ k) : HeldX P w K mg base k f sp := by
  obtain ⟨fd, ps, F, kp, b⟩ := h
  exact ⟨fd, ps, F.mono l, kp, b⟩
/-! ### refusals -/
/-- one refusal is due -/
def RefE (mg : Str → Option Value) (H : Hp) (E : XK) (n : Str) : Prop := ∀ H' C, Same H H' → mg n = some (.ref C) → E (.ref C) none H'
theorem RefE.same {mg : Str → Option Value} {H H1 : Hp} {E : XK} {n : Str} (h : RefE mg H E n) (s : Same H H1) : RefE mg H1 E n := fun H' C s' g => h H' C (s.trans s') g
theorem RefE.mono {mg : Str → Option Value} {H : Hp} {E E' : XK} {n : Str} (h : RefE mg H E n) (i : ∀ c d H', E c d H' → E' c d H') : RefE mg H E' n := fun H' C s g => i _ _ _ (h H' C s g)
/-- cards that are none -/
def NoC (K : PySem.W.Frag) (H : Hp) (x : V) : Prop := ∃ d, Dp K H x d ∧ cardsD d = false
/-- cards that are such -/
def IsC (K : PySem.W.Frag) (H : Hp) (x : V) (cs : List Int) : Prop := ∃ cA, x = .ref cA ∧ SqT K H cA (cs.map V.int) ∧ Cards cs
theorem NoC.same {K : PySem.W.Frag} {H H' : Hp} {x : V} (h : NoC K H x) (s : Same H H') : NoC K H' x := by
  obtain ⟨d, h1, h2⟩ := h
  exact ⟨d, Same.dp s h1, h2⟩
theorem IsC.same {K : PySem.W.Frag} {H H' : Hp} {x : V} {cs : List Int} (h : IsC K H x cs) (s : Same H H') : IsC K H' x cs := by
  obtain ⟨cA, h0, h1, h2⟩ := h
  exact ⟨cA, h0, Same.seqT s h1, h2⟩
/-- no such thing for these cards -/
def NoT (bad : Nat → PyData → Bool) (K : PySem.W.Frag) (H : Hp) (cs : List Int) (y : V) : Prop := ∃ d, Dp K H y d ∧ bad cs.length d = false
theorem NoT.same {bad : Nat → PyData → Bool} {K : PySem.W.Frag} {H H' : Hp} {cs : List Int} {y : V} (h : NoT bad K H cs y) (s : Same H H') : NoT bad K H' cs y := by
  obtain ⟨d, h1, h2⟩ := h
  exact ⟨d, Same.dp s h1, h2⟩
/-- a door of two: refused by its cards, or by its second -/
def door2 (bad : Nat → PyData → Bool) (n : Str) (mg : Str → Option Value) (K : PySem.W.Frag) : Sp := fun vs H _ E => ∃ x y, vs = [x, y] ∧ ((NoC K H x ∧ RefE mg H E "NoCards") ∨ ∃ cs, IsC K H x cs ∧ NoT bad K H cs y ∧ RefE mg H E n)
theorem mono_door2 {bad : Nat → PyData → Bool} {n : Str} {mg : Str → Option Value} {K : PySem.W.Frag} : MonoSp (door2 bad n mg K) := by
  rintro vs H Q Q' E E' ⟨x, y, e, h⟩ _ hx
  rcases h with ⟨h1, h2⟩ | ⟨cs, h1, h2, h3⟩
  · exact ⟨x, y, e, .inl ⟨h1, h2.mono hx⟩⟩
  · exact ⟨x, y, e, .inr ⟨cs, h1, h2, h3.mono hx⟩⟩
/-- a door of three -/
def door3 (bad : Nat → PyData → Bool) (n : Str) (mg : Str → Option Value) (K : PySem.W.Frag) : Sp := fun vs H _ E => ∃ x y z, vs = [x, y, z] ∧ ((NoC K H x ∧ RefE mg H E "NoCards") ∨ ∃ cs, IsC K H x cs ∧ NoT bad K H cs y ∧ RefE mg H E n)
theorem mono_door3 {bad : Nat → PyData → Bool} {n : Str} {mg : Str → Option Value} {K : PySem.W.Frag} : MonoSp (door3 bad n mg K) := by
  rintro vs H Q Q' E E' ⟨x, y, z, e, h⟩ _ hx
  rcases h with ⟨h1, h2⟩ | ⟨cs, h1, h2, h3⟩
  · exact ⟨x, y, z, e, .inl ⟨h1, h2.mono hx⟩⟩
  · exact ⟨x, y, z, e, .inr ⟨cs, h1, h2, h3.mono hx⟩⟩
end FR
namespace FR
open PySem PySem.Spec PyProof.Rows L2
/-- no number -/
def NoN (K : PySem.W.Frag) (H : Hp) (z : V) : Prop := ∃ d, Dp K H z d ∧ withinD 0 1000000000000000000 d = false
/-- a door of three, the third a number: refused by any of them, or answered -/
def door3n (bad : Nat → PyData → Bool) (n : Str) (ok : Hp → List Int → V → Int → Prop) (res : V → Prop) (mg : Str → Option Value) (K : PySem.W.Frag) : Sp := fun vs H Q E => ∃ x y z, vs = [x, y, z] ∧
  ((NoC K H x ∧ RefE mg H E "NoCards") ∨ (∃ cs, IsC K H x cs ∧ NoT bad K H cs y ∧ RefE mg H E n) ∨ ∃ cs, IsC K H x cs ∧ (∃ d, Dp K H y d ∧ bad cs.length d = true) ∧
    ((NoN K H z ∧ RefE mg H E "NoNumber") ∨ ∃ k, z = .int k ∧ 0 ≤ k ∧ k ≤ 1000000000000000000 ∧ ok H cs y k ∧ ∀ v H', Same H H' → res v → Q v H'))
theorem mono_door3n {bad : Nat → PyData → Bool} {n : Str} {ok : Hp → List Int → V → Int → Prop} {res : V → Prop} {mg : Str → Option Value} {K : PySem.W.Frag} : MonoSp (door3n bad n ok res mg K) := by
  rintro vs H Q Q' E E' ⟨x, y, z, e, h⟩ hq hx
  rcases h with ⟨h1, h2⟩ | ⟨cs, h1, h2, h3⟩ | ⟨cs, h1, h2, h3⟩
  · exact ⟨x, y, z, e, .inl ⟨h1, h2.mono hx⟩⟩
  · exact ⟨x, y, z, e, .inr (.inl ⟨cs, h1, h2, h3.mono hx⟩)⟩
  · rcases h3 with ⟨h4, h5⟩ | ⟨k, e1, k0, k1, h4, h5⟩
    · exact ⟨x, y, z, e, .inr (.inr ⟨cs, h1, h2, .inl ⟨h4, h5.mono hx⟩⟩)⟩
    · exact ⟨x, y, z, e, .inr (.inr ⟨cs, h1, h2, .inr ⟨k, e1, k0, k1, h4, fun v H' s r => hq _ _ (h5 v H' s r)⟩⟩)⟩
def okS (K : PySem.W.Frag) : Hp → List Int → V → Int → Prop := fun H cs y _ => ∃ sA ss, y = .ref sA ∧ SqT K H sA (ss.map V.int) ∧ Stamps cs.length ss
def okP (K : PySem.W.Frag) : Hp → List Int → V → Int → Prop := fun H cs y _ => ∃ pA r ss, y = .ref pA ∧ Purse K H pA r ss ∧ Stamps cs.length ss ∧ 0 ≤ r ∧ r ≤ 1000000000000000000
def isI (v : V) : Prop := ∃ n, v = .int n
def anyV (_ : V) : Prop := True
end FR
namespace FR
open PySem PySem.Spec PyProof.Rows L2 LamX
/-! ### three that make lambdas -/
def Apart (a b c : Addr) : Prop := a ≠ b ∧ a ≠ c ∧ b ≠ c
abbrev T_all (a b c : Addr) : List (Addr × Str) := [(a, Str.ofString "_law_by_cards.<locals>." ++ "<lambda>"), (b, Str.ofString "_law_by_purse.<locals>." ++ "<lambda>"), (c, Str.ofString "law.<locals>." ++ "<lambda>")]
theorem one_0 {a b c : Addr} (h : Apart a b c) : ∀ p ∈ T_all a b c, p.1 = a → p.2 = Str.ofString "_law_by_cards.<locals>." ++ "<lambda>" := by
  intro p hp e
  rcases List.mem_cons.mp hp with rfl | hp
  · rfl
  rcases List.mem_cons.mp hp with rfl | hp
  · exact absurd e.symm h.1
  rcases List.mem_cons.mp hp with rfl | hp
  · exact absurd e.symm h.2.1
  · exact nomatch hp
theorem one_1 {a b c : Addr} (h : Apart a b c) : ∀ p ∈ T_all a b c, p.1 = b → p.2 = Str.ofString "_law_by_purse.<locals>." ++ "<lambda>" := by
  intro p hp e
  rcases List.mem_cons.mp hp with rfl | hp
  · exact absurd e h.1
  rcases List.mem_cons.mp hp with rfl | hp
  · rfl
  rcases List.mem_cons.mp hp with rfl | hp
  · exact absurd e.symm h.2.2
  · exact nomatch hp
theorem one_2 {a b c : Addr} (h : Apart a b c) : ∀ p ∈ T_all a b c, p.1 = c → p.2 = Str.ofString "law.<locals>." ++ "<lambda>" := by
  intro p hp e
  rcases List.mem_cons.mp hp with rfl | hp
  · exact absurd e h.2.1
  rcases List.mem_cons.mp hp with rfl | hp
  · exact absurd e h.2.2
  rcases List.mem_cons.mp hp with rfl | hp
  · rfl
  · exact nomatch hp
theorem TabAt.def {P : Program} {w : World} {K : PySem.W.Frag} {mg : Str → Option Value} {base h : Heap} {x : Str} {st : Stmt} {c P0 : Addr} {k : Nat} {ps : List Str} {sp : Sp} (F : TabAt K mg h x st c P0) (ok : ∀ f fd, Fun K x x st f fd → fd.code = .ref c → FnOk P w K mg base CX0 k f fd ps sp)
    (hb : ∀ (kV doc pm : Value) (an : Option Addr) (cdv ct : Value) (us : List Value), us.length = ps.length → bindArgs (PySem.W.fnOf x x (defArgs st) (defBody st) (defScope st) .none kV doc pm an cdv ct) ⟨us, []⟩ = pure (ps.zip us)) : Def P w K mg base x k ps sp := by
  obtain ⟨f, fd, F, m, hc⟩ := F.fn
  exact ⟨f, fd, ok f fd F hc, m, F.kp, F.binds hb⟩
/-! ### words of a refusal -/
theorem kinsh_0 : SeqAt.shaped (.list [.str "NoCards", .bool true]) = true := nocards_shaped
theorem kinsh_1 : SeqAt.shaped (.list [.str "NoPurse", .bool true]) = true := by
  unfold SeqAt.shaped
  rw [PyData.canLay0, PyData.canLayAll0, PyData.canLayAll0, PyData.canLayAll0, PyData.depth, PyData.depthAll, PyData.depthAll, PyData.depthAll, PyData.canLay0, PyData.canLay0, PyData.depth, PyData.depth]
  decide +kernel
theorem kinsh_2 : SeqAt.shaped (.list [.str "NoStamps", .bool true]) = true := by
  unfold SeqAt.shaped
  rw [PyData.canLay0, PyData.canLayAll0, PyData.canLayAll0, PyData.canLayAll0, PyData.depth, PyData.depthAll, PyData.depthAll, PyData.depthAll, PyData.canLay0, PyData.canLay0, PyData.depth, PyData.depth]
  decide +kernel
theorem kinsh_4 : SeqAt.shaped (.list [.str "NoNumber", .bool true]) = true := by
  unfold SeqAt.shaped
  rw [PyData.canLay0, PyData.canLayAll0, PyData.canLayAll0, PyData.canLayAll0, PyData.depth, PyData.depthAll, PyData.depthAll, PyData.depthAll, PyData.canLay0, PyData.canLay0, PyData.depth, PyData.depth]
  decide +kernel
theorem kinsh_5 : SeqAt.shaped (.list [.str "NoPurses", .bool true]) = true := by
  unfold SeqAt.shaped
  rw [PyData.canLay0, PyData.canLayAll0, PyData.canLayAll0, PyData.canLayAll0, PyData.depth, PyData.depthAll, PyData.depthAll, PyData.depthAll, PyData.canLay0, PyData.canLay0, PyData.depth, PyData.depth]
  decide +kernel
theorem sh_eqv {d : PyData} (h : SeqAt.shaped d = true) : PyData.eqv d d = true := SeqAt.eqv_refl _ (by
  have := h
  unfold SeqAt.shaped at this
  exact (Bool.and_eq_true_iff.mp this).1)
/-! ### all but the tables stays -/
theorem NoC.ext {K : PySem.W.Frag} {H H' : Hp} {x : V} (h : NoC K H x) (s : ExtN H H') : NoC K H' x := by
  obtain ⟨d, h1, h2⟩ := h
  exact ⟨d, ext_dp s h1, h2⟩
theorem IsC.ext {K : PySem.W.Frag} {H H' : Hp} {x : V} {cs : List Int} (h : IsC K H x cs) (s : ExtN H H') : IsC K H' x cs := by
  obtain ⟨cA, h0, h1, h2⟩ := h
  exact ⟨cA, h0, ext_seqT s h1, h2⟩
theorem NoT.ext {bad : Nat → PyData → Bool} {K : PySem.W.Frag} {H H' : Hp} {cs : List Int} {y : V} (h : NoT bad K H cs y) (s : ExtN H H') : NoT bad K H' cs y := by
  obtain ⟨d, h1, h2⟩ := h
  exact ⟨d, ext_dp s h1, h2⟩
theorem NoN.ext {K : PySem.W.Frag} {H H' : Hp} {z : V} (h : NoN K H z) (s : ExtN H H') : NoN K H' z := by
  obtain ⟨d, h1, h2⟩ := h
  exact ⟨d, ext_dp s h1, h2⟩
/-! ### the lambda that calls its first -/
def sp_lamA (P : Program) (w : World) (K : PySem.W.Frag) (mg : Str → Option Value) (base : Heap) : Sp := fun vs H Q E => ∃ f x y sp, vs = [.ref f, x, y] ∧ HeldX P w K mg base 11 f sp ∧ MonoSp sp ∧ sp [x, y] H Q E
theorem mono_lamA {P : Program} {w : World} {K : PySem.W.Frag} {mg : Str → Option Value} {base : Heap} : MonoSp (sp_lamA P w K mg base) := by
  rintro vs H Q Q' E E' ⟨f, x, y, sp, e, h, m, q⟩ hq hx
  exact ⟨f, x, y, sp, e, h, m, m _ _ _ _ _ _ q hq hx⟩
/-- what each door of two does with no cards -/
def Dr2 (P : Program) (w : World) (K : PySem.W.Frag) (mg : Str → Option Value) (base : Heap) (n : Str) (x y : V) (G : Hp → Prop) (v : V) : Prop := ∃ f sp, v = .ref f ∧ HeldX P w K mg base 11 f sp ∧ MonoSp sp ∧ ∀ H Q E, G H → RefE mg H E n → sp [x, y] H Q E
def Dr3 (P : Program) (w : World) (K : PySem.W.Frag) (mg : Str → Option Value) (base : Heap) (n : Str) (x y z : V) (G : Hp → Prop) (v : V) : Prop := ∃ f sp, v = .ref f ∧ HeldX P w K mg base 12 f sp ∧ MonoSp sp ∧ ∀ H Q E, G H → RefE mg H E n → sp [x, y, z] H Q E
end FR
namespace FR
open PySem PySem.Spec PyProof.Rows L2 LamX
theorem tabAt_one {K : PySem.W.Frag} {h : Heap} {mg : Str → Option Value} {x : Str} {st : Stmt} {f c P : Addr} {od od2 an : Option Addr} {sl sl2 : Array (Option Value)} {oc oc2 kV dc pm ct : Value} {vs : Array Value} {ts : List Addr} (X : K.In h) (G : h.Ns mainGlobals mg)
    (hT : ∀ P ∈ ts, h.get? P = some (PySem.W.tabObj #[]))
    (a1 : PySem.W.nsIn K mainGlobals x = some (some (.ref f))) (l1 : K.lookup f = some ⟨oc, od, .func (PySem.W.fnOf x x (defArgs st) (defBody st) (defScope st) .none kV dc pm an (.ref c) ct), sl⟩) (c1 : PySem.W.codeIn K (.ref c) x = true) (k1 : PySem.W.keepIn K (.ref f) = true)
    (lc : K.lookup c = some ⟨oc2, od2, .fields vs, sl2⟩) (vP : vs[11]? = some (.ref P)) (hc : PySem.W.codeHdIn K c P = true) (hn : K.lookup P = none) (mem : P ∈ ts) : TabAt K mg h x st c P :=
  ⟨⟨f, _, fun_mk (st := st) l1 c1 k1, PySem.W.mg_of X G a1, rfl⟩, hT P mem, hn, PySem.W.codeHd_of_K X hc⟩
def TabAt3X {K : PySem.W.Frag} {h : Heap} (_ : K.In h) (mg : Str → Option Value) (x1 x2 x3 : Str) (s1 s2 s3 : Stmt) : Prop := ∃ c1 P1 c2 P2 c3 P3, TabAt K mg h x1 s1 c1 P1 ∧ TabAt K mg h x2 s2 c2 P2 ∧ TabAt K mg h x3 s3 c3 P3 ∧ Apart P1 P2 P3
theorem tabAt3_mk {K : PySem.W.Frag} {h : Heap} (X : K.In h) {mg : Str → Option Value} {x1 x2 x3 : Str} {s1 s2 s3 : Stmt} {c1 P1 c2 P2 c3 P3 : Addr} (a : TabAt K mg h x1 s1 c1 P1) (b : TabAt K mg h x2 s2 c2 P2) (c : TabAt K mg h x3 s3 c3 P3) (d1 : P1 ≠ P2) (d2 : P1 ≠ P3) (d3 : P2 ≠ P3) : TabAt3X X mg x1 x2 x3 s1 s2 s3 := ⟨c1, P1, c2, P2, c3, P3, a, b, c, d1, d2, d3⟩
end FR
set_option maxHeartbeats 2000000
namespace FR
open PySem PySem.Spec PyProof.Rows L2
/-! ### x == y by the class's own __eq__, len(x) by its own __len__ -/
/-- the second's type -/
inductive TyY (K : PySem.W.Frag) (C : Addr) (H : Hp) : V → Value → Prop
  | kit {y : V} {t : Value} (h : TyX K H y t) : TyY K C H y t
  | ins {b dy : Addr} {gs : List (Str × V)} (h : H b = some (.ins C dy gs)) : TyY K C H (.ref b) (.ref C)
theorem tyY_looks {X : Cx} {pins : List (Addr × Obj)} {σ : L2.St} {H : Hp} {s : Shared} {C : Addr} {y : V} {u t : Value} (I : Inv X pins σ H s) (ry : RelV y u) (h : TyY X.K C H y t) : PySem.W.Looks (model X.prog X.w) s.heap (typeOf u) t := by
  cases h with
  | kit h =>
    obtain ⟨P, kx, p, _⟩ := kit_of I ry h
    exact kx.ty _ _ I.kIn p
  | ins h =>
    cases ry
    obtain ⟨mB, J', _⟩ := ins_get I.hok h
    obtain ⟨od', J', _⟩ := J'.look
    exact J'.type
def rEqO (K : PySem.W.Frag) (C : Addr) (sp : Sp) : R2 := fun x y H Q => ∃ a dx fs tb, x = .ref a ∧ H a = some (.ins C dx fs) ∧ TyY K C H y tb ∧ PySem.W.notFirst K C tb = true ∧ sp [x, y] H (fun v H' => ∃ b, v = .bl b ∧ Q (.bl b) H') E0
theorem op_eqO {X : Cx} {C : Addr} {k j : Nat} {ps : List Str} {sp : Sp} (D : MDef X.prog X.w X.K X.mg X.base C "__eq__" k ps sp) (hr : Room j X.A) (hl : k ≤ j := by decide) : OpR X (compareOp .Eq) (rEqO X.K C sp) := by
  intro pins s σ H x y v u Q I rx ry h
  obtain ⟨f, fd, F, M, hb⟩ := D.ex
  obtain ⟨a, dx, fs, tb, rfl, ha, ty, nf, hsp⟩ := h
  cases rx
  obtain ⟨mA, J, _⟩ := ins_get I.hok ha
  obtain ⟨od, J, _⟩ := J.look
  obtain ⟨m, hF⟩ := I.fr
  show wpAny (model X.prog X.w) X.A (richCompare .Eq (.ref a) u) (EP X pins σ Q) X.xe s
  refine PySem.W.cmp_K (op := .Eq) (tb := tb) hr.units0 hF I.ok.mod.kin J (tyY_looks I ry ty) nf M.at_ M.fn ?_
  have hln := F.len _ _ _ _ hsp
  have r2 : Vals [V.ref a, y] [Value.ref a, u] := .cons rfl (.cons ry .nil)
  refine wpAny_call (codeAny_mono (F.run X.A X.stack s H ⟨[.ref a, u], []⟩ [.ref a, u] [.ref a, y] _ E0 (hr.mono hl) I.env0 (by
    have := hb s [.ref a, u] I.kIn (by simpa using hln)
    simpa using this) r2 hsp) fun r s' hq => ?_)
  cases r with
  | error e => exact pass0 pins σ H s e s' I hq
  | ok fl =>
    cases fl with
    | ret w =>
      obtain ⟨z, H', I', rz, b, ez, q⟩ := I.after hq
      subst ez
      cases rz
      exact ⟨.bl b, H', I', rfl, q⟩
    | next => exact False.elim hq
    | brk => exact False.elim hq
    | cont => exact False.elim hq
theorem call_lenO {X : Cx} {C : Addr} {k j : Nat} {ps : List Str} {sp : Sp} (D : MDef X.prog X.w X.K X.mg X.base C "__len__" k ps sp) (hr : Room j X.A) (hl : k + 1 ≤ j := by decide) :
    CallR X (.builtin "len") (fun xs H Q => ∃ a dx fs, xs = [.ref a] ∧ H a = some (.ins C dx fs) ∧ sp [.ref a] H (fun v H' => ∃ n : Int, v = .int n ∧ (0 ≤ n ∧ n < 2 ^ 63) ∧ Q (.int n) H') E0) := by
  intro pins s σ H xs us Q I r h
  obtain ⟨f, fd, F, M, hb⟩ := D.ex
  obtain ⟨a, dx, fs, rfl, ha, hsp⟩ := h
  cases r with
  | cons ra rn =>
  cases rn
  cases ra
  obtain ⟨mA, J, _⟩ := ins_get I.hok ha
  obtain ⟨od, J, _⟩ := J.look
  obtain ⟨m, hF⟩ := I.fr
  refine PySem.W.len_K hF I.ok.mod.kin J M.at_ M.fn ?_
  have hln := F.len _ _ _ _ hsp
  have e0 : Env0 X.prog X.w X.K X.mg X.base X.A.in1 X.stack s H := by
    have e := I.env0
    exact ⟨e.frames, e.mod, e.bs, e.bsz, e.funs, e.frf, e.hok, e.bare⟩
  refine wpAny_call (codeAny_mono (F.run X.A.in1 X.stack s H ⟨[.ref a], []⟩ [.ref a] [.ref a] _ E0 (hr.mono hl).in1 e0 (by
    have := hb s [.ref a] I.kIn (by simpa using hln)
    simpa using this) (.cons rfl .nil) hsp) fun r s' hq => ?_)
  cases r with
  | error e => exact pass0 pins σ H s e s' I hq
  | ok fl =>
    cases fl with
    | ret w =>
      obtain ⟨z, H', I', rz, n, ez, hn, q⟩ := I.after hq
      subst ez
      obtain ⟨t, rfl⟩ := rz
      exact ⟨hn, .int n, H', I'.tok _, ⟨_, rfl⟩, q⟩
    | next => exact False.elim hq
    | brk => exact False.elim hq
    | cont => exact False.elim hq
end FR
namespace FR
open PySem PySem.Spec PyProof.Rows L2
/-! ### methods that may raise -/
structure MDefX (P : Program) (w : World) (K : PySem.W.Frag) (mg : Str → Option Value) (base : Heap) (C : Addr) (m : Str) (k : Nat) (ps : List Str) (sp : Sp) : Prop where
  ex : ∃ f fd, FnOk P w K mg base (L2N.CX P w) k f fd ps sp ∧ Meth K C m f ∧ Binds K fd ps []
theorem pe_mdefX {X : Cx} {pl : Sem Bool} {k j : Nat} {ps : List Str} {sp : Sp} {C : Addr} {m : Str} {apos pos : Pos} {o e : Expr} {es : List Expr} {ta : TE} {t : TA} {E : XK} (T : KeptT X.K X.mg C) (D : MDefX X.prog X.w X.K X.mg X.base C m k ps sp) (hr : Room j X.A) (tk : L2N.Takes X (fun cls d _ H => E cls d H)) (ho : PE X o ta) (ha : PA X (e :: es) t) (hl : k ≤ j := by decide)
    (he : starEach (e :: es) X.env = (false, eval e X.env) :: starEach es X.env := by rfl) (hpl : (backTo pos (starEach es X.env)).any (·.1) = false := by rfl)
    (ht : eval (.Call (.Attribute o m apos) (e :: es) [] pos) X.env = (do
      let ov ← eval o X.env
      standAt apos.atName
      let (f, first) ← holding [ov] (getMethod ov m pl)
      callWith pos f first (backTo pos (starEach (e :: es) X.env)) (backToKw pos (keywordEach [] X.env))) := by rfl) :
    PE X (.Call (.Attribute o m apos) (e :: es) [] pos) (tMeth C m sp [] E ta t) := by
  obtain ⟨f, fd, F, M, b⟩ := D.ex
  exact pe_meth ho T.cl M F (hr.mono hl) b .nil (L2N.passes_call tk fun _ _ _ _ h => h) ha he hpl ht
theorem pe_mdefX0 {X : Cx} {pl : Sem Bool} {k j : Nat} {ps : List Str} {sp : Sp} {C : Addr} {m : Str} {apos pos : Pos} {o : Expr} {ta : TE} {E : XK} (T : KeptT X.K X.mg C) (D : MDefX X.prog X.w X.K X.mg X.base C m k ps sp) (hr : Room j X.A) (tk : L2N.Takes X (fun cls d _ H => E cls d H)) (ho : PE X o ta) (hl : k ≤ j := by decide)
    (ht : eval (.Call (.Attribute o m apos) [] [] pos) X.env = (do
      let ov ← eval o X.env
      standAt apos.atName
      let (f, first) ← holding [ov] (getMethod ov m pl)
      callWith pos f first (backTo pos (starEach [] X.env)) (backToKw pos (keywordEach [] X.env))) := by rfl) :
    PE X (.Call (.Attribute o m apos) [] [] pos) (tMeth C m sp [] E ta tNil) := by
  obtain ⟨f, fd, F, M, b⟩ := D.ex
  exact pe_meth0 ho T.cl M F (hr.mono hl) b .nil (L2N.passes_call tk fun _ _ _ _ h => h) ht
/-- called where nothing is raised -/
theorem pe_mdefN0 {X : Cx} {pl : Sem Bool} {k j : Nat} {ps : List Str} {sp : Sp} {C : Addr} {m : Str} {apos pos : Pos} {o : Expr} {ta : TE} (T : KeptT X.K X.mg C) (D : MDefX X.prog X.w X.K X.mg X.base C m k ps sp) (hr : Room j X.A) (ho : PE X o ta) (hl : k ≤ j := by decide)
    (ht : eval (.Call (.Attribute o m apos) [] [] pos) X.env = (do
      let ov ← eval o X.env
      standAt apos.atName
      let (f, first) ← holding [ov] (getMethod ov m pl)
      callWith pos f first (backTo pos (starEach [] X.env)) (backToKw pos (keywordEach [] X.env))) := by rfl) :
    PE X (.Call (.Attribute o m apos) [] [] pos) (tMeth C m sp [] E0 ta tNil) := by
  obtain ⟨f, fd, F, M, b⟩ := D.ex
  refine pe_meth0 ho T.cl M F (hr.mono hl) b .nil (fun _ _ _ _ _ _ _ h => ?_) ht
  obtain ⟨_, _, _, _, _, _, _, _, _, _, _, _, z⟩ := h
  exact z.elim
theorem mdefX_mk {P : Program} {w : World} {K : PySem.W.Frag} {mg : Str → Option Value} {base : Heap} {C : Addr} {m q : Str} {st : Stmt} {k : Nat} {ps : List Str} {sp : Sp} (F : ∃ f fd, Fun K m q st f fd ∧ Meth K C m f) (ok : ∀ f fd, Fun K m q st f fd → FnOk P w K mg base (L2N.CX P w) k f fd ps sp)
    (h : ∀ (kV doc pm : Value) (an : Option Addr) (cdv ct : Value) (us : List Value), us.length = ps.length → bindArgs (PySem.W.fnOf m q (defArgs st) (defBody st) (defScope st) .none kV doc pm an cdv ct) ⟨us, []⟩ = pure (ps.zip us)) : MDefX P w K mg base C m k ps sp := by
  obtain ⟨f, fd, F, m⟩ := F
  exact ⟨f, fd, ok f fd F, m, F.binds h⟩
/-! ### one state less -/
theorem Sts.inv {K : PySem.W.Frag} {H : Hp} {ts : List Addr} {ks : List KS} {k : KS} (h : Sts K H ts (ks ++ [k])) : ∃ us t, ts = us ++ [t] ∧ Sts K H us ks := by
  obtain ⟨us, t, pA, e, h1, _⟩ := h.last
  exact ⟨us, t, e, h1⟩
theorem KeptAt.pop {C : Addr} {K : PySem.W.Frag} {H : Hp} {x sA : Addr} {cs : List Int} {ks : List KS} {k : KS} {xs : List V} (h : KeptAt C K H x sA cs (ks ++ [k])) (e : H sA = some (.lst xs)) : KeptAt C K (upd H sA (.lst xs.dropLast)) x sA cs ks := by
  obtain ⟨⟨dx, cA, h1, h2⟩, ts, h3, h4⟩ := h
  obtain ⟨us, t, rfl, h5⟩ := h4.inv
  have exs : xs = us.map V.ref ++ [V.ref t] := by
    have := e.symm.trans h3
    cases this
    rw [List.map_append]
    rfl
  refine ⟨⟨dx, cA, ?_, sqT_updL h2 e⟩, us, ?_, h5.upd e⟩
  · rw [upd_ne (ne_of h1 e (fun z => nomatch z))]
    exact h1
  · rw [upd_same, exs, List.dropLast_concat]
end FR
set_option maxHeartbeats 2000000
namespace FR
open PySem PySem.Spec PyProof.Rows L2 PySem.W
/-- the built-in __init__ bound to x, at u -/
def mwO (u x : Addr) : HO := .ext fun h => h.get? u = some (PySem.W.kxs_mw "ValueError.__init__" x)
theorem mw_at {P : Program} {w : World} {H : Hp} {h : Heap} {u x : Addr} (hok : HOk P w H h) (he : H u = some (mwO u x)) : h.get? u = some (PySem.W.kxs_mw "ValueError.__init__" x) := by
  have y : ObjOk P w H h u (.ext fun h => h.get? u = some (PySem.W.kxs_mw "ValueError.__init__" x)) := hok u _ he
  exact y.1
theorem mw_ok {P : Program} {w : World} {H : Hp} {h : Heap} {u x : Addr} (he : h.get? u = some (PySem.W.kxs_mw "ValueError.__init__" x)) : ObjOk P w H h u (mwO u x) :=
  ⟨he, ⟨_, he⟩, fun h1 h2 z k => k _ z⟩
theorem call_mw {X : Cx} {pins : List (Addr × Obj)} {σ : L2.St} {H : Hp} {s : Shared} {A : Around} {E : Value → Shared → Prop} {u a C : Addr} {us : List Value} {Q : Value → Shared → Prop} (T : OexC X.K C) (I : Inv X pins σ H s) (e : H a = some (exo a C none)) (hu : H u = some (mwO u a)) (hl : us.length ≤ sizeLine) (h : ∀ s', Inv X pins σ H s' → Q .none s') :
    wpAny (model X.prog X.w) A (call (.ref u) us) Q E s := by
  obtain ⟨nm, q, N, bs, bm, sn, sub, ab, col, dd, k0, k1, k2, k3, k5, hC, hbm⟩ := T.cls
  obtain ⟨t1, ho⟩ := exo_at I.hok e
  have hu' : s.heap.get? u = some (kxs_mw "ValueError.__init__" a) := mw_at I.hok hu
  obtain ⟨hp, g, d, t, os⟩ := s
  refine wpAny_call (codeAny_of_tree ?_)
  show wpAny _ A.in1 (callAny (.ref u) ⟨us, []⟩) _ _ _
  simp only [callAny]
  refine wpAny_bind (wpAny_load hu' ?_)
  simp only [kxs_mw, show (Value.type "method-wrapper" == Value.type "method" || Value.type "method-wrapper" == Value.type "builtin_function_or_method" || Value.type "method-wrapper" == Value.type "method-wrapper") = true by decide, if_true]
  refine KFB.if_so (by decide) ?_
  refine wpAny_bind (check_bound_init F.excBase_ValueError.toExcCallFacts (I.kIn _ _ hC) ho rfl ?_)
  refine wpAny_bind (wpAny_pure (wpAny_pure ?_))
  refine ⟨plainId_quiet F.excBase_ValueError.init.plain _, codeAny_builtin F.excBase_ValueError.initEntry ?_⟩
  refine exc_init_tree (cls := .ref C) (t0 := t1) (dv := none) (c2 := .none) (c3 := .none) (b4 := .bool false) ho hl fun h' k hx ht => ?_
  have J := I.write (t' := t) (x := a) (e := a) (o := exo a C none) (by rw [e]; exact True.intro) (.inl rfl) k ⟨_, hx⟩ (exo_ok hx)
  have eu : upd H a (exo a C none) = H := by
    funext b
    by_cases hb : b = a
    · rw [hb, upd_same, e]
    · rw [upd_ne hb]
  rw [eu] at J
  exact h _ J
end FR
set_option maxHeartbeats 2000000
namespace FR
open PySem PySem.Spec PyProof.Rows L2 PySem.W NdefX
structure TfC (P : Program) (K : PySem.W.Frag) (C f cda cc : Addr) (q : Str) (params : Arguments) (body : List Stmt) (sc : Scope) (fd : FuncData) : Prop where
  fdq : ∃ kV doc pm an ct, fd = fnX "__init__" q params body sc [("__class__", cc)] .none kV doc pm an (.ref cda) ct
  lk : ∃ oc od osl, K.lookup f = some ⟨oc, od, .func fd, osl⟩
  code : codeIn K (.ref cda) q = true
  file : ∃ ccl cdd vs ccs fl tf, K.lookup cda = some ⟨ccl, cdd, .fields vs, ccs⟩ ∧ vs[2]? = some (.str fl tf) ∧ ((P.main.file : Str) == fl) = true
  cell : ∃ cl cld csl, K.lookup cc = some ⟨cl, cld, .cell (some (.ref C)), csl⟩
  cls : ∃ cd, clsIn K C = some cd ∧ alongIn K "__init__" ((cd.mro.dropWhile (· != .ref C)).drop 1) = some (some (.builtin "ValueError.__init__"))
  self : mroIn K C (.ref C) = some true
  sub : subIn K (.ref C) (.type "ValueError") = some true
  op : nsIn K cStatics "thirdparty.any" = some none
  top : (P.main.scope.names.lookup ("super" : Str)).isSome = false
  ox : OexC K C
  kd : findIn K (.ref C) "kind" = some none
theorem cl_look {x y : Str} {c c' : Addr} (e : List.lookup y [(x, c)] = some c') : y = x ∧ c' = c := by
  rw [List.lookup_cons] at e
  split at e
  · rename_i z
    exact ⟨eq_of_beq z, (Option.some.inj e).symm⟩
  · cases e
theorem callWith_mw {M : Model} {A : Around} {E : Value → Shared → Prop} {s : Shared} {pos : Pos} {i : String} {u x : Addr} {env : Env} {e : Expr} {Q : Value → Shared → Prop} (he : starEach [e] env = (false, eval e env) :: starEach [] env)
    (h : wpAny M A (spliced (backTo pos (starEach [e] env))) (fun vs s₁ => KxsAt i u x s₁.heap ∧ wpAny M A (call (.ref u) vs) Q E s₁) E s) : wpAny M A (callWith pos (.ref u) [] (backTo pos (starEach [e] env)) []) Q E s := by
  rw [he] at h ⊢
  exact kxs_callWith (i := i) (x := x) rfl (Calls.evalArgs_plain h)
def sp_tf (C : Addr) : Sp := fun vs H Q _ => ∃ (a : Addr) (k : Int), vs = [.ref a, .int k] ∧ 0 ≤ k ∧ k ≤ 2 ∧ H a = some (exo a C none) ∧
  ∀ dx H2, H dx = none → dx ≠ a → (∀ b o, H b = some o → b ≠ a → H2 b = some o) → H2 a = some (exo a C (some dx)) → H2 dx = some (exd dx [("kind", .int k)]) → Q .non H2
theorem ok_tf {P : Program} {w : World} {K : PySem.W.Frag} {mg : Str → Option Value} {base : Heap} {C f cda cc : Addr} {q : Str} {params : Arguments} {body : List Stmt} {sc : Scope} {fd : FuncData} {ar : Arg} {fe : Expr} {p0 p1 p2 p5 p6 q0 q1 q2 q3 : Pos} (T : TfC P K C f cda cc q params body sc fd) (hsup : mg "super" = none)
    (S : NScope ["self", "kind", "__class__"] ["self", "kind"] ["__class__"] sc) (hks : sc.names.lookup ("super" : Str) = some .globalImplicit) (hp : (params.posonlyargs ++ params.args).head? = some ar) (har : ar.arg = "self")
    (hbody : body = [.Expr (.Call (.Attribute (.Call (.Name "super" p0) [] [] p1) "__init__" p2) [fe] [] p5) p6, .Assign [.Attribute (.Name "self" q0) "kind" q1] (.Name "kind" q2) q3]) (pl : Sem Bool)
    (hev : ∀ env : Env, eval (.Call (.Attribute (.Call (.Name "super" p0) [] [] p1) "__init__" p2) [fe] [] p5) env = (do
      let ov ← attributeBase (.Call (.Name "super" p0) [] [] p1) "__init__" env (eval (.Call (.Name "super" p0) [] [] p1) env)
      standAt p2.atName
      let (f, first) ← holding [ov] (getMethod ov "__init__" pl)
      callWith p5 f first (backTo p5 (starEach [fe] env)) [])) (hsw : ∀ env : Env, swapsWith (.Call (.Attribute (.Call (.Name "super" p0) [] [] p1) "__init__" p2) [fe] [] p5) none p6.line env = pure false) (hst : ∀ env : Env, starEach [fe] env = (false, eval fe env) :: starEach [] env)
    (hsw2 : ∀ env : Env, swapsWith (.Name "kind" q2) (some (.Attribute (.Name "self" q0) "kind" q1)) q3.line env = pure false) (te : TE)
    (hfe : ∀ A outer s H E, PE (ncx CX0 P w K mg base ["self", "kind", "__class__"] ⟨"__init__", q, params, body, sc, [("__class__", cc)], cda⟩ f A outer s H E) fe te)
    (hte : ∀ (a : Addr) (k : Int) (H : Hp) (Q : VK), 0 ≤ k → k ≤ 2 → (∀ x, Q (.str x) H) → te (startF ["self", "kind", "__class__"] [.ref a, .int k] [none]) H Q) : FnOk P w K mg base CX0 3 f fd ["self", "kind"] (sp_tf C) := by
  refine ⟨fun vs H Q E h => by obtain ⟨a, k, rfl, _⟩ := h; rfl, fun A outer s H args us vs Q E hr e0 hbd r hsp => ?_⟩
  obtain ⟨kV, doc, pm, an, ct, rfl⟩ := T.fdq
  obtain ⟨oc, od, osl, hlk⟩ := T.lk
  have bk : ∀ b o, base.get? b = some o → s.heap.get? b = some o := fun b o e => (e0.bs b o e).1
  have kin : K.In s.heap := e0.mod.kin.keeps bk
  have lim : s.heap.NoLimit := e0.mod.nolimit.keeps bk
  obtain ⟨a, k, rfl, k0, k9, ha, hq⟩ := hsp
  obtain ⟨cl, cld, csl, hcell⟩ := T.cell
  obtain ⟨u1, u2, rfl, r1, r2⟩ := vals2 r
  cases r1
  refine ks_codeAny_call_defAt (body := body) (binds := (["self", "kind"] : List Str).zip [.ref a, u2]) hr.depth (kin _ _ hlk) rfl lim (codeRec_of kin T.code) rfl hbd S.nocell (fun y hy => S.par y.1 (List.of_mem_zip (show (y.1, y.2) ∈ _ from hy)).1) (fun h1 hns kp => ?_) S.co S.gen S.kind
  have I : Inv (ncx CX0 P w K mg base ["self", "kind", "__class__"] ⟨"__init__", q, params, body, sc, [("__class__", cc)], cda⟩ f A outer s H E) [] (startF ["self", "kind", "__class__"] [.ref a, .int k] [none]) H { s with heap := h1, toks := s.toks + ((["self", "kind"] : List Str).zip [.ref a, u2]).length } := by
    refine inv_startN S hr.hd e0 rfl r ⟨rfl, ?_, ?_, ?_⟩ hns kp
    · intro y c e
      have ec : c = cc := (cl_look e).2
      subst ec
      exact ⟨(e0.bs _ _ (e0.mod.kin _ _ hcell)).2, _, _, kin _ _ hcell, rfl⟩
    · intro x y c e1 e2
      exact (cl_look e1).1.trans (cl_look e2).1.symm
    · intro i y hy
      match i, hy with
      | 0, hy => exact ⟨cc, by cases hy; rfl, fun v hv => nomatch hv⟩
      | i + 1, hy => exact nomatch hy
  subst hbody
  obtain ⟨ccl, cdd, vs, ccs, fl, tf, hcd, hvs, hfile⟩ := T.file
  obtain ⟨cd, hcls, halong⟩ := T.cls
  refine ks_wpAt_execs_cons (ks_wpAt_Expr_any (ks_wpAt_MethodCall (pl := pl) ?_ (hev _)) (by unfold interactive callEnv; simp [newEnv, S.kind]) (hsw _))
  have k1 : K.In h1 := kin.keeps kp
  refine ks_wpAt_super_base (ar := ar) hks (S.frk _ List.mem_cons_self) (by decide) rfl (k1 _ _ hlk) rfl hp rfl (k1 _ _ hcd) rfl hvs hfile T.top ?_
  obtain ⟨mb, b1, b2⟩ := e0.mod.blt
  have kb : ∀ b o, base.get? b = some o → h1.get? b = some o := fun b o e => kp _ _ (bk b o e)
  refine ks_loadName_global S.kind hks (Calls.loadGlobal_builtin (e0.mod.glob.keeps kb) hsup (b1.keeps kb) ((b2 "super" (by decide)).trans (by kernel_rfl)) ⟨rfl, ?_⟩)
  refine wpAny_loadName_free S.kind (S.frk _ List.mem_cons_self) rfl ⟨_, k1 _ _ hcell, rfl⟩ ?_
  rw [har]
  refine wpAny_loadName_local S.kind (S.par _ List.mem_cons_self) hns (show _ = some (.ref a) from rfl) ?_
  obtain ⟨oD, hD1, hD2⟩ : ∃ oD, K.lookup C = some oD ∧ oD.data = .cls cd := by
    unfold clsIn at hcls
    split at hcls
    · rename_i c d cd' sl ho
      cases hcls
      exact ⟨_, ho, rfl⟩
    · cases hcls
  refine ks_wpAny_isType_cls (k1 _ _ hD1) hD2 ⟨rfl, ?_⟩
  obtain ⟨t1, hx⟩ := exo_at I.hok ha
  refine ks_wpAny_call_super (k1 _ _ hD1) hD2 hx rfl (fun c e => nomatch e) (looks_mroIn k1 T.self) fun h2 eso k2 => ?_
  have I2 := I.kept (t' := s.toks + 2) k2
  have kin2 : K.In h2 := k1.keeps k2
  have J : InstAt h2 a _ C none := ⟨k2 _ _ hx, rfl, rfl, trivial⟩
  refine kxs_getMethod kxs_ValueError eso (looks_opaque kin2 T.op) (l₀ := cd.mro) (fun A Q E s k q => wpAny_bind ((looks_clsIn kin2 hcls) A _ E s k (wpAny_pure q))) rfl kin2 halong (J.type.andThen (looks_subIn kin2 T.sub)) (ks_ne kin2 J hcls) (by decide) ?_
  have I3 := I2.laid (t' := s.toks + 2 + 1) (a := h2.objs.size) (o := mwO h2.objs.size a) (h' := h2.push (kxs_mw "ValueError.__init__" a)) (fun b o e => Heap.get?_push_of_some _ e) (Nat.le_refl _) (mw_ok (Heap.get?_push_at rfl rfl))
  have nu : H h2.objs.size = none := I2.hok.fresh (Nat.le_refl _)
  have ha3 : upd H h2.objs.size (mwO h2.objs.size a) a = some (exo a C none) := (upd_ne (ne_of_none ha nu)).trans ha
  have hz := hfe A outer s H E
  refine callWith_mw (i := "ValueError.__init__") (x := a) (hst _) (thn ((pa_cons hz pa_nil (hst _)).run p5 [] _ _ _ (fun vs H' => H' = upd H h2.objs.size (mwO h2.objs.size a) ∧ vs.length = 1) I3 (hte a k _ _ k0 k9 fun x => ⟨rfl, rfl⟩)) fun us s3 got => ?_)
  obtain ⟨vs3, H3, J3, rv3, rfl, hl3⟩ := got
  refine ⟨mw_at J3.hok upd_same, call_mw T.ox J3 ha3 upd_same ?_ fun s4 J4 => ?_⟩
  · rw [← rv3.length, hl3]
    decide
  refine wpAt_of_wpAny ?_
  have vis0 : Vis sc "self" := .inl (S.par _ List.mem_cons_self)
  have vis1 : Vis sc "kind" := .inl (S.par _ (List.mem_cons_of_mem _ List.mem_cons_self))
  have run := (pss_one (ps_ost (X := ncx CX0 P w K mg base ["self", "kind", "__class__"] ⟨"__init__", q, params, _, sc, [("__class__", cc)], cda⟩ f A outer s H E) (f := "kind") (pe_var (i := 0) (x := "self") (pos := q0) rfl vis0) (pe_var (i := 1) (x := "kind") (pos := q2) rfl vis1) (hsw2 _))).run [] s4 _ _ { nx := fun _ H' => Q .non H', rt := Q } J4 ?_
  · refine wpAny_mono run (fun fl s' hs => ?_) fun e s' hs => hs
    cases fl with
    | ret u =>
      obtain ⟨v, σ', H', J, rv, q⟩ := hs
      exact ⟨v, H', J.os, J.bare, J.base, J.hok, rv, q⟩
    | next =>
      obtain ⟨σ', H', J, q⟩ := hs
      exact ⟨.non, H', J.os, J.bare, J.base, J.hok, rfl, q⟩
    | brk =>
      obtain ⟨σ', H', J, q⟩ := hs
      exact q.elim
    | cont =>
      obtain ⟨σ', H', J, q⟩ := hs
      exact q.elim
  · refine ⟨_, rfl, _, rfl, a, C, rfl, T.ox, T.kd, .inl ⟨ha3, fun dx nd ne => ?_⟩⟩
    have nH : H dx = none := by
      by_cases z : dx = h2.objs.size
      · rw [z]
        exact nu
      · rw [upd_ne z] at nd
        exact nd
    refine hq dx _ nH ne (fun b o e hb => ?_) upd_same ?_
    · rw [upd_ne hb, upd_ne (ne_of_none e nH), upd_ne (ne_of_none e nu)]
      exact e
    · rw [upd_ne ne, upd_same]
end FR
set_option maxHeartbeats 2000000
namespace FR
open PySem PySem.Spec PyProof.Rows L2
/-! ### raise TooFew(e) -/
/-- what the program's place says of TooFew -/
structure TfT (P : Program) (w : World) (K : PySem.W.Frag) (mg : Str → Option Value) (base : Heap) (C : Addr) : Prop where
  ox : OexC K C
  g : mg "TooFew" = some (.ref C)
  ex : ∃ f fd, PySem.W.findIn K (.ref C) "__init__" = some (some (.ref f)) ∧ PySem.W.typeIn K (.ref f) = some (.type "function") ∧ FnOk P w K mg base CX0 3 f fd ["self", "kind"] (sp_tf C) ∧ Binds K fd ["self", "kind"] []
def tTf (C : Addr) (te : TE) : L2.St → Hp → XK → Prop := fun σ H Q => te σ H fun v H1 => ∃ k : Int, v = .int k ∧ 0 ≤ k ∧ k ≤ 2 ∧ ∀ d H2, Same H1 H2 → H2 d = some (.xd [("kind", .int k)]) → Q (.ref C) (some d) H2
theorem pmk_tf {X : Cx} {C : Addr} {j : Nat} {e : Expr} {te : TE} {p pos : Pos} (T : TfT X.prog X.w X.K X.mg X.base C) (hr : Room j X.A) (hg : Gl X "TooFew") (he : PE X e te) (hl : 4 ≤ j := by decide) (hs : starEach [e] X.env = (false, eval e X.env) :: starEach [] X.env := by rfl) :
    L2N.PMk X (.Call (.Name "TooFew" p) [e] [] pos) (tTf C te) := by
  intro pins s σ H Q I h
  obtain ⟨fI, fd, iC, tI, F1, hb⟩ := T.ex
  obtain ⟨nm, q, N, bs, bm, sn, sub, ab, col, dd, k0, k1, k2, k3, k5, hC, hbm⟩ := T.ox.cls
  refine wpAny_Call_Name_kw (ld_glob I hg T.g ?_ (by decide))
  refine PySem.W.callWith_K (h₀ := X.base) I.ok.mod.kin T.ox.kC ?_ hs (by rfl)
  rw [hs]
  show wpAny _ _ (spliced ((false, eval e X.env) :: backTo pos (starEach [] X.env))) _ _ s
  refine Calls.spliced_cons (thn (he.run pins s σ H _ I h) fun u s1 ⟨v, H1, I1, r1, k, ev, kl, kh, q1⟩ => ?_)
  refine Calls.spliced_nil ⟨I1.kIn, ?_⟩
  subst ev
  show wpAny _ _ (call (.ref C) [u]) _ _ _
  obtain ⟨hp, g, dr, tk, os⟩ := s1
  generalize hx : hp.objs.size + 1 = x
  have hsz : hp.objs.size ≤ x := by omega
  have hn : H1 x = none := I1.hok.fresh hsz
  have keep : ∀ b o, hp.get? b = some o → ((hp.push (PySem.W.kdv_tup [u])).push (PySem.HandSPX.excO C hp.objs.size)).get? b = some o := fun b o z => Heap.get?_push_of_some _ (Heap.get?_push_of_some _ z)
  have atx : ((hp.push (PySem.W.kdv_tup [u])).push (PySem.HandSPX.excO C hp.objs.size)).get? x = some (PySem.HandSPX.excO C hp.objs.size) := by
    rw [← hx]
    heap_get
  have I2 := I1.laid (t' := tk) (a := x) (o := exo x C none) (h' := (hp.push (PySem.W.kdv_tup [u])).push (PySem.HandSPX.excO C hp.objs.size)) keep hsz (exo_ok atx)
  have wish : sp_tf C [.ref x, .int k] (upd H1 x (exo x C none)) (fun v H2 => v = .non ∧ ∃ d, H2 x = some (exo x C (some d)) ∧ H2 d = some (exd d [("kind", .int k)]) ∧ H1 d = none ∧ Q (.ref C) (some d) (upd (del H2 x) d (.xd [("kind", .int k)]))) (fun _ _ _ => False) := by
    refine ⟨x, k, rfl, kl, kh, upd_same, fun d H2 nd ne kp ex ed => ⟨rfl, d, ex, ed, ?_, ?_⟩⟩
    · rw [upd_ne ne] at nd
      exact nd
    · rw [upd_ne ne] at nd
      refine q1 d _ (fun b o eb => ?_) upd_same
      have bx := ne_of_none eb hn
      rw [upd_ne (ne_of_none eb nd), del_ne bx]
      exact kp b o (by rw [upd_ne bx]; exact eb) bx
  have b2 := hb _ [.ref x, u] I2.kIn rfl
  rw [List.append_nil] at b2
  have run := F1.run _ X.stack _ _ ⟨[.ref x, u], []⟩ [.ref x, u] _ _ (fun _ _ _ => False) ((hr.mono hl).make C [u] []) (I2.env0.make C [u] []) b2 (show Vals [V.ref x, V.int k] [Value.ref x, u] from .cons rfl (.cons r1 .nil)) wish
  refine wpAny_call (PySem.HandSPX.call_own F.excBase_ValueError (fun Y => PySem.HandSPX.refsVE_contains Y bm hbm) (I1.kIn _ _ hC) (PySem.W.looks_findIn I1.kIn iC) (fun self => PySem.W.bind_fn I1.kIn self tI) (by show 1 ≤ sizeLine; decide) ?_)
  rw [hx]
  refine codeAny_mono run fun r s' got => ?_
  match r, got with
  | .error er, got => exact pass0 pins σ _ _ er s' I2 got
  | .ok .next, got => exact got.elim
  | .ok .brk, got => exact got.elim
  | .ok .cont, got => exact got.elim
  | .ok (.ret u2), got =>
    obtain ⟨v, H2, os2, bare2, un2, hok2, rv, ev, d, ea, ed, hd1, q2⟩ := got
    subst ev
    obtain ⟨h2, g2, d2, t2, os'⟩ := s'
    obtain ⟨t0, G, J, kG, ge, hoe, na⟩ := mk_end0 (d2 := d2) (t2 := t2) I1 hsz keep un2 hok2 os2 bare2 ea ed hd1
    exact ⟨rv, x, _, _, ⟨G, g2, d2, t2, os'⟩, _, .ref C, some d, rfl, J, kG, ge, hoe, ⟨rfl, rfl, fun vs hv => by cases hv; rfl⟩, rfl, rfl, na, rfl, bare2, raises_own T.ox.exC T.ox.tyC, q2⟩
theorem ps_raiseT {X : Cx} {C : Addr} {j : Nat} {W : WX} {e : Expr} {te : TE} {p p3 p4 : Pos} (T : TfT X.prog X.w X.K X.mg X.base C) (hr : Room j X.A) (tk : L2N.Takes X W) (he : PE X e te) (hl : 4 ≤ j := by decide) (hg : Gl X "TooFew" := by rfl) (hc : X.calm = true := by rfl) (hs : starEach [e] X.env = (false, eval e X.env) :: starEach [] X.env := by rfl) :
    PS X (.Raise (some (.Call (.Name "TooFew" p) [e] [] p3)) none p4) (fun _ σ H => tTf C te σ H fun cls d H1 => W cls d σ H1) :=
  L2N.ps_raise hc tk (pmk_tf T hr hg he hl hs)
/-! ### what the clause for it reads -/
structure TfX (K : PySem.W.Frag) (C : Addr) : Prop where
  xf : XfC K C
  kd : PySem.W.findIn K (.ref C) "kind" = some none
  ex : ExcC K C
  ve : PySem.W.kitOne K (.ref C) (.type "ValueError") = some true
  me : PySem.W.exmOne K (.ref C) (.ref C) = some true
/-- isinstance(e, c), e caught, whether it has a dict or not -/
def rIsD (K : PySem.W.Frag) (cls : Value) (d : Option Addr) (a : Addr) : List V → Hp → VK → Prop := fun xs H Q => ∃ (C dd : Addr) (fs : List (Str × V)) (c : V) (cv : Value) (b : Bool), cls = .ref C ∧ d = some dd ∧ H dd = some (.xd fs) ∧ ExcC K C ∧ xs = [.ref a, c] ∧ (∀ u, RelV c u → u = cv) ∧ PySem.W.kitOne K (.ref C) cv = some b ∧ Q (.bl b) H
theorem call_isD {X : Cx} {a : Addr} {oe : Obj} {cls : Value} {d : Option Addr} {pn : List (Addr × Obj)} (z : L2N.Zn cls d oe) (f : ∃ vs, oe.data = .fields vs) : CallR (X.suite a ((a, oe) :: pn)) (.builtin "isinstance") (rIsD X.K cls d a) := by
  intro pins s σ H xs us Q I r h
  obtain ⟨C, dd, fs, c, cv, b, rfl, rfl, hdd, ex, rfl, hcv, hk, q⟩ := h
  obtain ⟨u1, u2, rfl, r1, r2⟩ := vals2 r
  cases r1
  obtain rfl := hcv _ r2
  obtain ⟨at_, _⟩ := I.pin (a, oe) (List.mem_append_left _ List.mem_cons_self)
  obtain ⟨vs, hv⟩ := f
  have hx : ObjOk X.prog X.w H s.heap dd (.xd fs) := I.hok dd _ hdd
  obtain ⟨mA, hns, _⟩ := hx
  obtain ⟨od, ho, _⟩ := lookIn_ns hns
  have J : PySem.W.InstAt s.heap a oe C (some od) := ⟨at_, z.1, by unfold PySem.W.notCls; rw [hv] <;> rfl, by rw [z.2.1]; exact ho⟩
  have hcl : (PySem.W.clsIn X.K C).isSome = true := by
    obtain ⟨cd, hc, _⟩ := PySem.W.any_some ex.hd
    rw [hc]
    rfl
  exact PySem.W.kia_one (PySem.W.kitx_exc hcl ex.hg ex.hk ex.hs ex.ha ex.hn ex.ht ex.hm) I.kIn J hk (fun z => nomatch z) fun tk => ⟨.bl b, H, I.kept (t' := tk) fun _ _ z => z, rfl, q⟩
end FR
set_option maxHeartbeats 2000000
namespace FR
open PySem PySem.Spec PyProof.Rows L2 LamX
/-! ### deeds in a kept purse -/
inductive Wd
  | ride | give | lend | pay | back
def Wd.str : Wd → Str
  | .ride => "ride" | .give => "give" | .lend => "lend" | .pay => "pay" | .back => "back"
/-- done, with the state of then; refused by a class; refused for want of stamps -/
inductive Out
  | ok (k : KS) | ref (i : Nat) | few (n : Int)
def stepK (cs : List Int) (k : KS) : Wd → V → Out
  | .ride, _ => if 0 < k.r then .ok ⟨k.r - 1, k.ss.map (· + 1), k.rd + 1, k.ln⟩ else .ref 7
  | .give, .int i => if 0 ≤ i ∧ i < (cs.length : Int) then (if cs.getD i.toNat 0 ≤ k.ss.getD i.toNat 0 then .ok ⟨k.r + 1, k.ss.set i.toNat (k.ss.getD i.toNat 0 - cs.getD i.toNat 0), k.rd, k.ln⟩ else .few i) else .ref 8
  | .give, _ => .ref 8
  | .lend, .int n => if 1 ≤ n ∧ n ≤ 1000000000000000000 then .ok ⟨k.r + n, k.ss, k.rd, k.ln + n⟩ else .ref 4
  | .lend, _ => .ref 4
  | .pay, .int n => if 1 ≤ n ∧ n ≤ 1000000000000000000 then (if k.ln < n then .ref 9 else if k.r < n then .ref 7 else .ok ⟨k.r - n, k.ss, k.rd, k.ln - n⟩) else .ref 4
  | .pay, _ => .ref 4
  | .back, _ => .ref 10
def outK (cs : List Int) (ks : List KS) (k : KS) (w : Wd) (y : V) : Out :=
  match w with
  | .back => (match ks.getLast? with | some k' => .ok k' | none => .ref 10)
  | w => stepK cs k w y
def newS (w : Wd) (ks : List KS) (k k' : KS) : List KS :=
  match w with
  | .back => ks
  | _ => ks ++ [k] ++ [k']
def nst (w : Wd) (ks : List KS) (k : KS) : Out → List KS
  | .ok k' => newS w ks k k'
  | _ => ks ++ [k]
def outL : Out → List V
  | .ok _ => []
  | .ref i => [.str (kinN i), .bl true]
  | .few n => [.str "TooFew", .int n, .bl true]
/-- a number, or none -/
def NumV (y : V) : Prop := y = .non ∨ y = .bl true ∨ ∃ n, y = .int n
def numD : V → PyData
  | .int n => .int n
  | .bl b => .bool b
  | _ => .none
theorem NumV.dp {K : PySem.W.Frag} {H : Hp} {y : V} (h : NumV y) : Dp K H y (numD y) := by
  rcases h with rfl | rfl | ⟨n, rfl⟩
  · exact .non
  · exact .bl true
  · exact .int n
theorem numD_in {lo hi : Int} {y : V} (h : NumV y) (e : withinD lo hi (numD y) = true) : ∃ n, y = .int n ∧ lo ≤ n ∧ n ≤ hi := by
  rcases h with rfl | rfl | ⟨n, rfl⟩
  · exact nomatch e
  · exact nomatch e
  · have e' : (decide (lo ≤ n) && decide (n ≤ hi)) = true := e
    rw [Bool.and_eq_true, decide_eq_true_eq, decide_eq_true_eq] at e'
    exact ⟨n, rfl, e'.1, e'.2⟩
theorem numD_out {lo hi : Int} {y : V} (h : NumV y) (e : withinD lo hi (numD y) = false) : (∀ n, y ≠ .int n) ∨ ∃ n, y = .int n ∧ ¬ (lo ≤ n ∧ n ≤ hi) := by
  rcases h with rfl | rfl | ⟨n, rfl⟩
  · exact .inl fun n z => nomatch z
  · exact .inl fun n z => nomatch z
  · refine .inr ⟨n, rfl, fun z => ?_⟩
    have e' : (decide (lo ≤ n) && decide (n ≤ hi)) = false := e
    rw [decide_eq_true z.1, decide_eq_true z.2] at e'
    exact nomatch e'
theorem give_out {cs : List Int} {k : KS} {y : V} (h : NumV y) (e : withinD 0 ((cs.length : Int) - 1) (numD y) = false) : stepK cs k .give y = .ref 8 := by
  rcases numD_out h e with z | ⟨n, rfl, z⟩
  · rcases h with rfl | rfl | ⟨n, rfl⟩
    · rfl
    · rfl
    · exact absurd rfl (z n)
  · exact if_neg (fun q => z ⟨q.1, by omega⟩)
theorem give_few {cs : List Int} {k : KS} {i c z : Int} (i0 : 0 ≤ i) (i1 : i < (cs.length : Int)) (hc : cs[i.toNat]? = some c) (hz : k.ss[i.toNat]? = some z) (h : z < c) : stepK cs k .give (.int i) = .few i := by
  show (if 0 ≤ i ∧ i < (cs.length : Int) then (if cs.getD i.toNat 0 ≤ k.ss.getD i.toNat 0 then Out.ok _ else .few i) else .ref 8) = _
  rw [if_pos ⟨i0, i1⟩, List.getD_eq_getElem?_getD, List.getD_eq_getElem?_getD, hc, hz]
  exact if_neg (show ¬ c ≤ z by omega)
theorem give_ok {cs : List Int} {k : KS} {i c z : Int} (i0 : 0 ≤ i) (i1 : i < (cs.length : Int)) (hc : cs[i.toNat]? = some c) (hz : k.ss[i.toNat]? = some z) (h : c ≤ z) : stepK cs k .give (.int i) = .ok ⟨k.r + 1, k.ss.set i.toNat (z - c), k.rd, k.ln⟩ := by
  show (if 0 ≤ i ∧ i < (cs.length : Int) then (if cs.getD i.toNat 0 ≤ k.ss.getD i.toNat 0 then Out.ok _ else .few i) else .ref 8) = _
  rw [if_pos ⟨i0, i1⟩, List.getD_eq_getElem?_getD, List.getD_eq_getElem?_getD, hc, hz]
  exact if_pos h
theorem lend_out {cs : List Int} {k : KS} {y : V} (h : NumV y) (e : withinD 1 1000000000000000000 (numD y) = false) : stepK cs k .lend y = .ref 4 := by
  rcases numD_out h e with z | ⟨n, rfl, z⟩
  · rcases h with rfl | rfl | ⟨n, rfl⟩
    · rfl
    · rfl
    · exact absurd rfl (z n)
  · exact if_neg z
theorem pay_out {cs : List Int} {k : KS} {y : V} (h : NumV y) (e : withinD 1 1000000000000000000 (numD y) = false) : stepK cs k .pay y = .ref 4 := by
  rcases numD_out h e with z | ⟨n, rfl, z⟩
  · rcases h with rfl | rfl | ⟨n, rfl⟩
    · rfl
    · rfl
    · exact absurd rfl (z n)
  · exact if_neg z
structure GoodK (cs : List Int) (k : KS) : Prop where
  len : k.ss.length = cs.length
  nn : ∀ s ∈ k.ss, (0 : Int) ≤ s
  r0 : 0 ≤ k.r
theorem GoodK.step {cs : List Int} {k k' : KS} {w : Wd} {y : V} (g : GoodK cs k) (e : stepK cs k w y = .ok k') : GoodK cs k' := by
  obtain ⟨g1, g2, g3⟩ := g
  cases w with
  | ride =>
    have e' : (if 0 < k.r then Out.ok ⟨k.r - 1, k.ss.map (· + 1), k.rd + 1, k.ln⟩ else .ref 7) = .ok k' := e
    split at e'
    · cases e'
      refine ⟨by rw [List.length_map]; exact g1, fun s hs => ?_, by show 0 ≤ k.r - 1; omega⟩
      obtain ⟨z, hz, rfl⟩ := List.mem_map.mp hs
      have := g2 z hz
      omega
    · cases e'
  | give =>
    cases y with
    | int i =>
      have e' : (if 0 ≤ i ∧ i < (cs.length : Int) then (if cs.getD i.toNat 0 ≤ k.ss.getD i.toNat 0 then Out.ok ⟨k.r + 1, k.ss.set i.toNat (k.ss.getD i.toNat 0 - cs.getD i.toNat 0), k.rd, k.ln⟩ else .few i) else .ref 8) = .ok k' := e
      split at e'
      · split at e'
        · cases e'
          refine ⟨by rw [List.length_set]; exact g1, fun s hs => ?_, by show 0 ≤ k.r + 1; omega⟩
          rcases List.mem_or_eq_of_mem_set hs with h | rfl
          · exact g2 s h
          · omega
        · cases e'
      · cases e'
    | _ => cases e
  | lend =>
    cases y with
    | int n =>
      have e' : (if 1 ≤ n ∧ n ≤ 1000000000000000000 then Out.ok ⟨k.r + n, k.ss, k.rd, k.ln + n⟩ else .ref 4) = .ok k' := e
      split at e'
      · cases e'
        exact ⟨g1, g2, by show 0 ≤ k.r + n; omega⟩
      · cases e'
    | _ => cases e
  | pay =>
    cases y with
    | int n =>
      have e' : (if 1 ≤ n ∧ n ≤ 1000000000000000000 then (if k.ln < n then Out.ref 9 else if k.r < n then .ref 7 else .ok ⟨k.r - n, k.ss, k.rd, k.ln - n⟩) else .ref 4) = .ok k' := e
      split at e'
      · split at e'
        · cases e'
        · split at e'
          · cases e'
          · cases e'
            exact ⟨g1, g2, by show 0 ≤ k.r - n; omega⟩
      · cases e'
    | _ => cases e
  | back => cases e
/-- the stack behind a deed -/
theorem nst_ok {cs : List Int} {ks : List KS} {k : KS} {w : Wd} {y : V} (g : ∀ s ∈ ks ++ [k], GoodK cs s) : ∃ ks' k', nst w ks k (outK cs ks k w y) = ks' ++ [k'] ∧ (∀ s ∈ ks' ++ [k'], GoodK cs s) ∧ ks'.length ≤ ks.length + 1 ∧ (ks' ++ [k']).head? = (ks ++ [k]).head? ∧ ∀ z, outK cs ks k w y = .ok z → z = k' := by
  have step : ∀ (w : Wd), (∀ z, newS w ks k z = ks ++ [k] ++ [z]) → ∃ ks' k', nst w ks k (stepK cs k w y) = ks' ++ [k'] ∧ (∀ s ∈ ks' ++ [k'], GoodK cs s) ∧ ks'.length ≤ ks.length + 1 ∧ (ks' ++ [k']).head? = (ks ++ [k]).head? ∧ ∀ z, stepK cs k w y = .ok z → z = k' := by
    intro w hn
    cases e : stepK cs k w y with
    | ok z =>
      refine ⟨ks ++ [k], z, hn z, fun s hs => ?_, by rw [List.length_append, List.length_singleton]; exact Nat.le_refl _, ?_, fun z' e' => by cases e'; rfl⟩
      · rcases List.mem_append.mp hs with h | h
        · exact g s h
        · rw [List.mem_singleton.mp h]
          exact (g k (List.mem_append_right _ List.mem_cons_self)).step e
      · cases ks with
        | nil => rfl
        | cons a b => rfl
    | ref i => exact ⟨ks, k, rfl, g, by omega, rfl, fun z e' => nomatch e'⟩
    | few n => exact ⟨ks, k, rfl, g, by omega, rfl, fun z e' => nomatch e'⟩
  cases w with
  | ride => exact step .ride fun _ => rfl
  | give => exact step .give fun _ => rfl
  | lend => exact step .lend fun _ => rfl
  | pay => exact step .pay fun _ => rfl
  | back =>
    show ∃ ks' k', nst .back ks k (match ks.getLast? with | some k' => .ok k' | none => .ref 10) = ks' ++ [k'] ∧ _ ∧ _ ∧ _ ∧ ∀ z, (match ks.getLast? with | some k' => Out.ok k' | none => .ref 10) = .ok z → z = k'
    rcases List.eq_nil_or_concat ks with rfl | ⟨l, z, rfl⟩
    · exact ⟨[], k, rfl, g, by simp, rfl, fun z e' => nomatch e'⟩
    · rw [List.concat_eq_append, List.getLast?_append, List.getLast?_singleton]
      refine ⟨l, z, rfl, fun s hs => g s (List.mem_append_left _ (by rw [List.concat_eq_append]; exact hs)), by simp; omega, ?_, fun z' e' => by cases e'; rfl⟩
      cases l with
      | nil => rfl
      | cons a b => rfl
/-! ### what a deed's promise is -/
def FewE (mg : Str → Option Value) (H : Hp) (E : XK) (n : Int) : Prop := ∀ d H' C, Same H H' → mg "TooFew" = some (.ref C) → H' d = some (.xd [("kind", .int n)]) → E (.ref C) (some d) H'
def DueM (mg : Str → Option Value) (K : PySem.W.Frag) (C x sA : Addr) (cs : List Int) (ks : List KS) (k : KS) (w : Wd) (H : Hp) (Q : VK) (E : XK) : Out → Prop
  | .ok k' => ∀ H', But sA H H' → KeptAt C K H' x sA cs (newS w ks k k') → Q .non H'
  | .ref i => RefE mg H E (kinN i)
  | .few n => FewE mg H E n
theorem DueM.mono {mg : Str → Option Value} {K : PySem.W.Frag} {C x sA : Addr} {cs : List Int} {ks : List KS} {k : KS} {w : Wd} {H : Hp} {Q Q' : VK} {E E' : XK} {o : Out} (h : DueM mg K C x sA cs ks k w H Q E o) (hq : ∀ v H', Q v H' → Q' v H') (hx : ∀ c d H', E c d H' → E' c d H') : DueM mg K C x sA cs ks k w H Q' E' o := by
  cases o with
  | ok k' => exact fun H' b y => hq _ _ (h H' b y)
  | ref i => exact RefE.mono h hx
  | few n => exact fun d H' C s g e => hx _ _ _ (h d H' C s g e)
/-- the purse kept at x, and what is to be done with it -/
structure OnK (C : Addr) (K : PySem.W.Frag) (H : Hp) (x sA : Addr) (cs : List Int) (ks : List KS) (k : KS) : Prop where
  at_ : KeptAt C K H x sA cs (ks ++ [k])
  good : GoodK cs k
  c3 : cs.length ≤ 3
  few : ks.length ≤ 100000
def sp_lamD (mg : Str → Option Value) (K : PySem.W.Frag) (C : Addr) : Sp := fun vs H Q E => ∃ (x sA dA : Addr) (cs : List Int) (ks : List KS) (k : KS) (w : Wd) (y c : V), vs = [.ref x, .ref dA, c] ∧ OnK C K H x sA cs ks k ∧ SqT K H dA [.str w.str, y] ∧ NumV y ∧ DueM mg K C x sA cs ks k w H Q E (outK cs ks k w y)
theorem mono_lamD {mg : Str → Option Value} {K : PySem.W.Frag} {C : Addr} : MonoSp (sp_lamD mg K C) := by
  rintro vs H Q Q' E E' ⟨x, sA, dA, cs, ks, k, w, y, c, e, h1, h2, h3, h4⟩ hq hx
  exact ⟨x, sA, dA, cs, ks, k, w, y, c, e, h1, h2, h3, h4.mono hq hx⟩
def sp_lamB (mg : Str → Option Value) (K : PySem.W.Frag) (C : Addr) : Sp := fun vs H Q E => ∃ (x sA : Addr) (cs : List Int) (k : KS) (b c : V), vs = [.ref x, b, c] ∧ KeptAt C K H x sA cs [k] ∧ RefE mg H E "NothingLeft"
theorem mono_lamB {mg : Str → Option Value} {K : PySem.W.Frag} {C : Addr} : MonoSp (sp_lamB mg K C) := by
  rintro vs H Q Q' E E' ⟨x, sA, cs, k, b, c, e, h1, h2⟩ hq hx
  exact ⟨x, sA, cs, k, b, c, e, h1, h2.mono hx⟩
/-! ### data -/
def ksD (k : KS) : PyData := .tuple [.tuple [.int k.r, .tuple (k.ss.map PyData.int)], .int k.rd, .int k.ln]
theorem ks_dp {K : PySem.W.Frag} {H : Hp} {t pA : Addr} {k : KS} (h : SqT K H t [.ref pA, .int k.rd, .int k.ln]) (p : Purse K H pA k.r k.ss) : Dp K H (.ref t) (ksD k) := .tup h (.cons p.dp (.cons (.int _) (.cons (.int _) .nil)))
theorem ks_lay (k : KS) : PyData.canLay0 (ksD k) = true := by
  unfold ksD
  rw [PyData.canLay0, PyData.canLayAll0, PyData.canLayAll0, PyData.canLayAll0, PyData.canLayAll0, due_lay, PyData.canLay0, PyData.canLay0]
  rfl
theorem ks_shaped (k : KS) : SeqAt.shaped (ksD k) = true := by
  unfold SeqAt.shaped
  rw [ks_lay]
  unfold ksD
  rw [PyData.depth, PyData.depthAll, PyData.depthAll, PyData.depthAll, PyData.depthAll, PyData.depth, PyData.depthAll, PyData.depthAll, PyData.depthAll, PyData.depth, PyData.depth, PyData.depth, deep_ints]
  rfl
theorem ks_eqv (k : KS) : PyData.eqv (ksD k) (ksD k) = true := SeqAt.eqv_refl _ (ks_lay k)
def outD : Out → PyData
  | .ok _ => .list []
  | .ref i => .list [.str (kinN i), .bool true]
  | .few n => .list [.str "TooFew", .int n, .bool true]
theorem out_dp {K : PySem.W.Frag} {H : Hp} {p : Addr} : ∀ {o : Out}, H p = some (.lst (outL o)) → Dp K H (.ref p) (outD o)
  | .ok _, e => .lst (SqL.of e) .nil
  | .ref _, e => .lst (SqL.of e) (.cons (.str _) (.cons (.bl _) .nil))
  | .few _, e => .lst (SqL.of e) (.cons (.str _) (.cons (.int _) (.cons (.bl _) .nil)))
theorem kinN_ok : ∀ i : Nat, PyData.strOk (kinN i) = true
  | 0 => by decide +kernel
  | 1 => by decide +kernel
  | 2 => by decide +kernel
  | 3 => by decide +kernel
  | 4 => by decide +kernel
  | 5 => by decide +kernel
  | 6 => by decide +kernel
  | 7 => by decide +kernel
  | 8 => by decide +kernel
  | 9 => by decide +kernel
  | _ + 10 => show PyData.strOk "NothingLeft" = true by decide +kernel
theorem out_lay : ∀ o : Out, PyData.canLay0 (outD o) = true
  | .ok _ => by
    show PyData.canLay0 (.list []) = true
    rw [PyData.canLay0, PyData.canLayAll0]
  | .ref i => by
    show PyData.canLay0 (.list [.str (kinN i), .bool true]) = true
    rw [PyData.canLay0, PyData.canLayAll0, PyData.canLayAll0, PyData.canLayAll0, PyData.canLay0, PyData.canLay0, kinN_ok]
    rfl
  | .few n => by
    show PyData.canLay0 (.list [.str "TooFew", .int n, .bool true]) = true
    rw [PyData.canLay0, PyData.canLayAll0, PyData.canLayAll0, PyData.canLayAll0, PyData.canLayAll0, PyData.canLay0, PyData.canLay0, PyData.canLay0]
    decide +kernel
theorem out_shaped (o : Out) : SeqAt.shaped (outD o) = true := by
  unfold SeqAt.shaped
  rw [out_lay]
  cases o with
  | ok z =>
    show (true && decide (PyData.depth (.list []) ≤ _)) = true
    rw [PyData.depth, PyData.depthAll]
    rfl
  | ref i =>
    show (true && decide (PyData.depth (.list [.str (kinN i), .bool true]) ≤ _)) = true
    rw [PyData.depth, PyData.depthAll, PyData.depthAll, PyData.depthAll, PyData.depth, PyData.depth]
    rfl
  | few n =>
    show (true && decide (PyData.depth (.list [.str "TooFew", .int n, .bool true]) ≤ _)) = true
    rw [PyData.depth, PyData.depthAll, PyData.depthAll, PyData.depthAll, PyData.depthAll, PyData.depth, PyData.depth, PyData.depth]
    rfl
theorem out_eqv (o : Out) : PyData.eqv (outD o) (outD o) = true := SeqAt.eqv_refl _ (out_lay o)
/-- the value that is due -/
def DueV (K : PySem.W.Frag) (H : Hp) : Out → V → Prop
  | .ok k, v => ∃ t pA, v = .ref t ∧ SqT K H t [.ref pA, .int k.rd, .int k.ln] ∧ Purse K H pA k.r k.ss
  | .ref i, v => ∃ p, v = .ref p ∧ H p = some (.lst (outL (.ref i)))
  | .few n, v => ∃ p, v = .ref p ∧ H p = some (.lst (outL (.few n)))
theorem DueV.same {K : PySem.W.Frag} {H H' : Hp} (s : Same H H') : ∀ {o : Out} {v : V}, DueV K H o v → DueV K H' o v
  | .ok _, _, ⟨t, pA, e, h1, h2⟩ => ⟨t, pA, e, Same.seqT s h1, h2.same s⟩
  | .ref _, _, ⟨p, e, h⟩ => ⟨p, e, s _ _ h⟩
  | .few _, _, ⟨p, e, h⟩ => ⟨p, e, s _ _ h⟩
theorem DueV.ext {K : PySem.W.Frag} {H H' : Hp} (s : ExtN H H') : ∀ {o : Out} {v : V}, DueV K H o v → DueV K H' o v
  | .ok _, _, ⟨t, pA, e, h1, h2⟩ => ⟨t, pA, e, ext_seqT s h1, ext_purse s h2⟩
  | .ref _, _, ⟨p, e, h⟩ => ⟨p, e, s _ _ h ntbl_lst⟩
  | .few _, _, ⟨p, e, h⟩ => ⟨p, e, s _ _ h ntbl_lst⟩
/-! ### all that stands in a turn -/
theorem Sts.tk {K : PySem.W.Frag} {H H' : Hp} (tp : ∀ (a : Addr) (xs : List V), SqT K H a xs → SqT K H' a xs) {ts : List Addr} {ks : List KS} (h : Sts K H ts ks) : Sts K H' ts ks := by
  induction h with
  | nil => exact .nil
  | cons h1 h2 _ ih =>
    obtain ⟨z, h3, h4⟩ := h2
    exact .cons (tp _ _ h1) ⟨z, tp _ _ h3, tp _ _ h4⟩ ih
theorem but_tup {K : PySem.W.Frag} {sA : Addr} {H H' : Hp} {ys : List V} (b : But sA H H') (e : H sA = some (.lst ys)) (a : Addr) (xs : List V) (h : SqT K H a xs) : SqT K H' a xs := by
  rcases h with (h | ⟨o, h⟩) | h
  · exact .inl (.inl (b _ _ h (ne_of h e (fun z => nomatch z))))
  · exact .inl (.inr ⟨o, b _ _ h (ne_of h e (fun z => nomatch z))⟩)
  · exact .inr h
theorem DueV.but {K : PySem.W.Frag} {H H' : Hp} {sA : Addr} {ys : List V} {k : KS} {v : V} (b : But sA H H') (e : H sA = some (.lst ys)) (h : DueV K H (.ok k) v) : DueV K H' (.ok k) v := by
  obtain ⟨t, pA, e1, h1, z, h3, h4⟩ := h
  exact ⟨t, pA, e1, but_tup b e _ _ h1, z, but_tup b e _ _ h3, but_tup b e _ _ h4⟩
theorem KeptAt.ext {C : Addr} {K : PySem.W.Frag} {H H' : Hp} {x sA : Addr} {cs : List Int} {ks : List KS} (h : KeptAt C K H x sA cs ks) (s : ExtN H H') : KeptAt C K H' x sA cs ks := by
  obtain ⟨⟨dx, cA, h1, h2⟩, ts, h3, h4⟩ := h
  exact ⟨⟨dx, cA, s _ _ h1 (fun ps z => nomatch z), ext_seqT s h2⟩, ts, s _ _ h3 ntbl_lst, h4.tk fun a xs g => ext_seqT s g⟩
theorem Kq.but {H0 H H' : Hp} {sA : Addr} (k : Kq H0 H) (n : H0 sA = none) (b : But sA H H') : Kq H0 H' := by
  refine ⟨fun a o e h t => b a o (k.keep a o e h t) (ne_of_none e n), fun a d c e => ?_⟩
  obtain ⟨c', e'⟩ := k.bag a d c e
  exact ⟨c', b _ _ e' (ne_of_none e n)⟩
theorem tabs_but {T : List (Addr × Str)} {H H' : Hp} {sA : Addr} {ys : List V} (b : But sA H H') (e : H sA = some (.lst ys)) (t : Tabs T H) : Tabs T H' := by
  intro p hp
  obtain ⟨ps, h1, h2, h3⟩ := t p hp
  refine ⟨ps, b _ _ h1 (ne_of h1 e (fun z => nomatch z)), h2, fun pos cv hc => ?_⟩
  obtain ⟨c, e1, e2⟩ := h3 pos cv hc
  exact ⟨c, e1, b _ _ e2 (ne_of e2 e (fun z => by unfold CodeO at z; exact nomatch z))⟩
structure Turn (C : Addr) (K : PySem.W.Frag) (T : List (Addr × Str)) (H0 H : Hp) (x sA x2 sB tS : Addr) (cs : List Int) (s1 s2 s3 : List KS) : Prop where
  kq : Kq H0 H
  tb : Tabs T H
  k1 : KeptAt C K H x sA cs s1
  k2 : KeptAt C K H x2 sB cs s2
  st : ∃ ts, H tS = some (.lst (ts.map V.ref)) ∧ Sts K H ts s3
  nA : H0 sA = none
  nB : H0 sB = none
  nAB : sA ≠ sB
  n1 : tS ≠ sA
  n2 : tS ≠ sB
section
variable {C : Addr} {K : PySem.W.Frag} {T : List (Addr × Str)} {H0 H H' : Hp} {x sA x2 sB tS : Addr} {cs : List Int} {s1 s2 s3 st : List KS}
theorem Turn.kp (t : Turn C K T H0 H x sA x2 sB tS cs s1 s2 s3) (k : Kp H H') : Turn C K T H0 H' x sA x2 sB tS cs s1 s2 s3 := by
  obtain ⟨ts, h1, h2⟩ := t.st
  exact ⟨t.kq.trans (.of k), k.tabs t.tb, t.k1.kp k, t.k2.kp k, ⟨ts, k.keep _ _ h1 nrefs, h2.kp k⟩, t.nA, t.nB, t.nAB, t.n1, t.n2⟩
theorem Turn.same (t : Turn C K T H0 H x sA x2 sB tS cs s1 s2 s3) (k : Same H H') : Turn C K T H0 H' x sA x2 sB tS cs s1 s2 s3 := t.kp (.of k)
theorem Turn.ext (t : Turn C K T H0 H x sA x2 sB tS cs s1 s2 s3) (s : ExtN H H') (tb : Tabs T H') : Turn C K T H0 H' x sA x2 sB tS cs s1 s2 s3 := by
  obtain ⟨ts, h1, h2⟩ := t.st
  exact ⟨t.kq.trans (.ext s), tb, t.k1.ext s, t.k2.ext s, ⟨ts, s _ _ h1 ntbl_lst, h2.tk fun a xs g => ext_seqT s g⟩, t.nA, t.nB, t.nAB, t.n1, t.n2⟩
theorem Turn.but1 (t : Turn C K T H0 H x sA x2 sB tS cs s1 s2 s3) (b : But sA H H') (k : KeptAt C K H' x sA cs st) : Turn C K T H0 H' x sA x2 sB tS cs st s2 s3 := by
  obtain ⟨ts, h1, h2⟩ := t.st
  obtain ⟨ys, e⟩ := t.k1.lst
  exact ⟨t.kq.but t.nA b, tabs_but b e t.tb, k, t.k2.but b (Ne.symm t.nAB) e, ⟨ts, b _ _ h1 t.n1, h2.tk (but_tup b e)⟩, t.nA, t.nB, t.nAB, t.n1, t.n2⟩
theorem Turn.but2 (t : Turn C K T H0 H x sA x2 sB tS cs s1 s2 s3) (b : But sB H H') (k : KeptAt C K H' x2 sB cs st) : Turn C K T H0 H' x sA x2 sB tS cs s1 st s3 := by
  obtain ⟨ts, h1, h2⟩ := t.st
  obtain ⟨ys, e⟩ := t.k2.lst
  exact ⟨t.kq.but t.nB b, tabs_but b e t.tb, t.k1.but b t.nAB e, k, ⟨ts, b _ _ h1 t.n2, h2.tk (but_tup b e)⟩, t.nA, t.nB, t.nAB, t.n1, t.n2⟩
theorem Turn.news (t : Turn C K T H0 H x sA x2 sB tS cs s1 s2 s3) (s : Same H H') {tN : Addr} {ts : List Addr} (n : H tN = none) (e : H' tN = some (.lst (ts.map V.ref))) (h : Sts K H' ts st) : Turn C K T H0 H' x sA x2 sB tN cs s1 s2 st := by
  obtain ⟨ya, ea⟩ := t.k1.lst
  obtain ⟨yb, eb⟩ := t.k2.lst
  have t' := t.same s
  exact ⟨t'.kq, t'.tb, t'.k1, t'.k2, ⟨ts, e, h⟩, t.nA, t.nB, t.nAB, Ne.symm (ne_of_none ea n), Ne.symm (ne_of_none eb n)⟩
end
/-- what the place says of Kept, for == and isinstance -/
structure KeptE (K : PySem.W.Frag) (C : Addr) : Prop where
  ha : PySem.W.findIn K (.ref C) "__class__" = some (some (.builtin "object.__class__"))
  hn : PySem.W.specialIn K (.builtin "object.__class__") "__get__" = some (some (.builtin "getset_descriptor.__get__"))
  ht : PySem.W.takesIn K (.builtin "object.__class__") = some true
  hm : PySem.W.mroIn K C (.type "object") = some true
  tu : PySem.W.kitOne K (.type "tuple") (.ref C) = some false
  n1 : PySem.W.notFirst K C (.type "tuple") = true
  n2 : PySem.W.notFirst K C (.ref C) = true
end FR
namespace FR
open PySem PySem.Spec PyProof.Rows L2 LamX
theorem atI_two {us : List V} {a b : V} : atI (us ++ [a] ++ [b]) (-2) = some a := by
  unfold atI ixN
  rw [if_neg (by decide), if_pos (by simp; omega), Option.bind_some]
  have e : (-2 + ((us ++ [a] ++ [b]).length : Int)).toNat = us.length := by
    simp
    omega
  rw [e, List.append_assoc, List.getElem?_append_right (Nat.le_refl _), Nat.sub_self]
  rfl
theorem cut_init {us : List V} {a : V} : cutV (us ++ [a]) none (some (-1)) = us := by
  unfold cutV HT.sIx
  have e : (-1 + ((us ++ [a]).length : Int)).toNat = us.length := by
    simp
    omega
  rw [List.drop_zero, Nat.sub_zero]
  show List.take (if (-1 : Int) < 0 then (-1 + ((us ++ [a]).length : Int)).toNat else min (Int.toNat (-1)) (us ++ [a]).length) (us ++ [a]) = us
  rw [if_pos (by decide), e, List.take_append_of_le_length (Nat.le_refl _), List.take_length]
theorem Wd.ne_back {w : Wd} (h : w ≠ .back) : ¬ V.str w.str = V.str "back" := by
  cases w with
  | back => exact absurd rfl h
  | _ => decide +kernel
theorem Wd.is_back {w : Wd} (h : w = .back) : V.str w.str = V.str "back" := by rw [h]; rfl
def wordsL : List V := [.str "ride", .str "ride", .str "ride", .str "give", .str "give", .str "lend", .str "pay", .str "back"]
theorem words_wd {v : V} (h : v ∈ wordsL) : ∃ w : Wd, v = .str w.str := by
  simp only [wordsL, List.mem_cons, List.not_mem_nil, or_false] at h
  rcases h with rfl | rfl | rfl | rfl | rfl | rfl | rfl | rfl
  · exact ⟨.ride, rfl⟩
  · exact ⟨.ride, rfl⟩
  · exact ⟨.ride, rfl⟩
  · exact ⟨.give, rfl⟩
  · exact ⟨.give, rfl⟩
  · exact ⟨.lend, rfl⟩
  · exact ⟨.pay, rfl⟩
  · exact ⟨.back, rfl⟩
def someL (a b c n : Int) : List V := [.int a, .int b, .int c, .int 1, .non, .bl true, .int (-1), .int n]
theorem some_num {a b c n : Int} {v : V} (h : v ∈ someL a b c n) : NumV v := by
  simp only [someL, List.mem_cons, List.not_mem_nil, or_false] at h
  rcases h with rfl | rfl | rfl | rfl | rfl | rfl | rfl | rfl
  · exact .inr (.inr ⟨_, rfl⟩)
  · exact .inr (.inr ⟨_, rfl⟩)
  · exact .inr (.inr ⟨_, rfl⟩)
  · exact .inr (.inr ⟨_, rfl⟩)
  · exact .inl rfl
  · exact .inr (.inl rfl)
  · exact .inr (.inr ⟨_, rfl⟩)
  · exact .inr (.inr ⟨_, rfl⟩)
theorem outK_other {cs : List Int} {ks : List KS} {k : KS} {w : Wd} {y : V} (h : w ≠ .back) : outK cs ks k w y = stepK cs k w y := by
  cases w with
  | back => exact absurd rfl h
  | _ => rfl
theorem newS_other {ks : List KS} {k k' : KS} {w : Wd} (h : w ≠ .back) : newS w ks k k' = ks ++ [k] ++ [k'] := by
  cases w with
  | back => exact absurd rfl h
  | _ => rfl
theorem outK_nil {cs : List Int} {k : KS} {w : Wd} {y : V} (h : w = .back) : outK cs [] k w y = .ref 10 := by rw [h]; rfl
theorem outK_snoc {cs : List Int} {l : List KS} {z k : KS} {w : Wd} {y : V} (h : w = .back) : outK cs (l ++ [z]) k w y = .ok z := by
  rw [h]
  show (match (l ++ [z]).getLast? with | some k' => Out.ok k' | none => .ref 10) = _
  rw [List.getLast?_append, List.getLast?_singleton]
  rfl
theorem step_ref {cs : List Int} {k : KS} {w : Wd} {y : V} {i : Nat} (e : stepK cs k w y = .ref i) : i = 4 ∨ i = 7 ∨ i = 8 ∨ i = 9 ∨ i = 10 := by
  cases w <;> cases y <;> simp only [stepK] at e <;> (repeat' split at e) <;> first | (cases e; simp) | cases e
theorem outK_ref {cs : List Int} {ks : List KS} {k : KS} {w : Wd} {y : V} {i : Nat} (e : outK cs ks k w y = .ref i) : i = 4 ∨ i = 7 ∨ i = 8 ∨ i = 9 ∨ i = 10 := by
  by_cases h : w = .back
  · rcases List.eq_nil_or_concat ks with rfl | ⟨l, z, rfl⟩
    · rw [outK_nil h] at e
      cases e
      simp
    · rw [List.concat_eq_append, outK_snoc h] at e
      cases e
  · rw [outK_other h] at e
    exact step_ref e
theorem viaD {H0 : Hp} (R : V → Hp → Prop) {G : V → Hp → Prop} {P : Prop} (main : (∀ v H', Same H0 H' → R v H' → G v H') → P) (rest : ∀ v H', Same H0 H' → R v H' → G v H') : P := main rest
theorem viaR (R : Addr → Hp → Prop) {G : Addr → Hp → Prop} {P : Prop} (main : (∀ v H', R v H' → G v H') → P) (rest : ∀ v H', R v H' → G v H') : P := main rest
end FR
namespace FR
open PySem PySem.Spec PyProof.Rows L2 LamX
theorem DueV.butK {C : Addr} {K : PySem.W.Frag} {H H' : Hp} {x sA : Addr} {cs : List Int} {st : List KS} (b : But sA H H') (k : KeptAt C K H x sA cs st) : ∀ {o : Out} {v : V}, DueV K H o v → DueV K H' o v := by
  obtain ⟨_, ts, h3, _⟩ := k
  have no : ∀ {p : Addr} {u : Str} {us : List V}, H p = some (.lst (.str u :: us)) → p ≠ sA := fun {p u us} h z => by
    rw [z, h3] at h
    cases ts with
    | nil => cases h
    | cons a l => cases h
  intro o v h
  cases o with
  | ok k => exact h.but b h3
  | ref i =>
    obtain ⟨p, e, h⟩ := h
    exact ⟨p, e, b _ _ h (no h)⟩
  | few n =>
    obtain ⟨p, e, h⟩ := h
    exact ⟨p, e, b _ _ h (no h)⟩
theorem out_no {o : Out} (h : ∀ z, o ≠ .ok z) : PyData.eqv (outD o) (.list []) = false := by
  cases o with
  | ok z => exact absurd rfl (h z)
  | ref i =>
    show PyData.eqv (.list [.str (kinN i), .bool true]) (.list []) = false
    rw [PyData.eqv, PyData.eqvAll]
  | few n =>
    show PyData.eqv (.list [.str "TooFew", .int n, .bool true]) (.list []) = false
    rw [PyData.eqv, PyData.eqvAll]
end FR
namespace FR
open PySem PySem.Spec PyProof.Rows L2
theorem Sts.first {K : PySem.W.Frag} {H : Hp} {ts : List Addr} {st : List KS} {k : KS} (h : Sts K H ts st) (e : st.head? = some k) : ∃ t pA, (ts.map V.ref)[0]? = some (.ref t) ∧ SqT K H t [.ref pA, .int k.rd, .int k.ln] ∧ Purse K H pA k.r k.ss := by
  cases h with
  | nil => cases e
  | cons h1 h2 _ =>
    cases e
    exact ⟨_, _, rfl, h1, h2⟩
end FR
namespace FR
open PySem PySem.Spec PyProof.Rows L2 PySem.W
/-! ### the end -/
theorem kit_tyref {K : PySem.W.Frag} {C : Addr} {n : String} {b : Bool} (hd : PySem.W.hasDictIn K C = true) (ht : PySem.W.typeIn K (.ref C) = some (.type "type")) (h : PySem.W.subIn K (.type n) (.ref C) = some b) : PySem.W.kitOne K (.type n) (.ref C) = some b := by
  unfold PySem.W.kitOne
  rw [if_neg (by intro q; exact nomatch beq_iff_eq.mp q)]
  obtain ⟨cd, hc, _⟩ := PySem.W.any_some hd
  show (if ((PySem.W.clsIn K C).isSome && PySem.W.typeIn K (.ref C) == some (.type "type")) = true then PySem.W.subIn K (.type n) (.ref C) else none) = some b
  have e2 : ((PySem.W.clsIn K C).isSome && PySem.W.typeIn K (.ref C) == some (.type "type")) = true := by rw [hc, ht] <;> rfl
  rw [if_pos e2]
  exact h
def KeptAllE {K : PySem.W.Frag} {h : Heap} (_ : K.In h) (mg : Str → Option Value) (ms : List (Str × Str × Stmt)) : Prop := ∃ C, KeptT K mg C ∧ PySem.W.makesIn K C = true ∧ PySem.W.keepIn K (.ref C) = true ∧ KeptE K C ∧ MethL K C ms
theorem keptAllE_mk {K : PySem.W.Frag} {h : Heap} {mg : Str → Option Value} {C : Addr} {ms : List (Str × Str × Stmt)} (X : K.In h) (G : h.Ns mainGlobals mg) (aC : nsIn K mainGlobals "Kept" = some (some (.ref C)))
    (pg : plainGet K C Str.empty = true) (hd : hasDictIn K C = true) (po : plainOver K C = true) (sa : findIn K (.ref C) "__setattr__" = some (some (.builtin "object.__setattr__"))) (mk : makesIn K C = true) (kc : keepIn K (.ref C) = true) (nC : findIn K (.ref C) "cards" = some none) (nS : findIn K (.ref C) "states" = some none)
    (ha : findIn K (.ref C) "__class__" = some (some (.builtin "object.__class__"))) (hn : specialIn K (.builtin "object.__class__") "__get__" = some (some (.builtin "getset_descriptor.__get__"))) (ht : takesIn K (.builtin "object.__class__") = some true) (hm : mroIn K C (.type "object") = some true)
    (ty : typeIn K (.ref C) = some (.type "type")) (tu : subIn K (.type "tuple") (.ref C) = some false) (n1 : notFirst K C (.type "tuple") = true) (n2 : notFirst K C (.ref C) = true) (ml : MethL K C ms) : KeptAllE X mg ms :=
  ⟨C, ⟨⟨pg, hd, po, sa⟩, nC, nS, mg_of X G aC⟩, mk, kc, ⟨ha, hn, ht, hm, kit_tyref hd ty tu, n1, n2⟩, ml⟩
def TfAll {K : PySem.W.Frag} {h : Heap} (_ : K.In h) (mg : Str → Option Value) (P : Program) (st : Stmt) : Prop := ∃ C f cda cc fd, TfC P K C f cda cc "TooFew.__init__" (defArgs st) (defBody st) (defScope st) fd ∧ mg "TooFew" = some (.ref C) ∧ findIn K (.ref C) "__init__" = some (some (.ref f)) ∧ typeIn K (.ref f) = some (.type "function") ∧ TfX K C
theorem tfAll_mk {K : PySem.W.Frag} {h : Heap} {mg : Str → Option Value} {P : Program} {st : Stmt} {C f cda cc : Addr} {od an cdd cld : Option Addr} {sl ccs csl : Array (Option Value)} {oc kV doc pm ct ccl cl : Value} {vs : Array Value} {fl : Str} {tfl : Tok} {cd : ClassData}
    {nm q : Str} {N : Addr} {bs bm : List Value} {sn : List Str} {sub0 : List Value} {ab : Bool} {col : Option Bool} {dd : Option Addr} {k0 k1 k2 k3 k5 : Option Value} (X : K.In h) (G : h.Ns mainGlobals mg) (aC : nsIn K mainGlobals "TooFew" = some (some (.ref C))) (fI : findIn K (.ref C) "__init__" = some (some (.ref f))) (tI : typeIn K (.ref f) = some (.type "function"))
    (lf : K.lookup f = some ⟨oc, od, .func (fnX "__init__" "TooFew.__init__" (defArgs st) (defBody st) (defScope st) [("__class__", cc)] .none kV doc pm an (.ref cda) ct), sl⟩) (c1 : codeIn K (.ref cda) "TooFew.__init__" = true)
    (lc : K.lookup cda = some ⟨ccl, cdd, .fields vs, ccs⟩) (v2 : vs[2]? = some (.str fl tfl)) (fe : ((P.main.file : Str) == fl) = true) (ll : K.lookup cc = some ⟨cl, cld, .cell (some (.ref C)), csl⟩)
    (hc : clsIn K C = some cd) (al : alongIn K "__init__" ((cd.mro.dropWhile (· != .ref C)).drop 1) = some (some (.builtin "ValueError.__init__"))) (me : mroIn K C (.ref C) = some true) (sv : subIn K (.ref C) (.type "ValueError") = some true) (op : nsIn K cStatics "thirdparty.any" = some none) (top : (P.main.scope.names.lookup ("super" : Str)).isSome = false)
    (lC : K.lookup C = some (excClassObj nm q C N bs bm true sn sub0 ab col dd k0 k1 k2 k3 k5 "ValueError.__new__")) (rv : PySem.HandSPX.refsVE bm = true) (sa : findIn K (.ref C) "__setattr__" = some (some (.builtin "object.__setattr__"))) (exC : subIn K (.ref C) (.type "BaseException") = some true) (tyC : typeIn K (.ref C) = some (.type "type")) (kC : keepIn K (.ref C) = true) (kd : findIn K (.ref C) "kind" = some none)
    (ga : findIn K (.ref C) "__getattribute__" = some (some (.builtin "BaseException.__getattribute__"))) (gg : findIn K (.ref C) "__getattr__" = some none) (hd : hasDictIn K C = true) (ha : findIn K (.ref C) "__class__" = some (some (.builtin "object.__class__"))) (hn : specialIn K (.builtin "object.__class__") "__get__" = some (some (.builtin "getset_descriptor.__get__"))) (ht : takesIn K (.builtin "object.__class__") = some true) (hm : mroIn K C (.type "object") = some true) (sm : subIn K (.ref C) (.ref C) = some true) : TfAll X mg P st := by
  refine ⟨C, f, cda, cc, _, ⟨⟨_, _, _, _, _, rfl⟩, ⟨_, _, _, lf⟩, c1, ⟨_, _, _, _, _, _, lc, v2, fe⟩, ⟨_, _, _, ll⟩, ⟨_, hc, al⟩, me, sv, op, top, ⟨⟨_, _, _, _, _, _, _, _, _, _, _, _, _, _, _, lC, rv⟩, sa, exC, tyC, kC⟩, kd⟩, mg_of X G aC, fI, tI, ⟨⟨ga, gg, exC, hd⟩, kd, ⟨ga, gg, exC, hd, ha, hn, ht, hm⟩, ?_, exm_ref exC hd tyC sm⟩⟩
  unfold PySem.W.kitOne
  rw [if_neg (by intro q; exact nomatch beq_iff_eq.mp q)]
  unfold PySem.W.kitCls
  dsimp only
  rw [if_pos (by decide +kernel)]
  exact sv
end FR
namespace FR
open PySem PySem.Spec PyProof.Rows L2
def topS (i : Nat) : Stmt := PySem.Challenge.pw_freerides_k12_whole_a_purse_kept_deed_by.main.body.getD i (.Pass ⟨0, 0, 0, 0⟩)
/-! ### _law_draws -/
abbrev s_l_draws : Stmt := topS 38
theorem sc_l_draws : FnScope ["cell", "many", "size", "found", "rest", "stirred", "k"] ["cell", "many", "size"] (defScope s_l_draws) := ⟨rfl, rfl, rfl, by decide +kernel, rfl, by decide +kernel, by decide +kernel⟩
def sp_l_draws (K : PySem.W.Frag) : Sp := fun vs H Q E => ∃ (cell : Int), vs = [.int cell, .int 400, .int 1000] ∧ ∀ (p : Addr) (ds : List Int) (H' : Hp), Kp H H' → H p = none → H' p = some (.lst (ds.map V.int)) → ds.length = 400 → (∀ x ∈ ds, (0 : Int) ≤ x ∧ x < 1000) → Q (.ref p) H'
/-! ### _law_cell_at -/
abbrev s_l_cell_at : Stmt := topS 37
theorem sc_l_cell_at : FnScope ["script", "k"] ["script", "k"] (defScope s_l_cell_at) := ⟨rfl, rfl, rfl, by decide +kernel, rfl, by decide +kernel, by decide +kernel⟩
def sp_l_cell_at (K : PySem.W.Frag) : Sp := fun vs H Q E => ∃ (a : Addr) (ns : List Int) (k : Int), vs = [.ref a, .int k] ∧ SqL K H a (ns.map V.int) ∧ 0 ≤ k ∧ ∀ v, Q (.int v) H
/-! ### _law_bag -/
abbrev s_l_bag : Stmt := topS 40
theorem sc_l_bag : FnScope ["script", "k"] ["script", "k"] (defScope s_l_bag) := ⟨rfl, rfl, rfl, by decide +kernel, rfl, by decide +kernel, by decide +kernel⟩
def sp_l_bag (K : PySem.W.Frag) : Sp := fun vs H Q E => ∃ (a : Addr) (ns : List Int) (k : Int), vs = [.ref a, .int k] ∧ SqL K H a (ns.map V.int) ∧ 0 ≤ k ∧ ∀ (p : Addr) (H' : Hp), Kp H H' → Bag H' p → H p = none → Q (.ref p) H'
/-! ### _law_bags -/
abbrev s_l_bags : Stmt := topS 41
theorem sc_l_bags : FnScope ["script", "limit", "k"] ["script", "limit"] (defScope s_l_bags) := ⟨rfl, rfl, rfl, by decide +kernel, rfl, by decide +kernel, by decide +kernel⟩
def sp_l_bags (K : PySem.W.Frag) : Sp := fun vs H Q E => ∃ (a : Addr) (ns : List Int) (m : Int), vs = [.ref a, .int m] ∧ SqL K H a (ns.map V.int) ∧ ns.length ≤ 63 ∧ 0 < m ∧ m ≤ 1000 ∧ ∀ (p : Addr) (bs : List Addr) (H' : Hp), Kp H H' → H p = none → H' p = some (.lst (bs.map V.ref)) → bs.length ≤ 1000 → (∀ b ∈ bs, Bag H' b) → Q (.ref p) H'
/-! ### _law_take -/
abbrev s_l_take : Stmt := topS 42
theorem sc_l_take : FnScope ["bag", "many"] ["bag", "many"] (defScope s_l_take) := ⟨rfl, rfl, rfl, by decide +kernel, rfl, by decide +kernel, by decide +kernel⟩
def sp_l_take (K : PySem.W.Frag) : Sp := fun vs H Q E => ∃ (b : Addr) (m : Int), vs = [.ref b, .int m] ∧ Bag H b ∧ 0 < m ∧ ∀ (r : Int) (H' : Hp), 0 ≤ r → r < m → Kp H H' → Q (.int r) H'
/-! ### _law_kinds -/
abbrev s_l_kinds : Stmt := topS 45
theorem sc_l_kinds : FnScope ["bag", "far", "found", "turn"] ["bag", "far"] (defScope s_l_kinds) := ⟨rfl, rfl, rfl, by decide +kernel, rfl, by decide +kernel, by decide +kernel⟩
def sp_l_kinds (K : PySem.W.Frag) : Sp := fun vs H Q E => ∃ (b : Addr) (fr : Int), vs = [.ref b, .int fr] ∧ Bag H b ∧ 2 ≤ fr ∧ ∀ (p : Addr) (cs : List Int) (H' : Hp), Kp H H' → H' p = some (.tup (cs.map V.int)) → 1 ≤ cs.length → cs.length ≤ 3 → (∀ c ∈ cs, 2 ≤ c ∧ c ≤ fr) → Q (.ref p) H'
/-! ### _law_far_draw -/
abbrev s_l_far_draw : Stmt := topS 43
theorem sc_l_far_draw : FnScope ["bag", "many", "found", "much"] ["bag", "many"] (defScope s_l_far_draw) := ⟨rfl, rfl, rfl, by decide +kernel, rfl, by decide +kernel, by decide +kernel⟩
def sp_l_far_draw (K : PySem.W.Frag) : Sp := fun vs H Q E => ∃ (b : Addr) (m : Int), vs = [.ref b, .int m] ∧ Bag H b ∧ 0 < m ∧ ∀ (r : Int) (H' : Hp), 0 ≤ r → r < m → Kp H H' → Q (.int r) H'
/-! ### _law_stamps_for -/
abbrev s_l_stamps_for : Stmt := topS 46
theorem sc_l_stamps_for : FnScope ["bag", "kinds", "far", "one"] ["bag", "kinds", "far"] (defScope s_l_stamps_for) := ⟨rfl, rfl, rfl, by decide +kernel, rfl, by decide +kernel, by decide +kernel⟩
def sp_l_stamps_for (K : PySem.W.Frag) : Sp := fun vs H Q E => ∃ (b kA : Addr) (cs : List Int) (fr : Int), vs = [.ref b, .ref kA, .int fr] ∧ Bag H b ∧ SqT K H kA (cs.map V.int) ∧ cs.length ≤ 3 ∧ 0 ≤ fr ∧ ∀ (p : Addr) (ss : List Int) (H' : Hp), Kp H H' → H' p = some (.tup (ss.map V.int)) → ss.length = cs.length → (∀ x ∈ ss, 0 ≤ x ∧ x ≤ fr) → Q (.ref p) H'
/-! ### _law_had -/
abbrev s_l_had : Stmt := topS 47
theorem sc_l_had : FnScope ["bag", "kinds", "far"] ["bag", "kinds", "far"] (defScope s_l_had) := ⟨rfl, rfl, rfl, by decide +kernel, rfl, by decide +kernel, by decide +kernel⟩
def sp_l_had (K : PySem.W.Frag) : Sp := fun vs H Q E => ∃ (b kA : Addr) (cs : List Int) (fr : Int), vs = [.ref b, .ref kA, .int fr] ∧ Bag H b ∧ SqT K H kA (cs.map V.int) ∧ cs.length ≤ 3 ∧ 0 ≤ fr ∧ ∀ (p sA : Addr) (r : Int) (ss : List Int) (H' : Hp), Kp H H' → H' p = some (.tup [.int r, .ref sA]) → H' sA = some (.tup (ss.map V.int)) → 0 ≤ r → r ≤ fr → ss.length = cs.length → (∀ x ∈ ss, 0 ≤ x ∧ x ≤ fr) → Q (.ref p) H'
/-! ### is_within -/
abbrev s_p_is_within : Stmt := topS 19
theorem sc_p_is_within : FnScope ["thing", "least", "most"] ["thing", "least", "most"] (defScope s_p_is_within) := ⟨rfl, rfl, rfl, by decide +kernel, rfl, by decide +kernel, by decide +kernel⟩
def sp_p_is_within (K : PySem.W.Frag) : Sp := fun vs H Q E => ∃ (x : V) (d : PyData) (lo hi : Int), vs = [x, .int lo, .int hi] ∧ Dp K H x d ∧ Q (.bl (withinD lo hi d)) H
/-! ### are_cards -/
abbrev s_p_are_cards : Stmt := topS 20
theorem sc_p_are_cards : FnScope ["thing", "full"] ["thing"] (defScope s_p_are_cards) := ⟨rfl, rfl, rfl, by decide +kernel, rfl, by decide +kernel, by decide +kernel⟩
def sp_p_are_cards (K : PySem.W.Frag) : Sp := fun vs H Q E => ∃ (x : V) (d : PyData), vs = [x] ∧ Dp K H x d ∧ ∀ H', Same H H' → Q (.bl (cardsD d)) H'
/-! ### refuse_no_cards -/
abbrev s_p_refuse_no_cards : Stmt := topS 24
theorem sc_p_refuse_no_cards : FnScope ["thing"] ["thing"] (defScope s_p_refuse_no_cards) := ⟨rfl, rfl, rfl, by decide +kernel, rfl, by decide +kernel, by decide +kernel⟩
def sp_p_refuse_no_cards (K : PySem.W.Frag) : Sp := fun vs H Q E => ∃ (x : V) (d : PyData), vs = [x] ∧ Dp K H x d ∧ cardsD d = true ∧ ∀ H', Same H H' → Q .non H'
/-! ### are_stamps -/
abbrev s_p_are_stamps : Stmt := topS 21
theorem sc_p_are_stamps : FnScope ["cards", "thing", "many"] ["cards", "thing"] (defScope s_p_are_stamps) := ⟨rfl, rfl, rfl, by decide +kernel, rfl, by decide +kernel, by decide +kernel⟩
def sp_p_are_stamps (K : PySem.W.Frag) : Sp := fun vs H Q E => ∃ (cA : Addr) (cs : List V) (x : V) (d : PyData), vs = [.ref cA, x] ∧ SqT K H cA cs ∧ cs.length ≤ 3 ∧ Dp K H x d ∧ ∀ H', Same H H' → Q (.bl (stampsD cs.length d)) H'
/-! ### purse_fits -/
abbrev s_p_purse_fits : Stmt := topS 22
theorem sc_p_purse_fits : FnScope ["cards", "thing", "rides", "stamps"] ["cards", "thing"] (defScope s_p_purse_fits) := ⟨rfl, rfl, rfl, by decide +kernel, rfl, by decide +kernel, by decide +kernel⟩
def sp_p_purse_fits (K : PySem.W.Frag) : Sp := fun vs H Q E => ∃ (cA : Addr) (cs : List V) (x : V) (d : PyData), vs = [.ref cA, x] ∧ SqT K H cA cs ∧ cs.length ≤ 3 ∧ Dp K H x d ∧ ∀ H', Same H H' → Q (.bl (purseD cs.length d)) H'
/-! ### refuse_no_purse -/
abbrev s_p_refuse_no_purse : Stmt := topS 25
theorem sc_p_refuse_no_purse : FnScope ["cards", "thing"] ["cards", "thing"] (defScope s_p_refuse_no_purse) := ⟨rfl, rfl, rfl, by decide +kernel, rfl, by decide +kernel, by decide +kernel⟩
def sp_p_refuse_no_purse (K : PySem.W.Frag) : Sp := fun vs H Q E => ∃ (cA : Addr) (cs : List V) (x : V) (d : PyData), vs = [.ref cA, x] ∧ SqT K H cA cs ∧ cs.length ≤ 3 ∧ Dp K H x d ∧ purseD cs.length d = true ∧ ∀ H', Same H H' → Q .non H'
/-! ### Kept.__init__ -/
abbrev s_m_init : Stmt := inClass (topS 35) 0
theorem sc_m_init : FnScope ["self", "cards", "purse"] ["self", "cards", "purse"] (defScope s_m_init) := ⟨rfl, rfl, rfl, by decide +kernel, rfl, by decide +kernel, by decide +kernel⟩
def sp_m_init (K : PySem.W.Frag) (C : Addr) : Sp := fun vs H Q E => ∃ (x dx cA pA : Addr) (cs : List Int) (r : Int) (ss : List Int), vs = [.ref x, .ref cA, .ref pA] ∧ H x = some (.ins C dx []) ∧ SqT K H cA (cs.map V.int) ∧ Purse K H pA r ss ∧ Cards cs ∧ Stamps cs.length ss ∧ 0 ≤ r ∧ r ≤ 1000000000000000000 ∧ ∀ sA H', H sA = none → KeptAt C K H' x sA cs [⟨r, ss, 0, 0⟩] → (∀ b o, H b = some o → b ≠ x → H' b = some o) → Q .non H'
/-! ### _law_step -/
abbrev s_l_step : Stmt := topS 51
theorem sc_l_step : FnScope ["kinds", "had", "deed", "rides", "stamps", "one"] ["kinds", "had", "deed"] (defScope s_l_step) := ⟨rfl, rfl, rfl, by decide +kernel, rfl, by decide +kernel, by decide +kernel⟩
def sp_l_step (K : PySem.W.Frag) : Sp := fun vs H Q E => ∃ (kA pA : Addr) (cs : List Int) (x : Int) (zs : List Int) (d : V), vs = [.ref kA, .ref pA, d] ∧ SqT K H kA (cs.map V.int) ∧ Purse K H pA x zs ∧ zs.length = cs.length ∧ cs.length ≤ 3 ∧ DeedV cs.length d ∧ (¬ Can cs x zs d → ∀ H', Same H H' → Q .non H') ∧ (Can cs x zs d → ∀ p s' H', Same H H' → H' p = some (.tup [.int (aftX x d), .ref s']) → H' s' = some (.tup ((aftS cs zs d).map V.int)) → Q (.ref p) H')
/-! ### _law_from -/
abbrev s_l_from : Stmt := topS 39
theorem sc_l_from : FnScope ["thing", "least", "top"] ["thing", "least", "top"] (defScope s_l_from) := ⟨rfl, rfl, rfl, by decide +kernel, rfl, by decide +kernel, by decide +kernel⟩
def sp_l_from (K : PySem.W.Frag) : Sp := fun vs H Q E => ∃ (x : V) (d : PyData) (lo hi : Int), vs = [x, .int lo, .int hi] ∧ Dp K H x d ∧ Q (.bl (withinD lo hi d)) H
/-! ### _law_after -/
abbrev s_l_after : Stmt := topS 53
theorem sc_l_after : FnScope ["kinds", "state", "deed", "word", "number", "had", "ridden", "lent_so", "there"] ["kinds", "state", "deed"] (defScope s_l_after) := ⟨rfl, rfl, rfl, by decide +kernel, rfl, by decide +kernel, by decide +kernel⟩
def sp_l_after (K : PySem.W.Frag) : Sp := fun vs H Q E => ∃ (kA tA dA pA : Addr) (cs : List Int) (k : KS) (w : Wd) (y : V), vs = [.ref kA, .ref tA, .ref dA] ∧ SqT K H kA (cs.map V.int) ∧ SqT K H tA [.ref pA, .int k.rd, .int k.ln] ∧ Purse K H pA k.r k.ss ∧ SqT K H dA [.str w.str, y] ∧ w ≠ .back ∧ NumV y ∧ GoodK cs k ∧ cs.length ≤ 3 ∧ ∀ v H', Same H H' → DueV K H' (stepK cs k w y) v → Q v H'
/-! ### _law_refused -/
abbrev s_l_refused : Stmt := topS 52
theorem sc_l_refused : FnScope ["call", "one", "two", "three", "kin", "e", "words", "word", "there"] ["call", "one", "two", "three"] (defScope s_l_refused) := ⟨rfl, rfl, rfl, by decide +kernel, rfl, by decide +kernel, by decide +kernel⟩
def sp_l_refused (P : Program) (w : World) (K : PySem.W.Frag) (mg : Str → Option Value) (base : Heap) : Sp := fun vs H Q E => ∃ (f : Addr) (x y z : V) (sp : Sp) (C : Nat → Addr) (tf rd sA : Addr) (ys : List V), vs = [.ref f, x, y, z] ∧ Kin K mg C tf rd ∧ TfX K tf ∧ HeldH P w K mg base 12 f sp H ∧ MonoSp sp ∧ H sA = some (.lst ys) ∧ ∀ H1, Same H H1 → sp [x, y, z] H1 (fun _ H' => But sA H1 H' ∧ ∀ p H'', Same H' H'' → H'' p = some (.lst []) → Q (.ref p) H'') (fun cls d H' => Same H1 H' ∧ ((∃ i, cls = .ref (C i) ∧ d = none ∧ KinOf K C tf rd i ∧ ∀ p H'', Same H' H'' → H'' p = some (.lst [.str (kinN i), .bl true]) → Q (.ref p) H'') ∨ ∃ n dd, cls = .ref tf ∧ d = some dd ∧ H' dd = some (.xd [("kind", .int n)]) ∧ ∀ p H'', Same H' H'' → H'' p = some (.lst [.str "TooFew", .int n, .bl true]) → Q (.ref p) H''))
/-! ### after_ride -/
abbrev s_p_after_ride : Stmt := topS 27
theorem sc_p_after_ride : FnScope ["purse", "rides", "stamps", "many"] ["purse"] (defScope s_p_after_ride) := ⟨rfl, rfl, rfl, by decide +kernel, rfl, by decide +kernel, by decide +kernel⟩
def sp_p_after_ride (K : PySem.W.Frag) : Sp := fun vs H Q E => ∃ (pA : Addr) (x : Int) (zs : List Int), vs = [.ref pA] ∧ Purse K H pA x zs ∧ zs.length ≤ 3 ∧ (¬ 0 < x → Q .non H) ∧ (0 < x → ∀ p s' H', Same H H' → H' p = some (.tup [.int (x - 1), .ref s']) → H' s' = some (.tup ((zs.map (· + 1)).map V.int)) → Q (.ref p) H')
/-! ### Kept.ride -/
abbrev s_m_ride : Stmt := inClass (topS 35) 3
theorem sc_m_ride : FnScope ["self", "held", "ridden", "lent", "after"] ["self"] (defScope s_m_ride) := ⟨rfl, rfl, rfl, by decide +kernel, rfl, by decide +kernel, by decide +kernel⟩
def sp_m_ride (mg : Str → Option Value) (K : PySem.W.Frag) (C : Addr) : Sp := fun vs H Q E => ∃ (x sA : Addr) (cs : List Int) (ks : List KS) (k : KS), vs = [.ref x] ∧ OnK C K H x sA cs ks k ∧ DueM mg K C x sA cs ks k .ride H Q E (stepK cs k .ride .non)
/-! ### is_kind -/
abbrev s_p_is_kind : Stmt := topS 23
theorem sc_p_is_kind : FnScope ["cards", "thing"] ["cards", "thing"] (defScope s_p_is_kind) := ⟨rfl, rfl, rfl, by decide +kernel, rfl, by decide +kernel, by decide +kernel⟩
def sp_p_is_kind (K : PySem.W.Frag) : Sp := fun vs H Q E => ∃ (cA : Addr) (cs : List V) (x : V) (d : PyData), vs = [.ref cA, x] ∧ SqT K H cA cs ∧ Dp K H x d ∧ Q (.bl (withinD 0 ((cs.length : Int) - 1) d)) H
/-! ### after_giving -/
abbrev s_p_after_giving : Stmt := topS 28
theorem sc_p_after_giving : FnScope ["cards", "purse", "kind", "rides", "stamps", "fewer"] ["cards", "purse", "kind"] (defScope s_p_after_giving) := ⟨rfl, rfl, rfl, by decide +kernel, rfl, by decide +kernel, by decide +kernel⟩
def sp_p_after_giving (K : PySem.W.Frag) : Sp := fun vs H Q E => ∃ (cA pA : Addr) (cs : List Int) (x : Int) (zs : List Int) (i c z : Int), vs = [.ref cA, .ref pA, .int i] ∧ SqT K H cA (cs.map V.int) ∧ Purse K H pA x zs ∧ zs.length = cs.length ∧ cs.length ≤ 3 ∧ 0 ≤ i ∧ i < (cs.length : Int) ∧ cs[i.toNat]? = some c ∧ zs[i.toNat]? = some z ∧ (z < c → Q .non H) ∧ (c ≤ z → ∀ p s' H', Same H H' → H' p = some (.tup [.int (x + 1), .ref s']) → H' s' = some (.tup ((zs.set i.toNat (z - c)).map V.int)) → Q (.ref p) H')
/-! ### Kept.give -/
abbrev s_m_give : Stmt := inClass (topS 35) 4
theorem sc_m_give : FnScope ["self", "kind", "held", "ridden", "lent", "after"] ["self", "kind"] (defScope s_m_give) := ⟨rfl, rfl, rfl, by decide +kernel, rfl, by decide +kernel, by decide +kernel⟩
def sp_m_give (mg : Str → Option Value) (K : PySem.W.Frag) (C : Addr) : Sp := fun vs H Q E => ∃ (x sA : Addr) (cs : List Int) (ks : List KS) (k : KS) (y : V), vs = [.ref x, y] ∧ OnK C K H x sA cs ks k ∧ NumV y ∧ DueM mg K C x sA cs ks k .give H Q E (stepK cs k .give y)
/-! ### refuse_no_number -/
abbrev s_p_refuse_no_number : Stmt := topS 26
theorem sc_p_refuse_no_number : FnScope ["thing", "least"] ["thing", "least"] (defScope s_p_refuse_no_number) := ⟨rfl, rfl, rfl, by decide +kernel, rfl, by decide +kernel, by decide +kernel⟩
def sp_p_refuse_no_number (mg : Str → Option Value) (K : PySem.W.Frag) : Sp := fun vs H Q E => ∃ (x : V) (d : PyData) (lo : Int), vs = [x, .int lo] ∧ Dp K H x d ∧ lo = 1 ∧ (withinD lo 1000000000000000000 d = true → Q .non H) ∧ (withinD lo 1000000000000000000 d = false → RefE mg H E "NoNumber")
/-! ### Kept.lend -/
abbrev s_m_lend : Stmt := inClass (topS 35) 5
theorem sc_m_lend : FnScope ["self", "number", "rides", "stamps", "ridden", "lent"] ["self", "number"] (defScope s_m_lend) := ⟨rfl, rfl, rfl, by decide +kernel, rfl, by decide +kernel, by decide +kernel⟩
def sp_m_lend (mg : Str → Option Value) (K : PySem.W.Frag) (C : Addr) : Sp := fun vs H Q E => ∃ (x sA : Addr) (cs : List Int) (ks : List KS) (k : KS) (y : V), vs = [.ref x, y] ∧ OnK C K H x sA cs ks k ∧ NumV y ∧ DueM mg K C x sA cs ks k .lend H Q E (stepK cs k .lend y)
/-! ### Kept.back -/
abbrev s_m_back : Stmt := inClass (topS 35) 7
theorem sc_m_back : FnScope ["self"] ["self"] (defScope s_m_back) := ⟨rfl, rfl, rfl, by decide +kernel, rfl, by decide +kernel, by decide +kernel⟩
def sp_m_back (mg : Str → Option Value) (K : PySem.W.Frag) (C : Addr) : Sp := fun vs H Q E => ∃ (x sA : Addr) (cs : List Int) (ks : List KS) (k : KS), vs = [.ref x] ∧ KeptAt C K H x sA cs (ks ++ [k]) ∧ (ks = [] → RefE mg H E "NothingLeft") ∧ (ks ≠ [] → ∀ H', But sA H H' → KeptAt C K H' x sA cs ks → Q .non H')
/-! ### Kept.pay -/
abbrev s_m_pay : Stmt := inClass (topS 35) 6
theorem sc_m_pay : FnScope ["self", "number", "rides", "stamps", "ridden", "lent"] ["self", "number"] (defScope s_m_pay) := ⟨rfl, rfl, rfl, by decide +kernel, rfl, by decide +kernel, by decide +kernel⟩
def sp_m_pay (mg : Str → Option Value) (K : PySem.W.Frag) (C : Addr) : Sp := fun vs H Q E => ∃ (x sA : Addr) (cs : List Int) (ks : List KS) (k : KS) (y : V), vs = [.ref x, y] ∧ OnK C K H x sA cs ks k ∧ NumV y ∧ DueM mg K C x sA cs ks k .pay H Q E (stepK cs k .pay y)
/-! ### _law_do -/
abbrev s_l_do : Stmt := topS 54
theorem sc_l_do : FnScope ["kept", "deed", "word", "number"] ["kept", "deed"] (defScope s_l_do) := ⟨rfl, rfl, rfl, by decide +kernel, rfl, by decide +kernel, by decide +kernel⟩
def sp_l_do (mg : Str → Option Value) (K : PySem.W.Frag) (C : Addr) : Sp := fun vs H Q E => ∃ (x sA dA : Addr) (cs : List Int) (ks : List KS) (k : KS) (w : Wd) (y : V), vs = [.ref x, .ref dA] ∧ OnK C K H x sA cs ks k ∧ SqT K H dA [.str w.str, y] ∧ NumV y ∧ DueM mg K C x sA cs ks k w H Q E (outK cs ks k w y)
/-! ### Kept.__len__ -/
abbrev s_m_len : Stmt := inClass (topS 35) 1
theorem sc_m_len : FnScope ["self"] ["self"] (defScope s_m_len) := ⟨rfl, rfl, rfl, by decide +kernel, rfl, by decide +kernel, by decide +kernel⟩
def sp_m_len (K : PySem.W.Frag) (C : Addr) : Sp := fun vs H Q E => ∃ (x sA : Addr) (cs : List Int) (ks : List KS), vs = [.ref x] ∧ KeptAt C K H x sA cs ks ∧ Q (.int (cs.length : Nat)) H
/-! ### Kept.lent -/
abbrev s_m_lent : Stmt := inClass (topS 35) 10
theorem sc_m_lent : FnScope ["self"] ["self"] (defScope s_m_lent) := ⟨rfl, rfl, rfl, by decide +kernel, rfl, by decide +kernel, by decide +kernel⟩
def sp_m_lent (K : PySem.W.Frag) (C : Addr) : Sp := fun vs H Q E => ∃ (x sA : Addr) (cs : List Int) (ks : List KS) (k : KS), vs = [.ref x] ∧ KeptAt C K H x sA cs (ks ++ [k]) ∧ Q (.int k.ln) H
/-! ### Kept.ridden -/
abbrev s_m_ridden : Stmt := inClass (topS 35) 9
theorem sc_m_ridden : FnScope ["self"] ["self"] (defScope s_m_ridden) := ⟨rfl, rfl, rfl, by decide +kernel, rfl, by decide +kernel, by decide +kernel⟩
def sp_m_ridden (K : PySem.W.Frag) (C : Addr) : Sp := fun vs H Q E => ∃ (x sA : Addr) (cs : List Int) (ks : List KS) (k : KS), vs = [.ref x] ∧ KeptAt C K H x sA cs (ks ++ [k]) ∧ Q (.int k.rd) H
/-! ### Kept.purse -/
abbrev s_m_purse : Stmt := inClass (topS 35) 8
theorem sc_m_purse : FnScope ["self"] ["self"] (defScope s_m_purse) := ⟨rfl, rfl, rfl, by decide +kernel, rfl, by decide +kernel, by decide +kernel⟩
def sp_m_purse (K : PySem.W.Frag) (C : Addr) : Sp := fun vs H Q E => ∃ (x sA : Addr) (cs : List Int) (ks : List KS) (k : KS), vs = [.ref x] ∧ KeptAt C K H x sA cs (ks ++ [k]) ∧ ∀ pA, Purse K H pA k.r k.ss → Q (.ref pA) H
/-! ### Kept.__eq__ -/
abbrev s_m_eq : Stmt := inClass (topS 35) 2
theorem sc_m_eq : FnScope ["self", "other"] ["self", "other"] (defScope s_m_eq) := ⟨rfl, rfl, rfl, by decide +kernel, rfl, by decide +kernel, by decide +kernel⟩
def sp_m_eq (K : PySem.W.Frag) (C : Addr) : Sp := fun vs H Q E => ∃ (x : Addr) (y : V), vs = [.ref x, y] ∧ KeptE K C ∧ ((∃ tA xs, y = .ref tA ∧ SqT K H tA xs ∧ Q (.bl false) H) ∨ ∃ (x2 sA sB : Addr) (cs : List Int) (ks : List KS) (k : KS) (ks2 : List KS) (k2 : KS), y = .ref x2 ∧ KeptAt C K H x sA cs (ks ++ [k]) ∧ KeptAt C K H x2 sB cs (ks2 ++ [k2]) ∧ Q (.bl (PyData.eqv (ksD k) (ksD k2))) H)
/-! ### period_of -/
abbrev s_p_period_of : Stmt := topS 30
theorem sc_p_period_of : FnScope ["cards", "period", "full", "step"] ["cards"] (defScope s_p_period_of) := ⟨rfl, rfl, rfl, by decide +kernel, rfl, by decide +kernel, by decide +kernel⟩
def sp_p_period_of (K : PySem.W.Frag) : Sp := fun vs H Q E => ∃ (cA : Addr) (cs : List Int), vs = [.ref cA] ∧ SqT K H cA (cs.map V.int) ∧ Cards cs ∧ Q (.int (perOf cs)) H
/-! ### period_pays -/
abbrev s_p_period_pays : Stmt := topS 32
theorem sc_p_period_pays : FnScope ["cards", "period", "full"] ["cards"] (defScope s_p_period_pays) := ⟨rfl, rfl, rfl, by decide +kernel, rfl, by decide +kernel, by decide +kernel⟩
def sp_p_period_pays (K : PySem.W.Frag) : Sp := fun vs H Q E => ∃ (cA : Addr) (cs : List Int), vs = [.ref cA] ∧ SqT K H cA (cs.map V.int) ∧ Cards cs ∧ ∀ b H', Same H H' → (b = true ↔ perOf cs ≤ pq (perOf cs) cs) → Q (.bl b) H'
/-! ### full_cards -/
abbrev s_p_full_cards : Stmt := topS 31
theorem sc_p_full_cards : FnScope ["cards", "stamps", "ridden", "full", "many"] ["cards", "stamps", "ridden"] (defScope s_p_full_cards) := ⟨rfl, rfl, rfl, by decide +kernel, rfl, by decide +kernel, by decide +kernel⟩
def sp_p_full_cards (K : PySem.W.Frag) : Sp := fun vs H Q E => ∃ (cA sA : Addr) (cs ss : List Int) (n : Int), vs = [.ref cA, .ref sA, .int n] ∧ SqT K H cA (cs.map V.int) ∧ SqT K H sA (ss.map V.int) ∧ cs.length = ss.length ∧ Cards cs ∧ ∀ H', Same H H' → Q (.int (fc cs ss n)) H'
/-! ### rides_in_all -/
abbrev s_p_rides_in_all : Stmt := topS 33
theorem sc_p_rides_in_all : FnScope ["cards", "purse", "rides", "stamps", "pays", "period", "had", "paid"] ["cards", "purse"] (defScope s_p_rides_in_all) := ⟨rfl, rfl, rfl, by decide +kernel, rfl, by decide +kernel, by decide +kernel⟩
def sp_p_rides_in_all (K : PySem.W.Frag) : Sp := fun vs H Q E => ∃ (cA pA : Addr) (cs : List Int) (r : Int) (ss : List Int), vs = [.ref cA, .ref pA] ∧ SqT K H cA (cs.map V.int) ∧ Purse K H pA r ss ∧ Cards cs ∧ (ss.length = cs.length ∧ ∀ x ∈ ss, (0 : Int) ≤ x) ∧ 0 ≤ r ∧ ∀ v H', Same H H' → ToldV cs r ss v → Q v H'
/-! ### Kept.still -/
abbrev s_m_still : Stmt := inClass (topS 35) 11
theorem sc_m_still : FnScope ["self"] ["self"] (defScope s_m_still) := ⟨rfl, rfl, rfl, by decide +kernel, rfl, by decide +kernel, by decide +kernel⟩
def sp_m_still (K : PySem.W.Frag) (C : Addr) : Sp := fun vs H Q E => ∃ (x sA : Addr) (cs : List Int) (ks : List KS) (k : KS), vs = [.ref x] ∧ KeptAt C K H x sA cs (ks ++ [k]) ∧ Cards cs ∧ k.ss.length = cs.length ∧ (∀ y ∈ k.ss, (0 : Int) ≤ y) ∧ 0 ≤ k.r ∧ ∀ v H', Same H H' → ToldV cs k.r k.ss v → Q v H'
/-! ### _law_paid -/
abbrev s_l_paid : Stmt := topS 48
theorem sc_l_paid : FnScope ["kinds", "had", "rides", "found", "stamps", "many"] ["kinds", "had", "rides"] (defScope s_l_paid) := ⟨rfl, rfl, rfl, by decide +kernel, rfl, by decide +kernel, by decide +kernel⟩
def sp_l_paid (K : PySem.W.Frag) : Sp := fun vs H Q E => ∃ (kA pA : Addr) (cs : List Int) (r : Int) (ss : List Int) (n : Int), vs = [.ref kA, .ref pA, .int n] ∧ SqT K H kA (cs.map V.int) ∧ Purse K H pA r ss ∧ Cards cs ∧ ss.length = cs.length ∧ ∀ H', Same H H' → Q (.int (r + fc cs ss n)) H'
/-! ### _law_common -/
abbrev s_l_common : Stmt := topS 44
theorem sc_l_common : FnScope ["one", "other"] ["one", "other"] (defScope s_l_common) := ⟨rfl, rfl, rfl, by decide +kernel, rfl, by decide +kernel, by decide +kernel⟩
def sp_l_common (K : PySem.W.Frag) : Sp := fun vs H Q E => ∃ (x y : Int), vs = [.int x, .int y] ∧ 0 < x ∧ 0 < y ∧ ∀ g, 0 < g → g ∣ x → g ∣ y → Q (.int g) H
/-! ### _law_whole -/
abbrev s_l_whole : Stmt := topS 49
theorem sc_l_whole : FnScope ["kinds", "found", "many"] ["kinds"] (defScope s_l_whole) := ⟨rfl, rfl, rfl, by decide +kernel, rfl, by decide +kernel, by decide +kernel⟩
def sp_l_whole (K : PySem.W.Frag) : Sp := fun vs H Q E => ∃ (kA : Addr) (cs : List Int), vs = [.ref kA] ∧ SqT K H kA (cs.map V.int) ∧ Cards cs ∧ ∀ W, 1 ≤ W → W ≤ 8000 → (∀ c ∈ cs, c ∣ W) → Q (.int W) H
/-! ### _law_wears -/
abbrev s_l_wears : Stmt := topS 50
theorem sc_l_wears : FnScope ["kinds", "whole", "many"] ["kinds"] (defScope s_l_wears) := ⟨rfl, rfl, rfl, by decide +kernel, rfl, by decide +kernel, by decide +kernel⟩
def sp_l_wears (K : PySem.W.Frag) : Sp := fun vs H Q E => ∃ (kA : Addr) (cs : List Int), vs = [.ref kA] ∧ SqT K H kA (cs.map V.int) ∧ Cards cs ∧ ∀ b H', Same H H' → (b = true ↔ pq (perOf cs) cs < perOf cs) → Q (.bl b) H'
/-! ### _law_rest -/
abbrev s_l_rest : Stmt := topS 55
theorem sc_l_rest : FnScope ["kinds", "had", "rides", "more"] ["kinds", "had"] (defScope s_l_rest) := ⟨rfl, rfl, rfl, by decide +kernel, rfl, by decide +kernel, by decide +kernel⟩
def sp_l_rest (K : PySem.W.Frag) : Sp := fun vs H Q E => ∃ (kA pA : Addr) (cs : List Int) (r : Int) (ss : List Int), vs = [.ref kA, .ref pA] ∧ SqT K H kA (cs.map V.int) ∧ Purse K H pA r ss ∧ Cards cs ∧ ss.length = cs.length ∧ (∀ x ∈ ss, (0 : Int) ≤ x) ∧ 0 ≤ r ∧ ∀ v H', Same H H' → ToldV cs r ss v → Q v H'
/-! ### law -/
abbrev s_l_law : Stmt := topS 56
theorem sc_l_law : FnScope ["script", "bag", "kinds", "had", "kept", "other", "states", "turn", "word", "some", "number", "deed", "due", "kin"] ["script"] (defScope s_l_law) := ⟨rfl, rfl, rfl, by decide +kernel, rfl, by decide +kernel, by decide +kernel⟩
abbrev T_l_law (P0 : Addr) : List (Addr × Str) := [(P0, Str.ofString "law.<locals>." ++ "<lambda>")]
def sp_l_law (K : PySem.W.Frag) (P0 : Addr) : Sp := fun vs H Q E => ∃ (a : Addr) (ns : List Int), vs = [.ref a] ∧ SqL K H a (ns.map V.int) ∧ ns.length ≤ 63 ∧ LamX.Tabs (T_l_law P0) H ∧ ∀ H', Q (.bl true) H'
/-! ### TooFew.__init__ -/
abbrev s_tf : Stmt := inClass (topS 13) 0
set_option maxHeartbeats 4000000 in
theorem tfT_of {P : Program} {w : World} {K : PySem.W.Frag} {mg : Str → Option Value} {base : Heap} {C f cda cc : Addr} {fd : FuncData} (T : TfC P K C f cda cc "TooFew.__init__" (defArgs s_tf) (defBody s_tf) (defScope s_tf) fd) (hsup : mg "super" = none) (g : mg "TooFew" = some (.ref C)) (iC : PySem.W.findIn K (.ref C) "__init__" = some (some (.ref f))) (tI : PySem.W.typeIn K (.ref f) = some (.type "function")) : TfT P w K mg base C := by
  refine ⟨T.ox, g, f, fd, iC, tI, ?_, ?_⟩
  · refine ok_tf T hsup (NdefX.nscope_by (by decide +kernel)) (by decide +kernel) rfl rfl rfl _ (fun _ => rfl) (fun _ => rfl) (fun _ => rfl) (fun _ => rfl) _ (fun A outer s H E => pe_joined (PJ.cons pe_str (PJ.cons (pe_fmt (pv 1)) PJ.nil))) ?_
    intro a k H Q k0 k2 q
    have : k = 0 ∨ k = 1 ∨ k = 2 := by omega
    rcases this with rfl | rfl | rfl
    · exact ⟨_, rfl, by decide +kernel, _, rfl, .inr ⟨0, rfl, by decide, _, rfl, by decide +kernel, q _⟩⟩
    · exact ⟨_, rfl, by decide +kernel, _, rfl, .inr ⟨1, rfl, by decide, _, rfl, by decide +kernel, q _⟩⟩
    · exact ⟨_, rfl, by decide +kernel, _, rfl, .inr ⟨2, rfl, by decide, _, rfl, by decide +kernel, q _⟩⟩
  · obtain ⟨kV, doc, pm, an, ct, rfl⟩ := T.fdq
    exact .all fun us hl => match us, hl with | [_, _], _ => rfl
set_option maxHeartbeats 4000000 in
theorem ok_l_draws {P : Program} {w : World} {K : PySem.W.Frag} {mg : Str → Option Value} {base : Heap} {f : Addr} {fd : FuncData} (F : Fun K "_law_draws" "_law_draws" s_l_draws f fd) (b_int : mg "int" = none) (b_range : mg "range" = none) :
    FnOk P w K mg base CX0 1 f fd ["cell", "many", "size"] (sp_l_draws K) := by
  refine F.ok sc_l_draws (fun vs H Q E h => ?_) (fun cdv A outer s H vs Q E hr h => ?_)
  · obtain ⟨cell, rfl, q⟩ := h
    rfl
  obtain ⟨cell, rfl, q⟩ := h
  refine ⟨_, (pss_cons (ps_set (i := 3) sc_l_draws.nd rfl (Or.inl rfl) (pe_lst pa_nil))
        (pss_cons (ps_set (i := 4) sc_l_draws.nd rfl (Or.inl rfl) (pe_op op_mul (pv 0) (pe_callTy call_int1 (by rfl) b_int PyProof.Rows.boot_int (pa_cons (pe_cmpR op_ge (pv 0) (pe_op op_pow pe_int pe_int) (nomark _)) pa_nil))))
        (pss_cons (ps_set (i := 5) sc_l_draws.nd rfl (Or.inl rfl) (pe_op op_mod (pv 0) pe_int))
        (pss_cons (ps_for PassesOwn.never rfl (pi_range1 rfl b_range (pa_cons (pe_op op_add (pv 1) pe_int) pa_nil)) (pg_name (i := 6) sc_l_draws.nd rfl (Or.inl rfl)) (pss_cons (ps_set (i := 5) sc_l_draws.nd rfl (Or.inl rfl) (pe_op op_mod (pe_op op_add (pe_op op_add (pe_op op_add (pe_op op_mul (pv 5) (pv 5)) (pe_op op_mul pe_int (pv 5))) (pv 6)) pe_int) pe_int))
        (pss_one (ps_if (PW.pt (pw_and (pt_cmpR op_gt (pv 6) pe_int (nomark _)) (pw_and1 (pt_cmpR op_gt (pv 4) pe_int (nomark _))))) (pss_cons (ps_expr (pe_bm PySem.F.plainAttrs_list PySem.F.slot_list_append PySem.F.type_list_append mt_append (pv 3) (pa_cons (pe_op op_mod (pv 4) (pv 2)) pa_nil)))
        (pss_one (ps_set (i := 4) sc_l_draws.nd rfl (Or.inl rfl) (pe_op op_fdiv (pv 4) (pv 2))))) (pss_one (ps_if (pt_cmpR op_gt (pv 6) pe_int (nomark _)) (pss_one (ps_expr (pe_bm PySem.F.plainAttrs_list PySem.F.slot_list_append PySem.F.type_list_append mt_append (pv 3) (pa_cons (pe_op op_mod (pe_op op_fdiv (pv 5) pe_int) (pv 2)) pa_nil)))) pss_nil))))))
        (pss_one (ps_ret (pv 3))))))), ?_⟩
  refine ⟨Nat.zero_le _, fun p np => ?_⟩
  refine ⟨_, rfl, _, rfl, _, _, rfl, rfl, ⟨by decide, by decide, by decide⟩, _, _, rfl, rfl, .inr ⟨_, rfl, _, _, rfl, rfl, .inr ?_, ?_⟩⟩
  · split <;> decide
  refine ⟨_, rfl, _, _, rfl, rfl, p0, ?_⟩
  refine ⟨_, rfl, _, _, rfl, rfl, _, rfl, by decide, by decide, ?_⟩
  refine for_range (lo := 0) (n := 403) (fun i σ H' => ∃ (r st : Int) (ds : List Int) (y : Option V), σ = [some (.int cell), some (.int 400), some (.int 1000), some (.ref p), some (.int r), some (.int st), y] ∧ Kp H H' ∧ H' p = some (.lst (ds.map V.int)) ∧ ds.length = i - 3 ∧ (∀ x ∈ ds, (0 : Int) ≤ x ∧ x < 1000) ∧ 0 ≤ st ∧ st < 2305843009213693951) ?_ ?_ ?_
  · exact ⟨_, _, [], _, rfl, .new (.refl H) np, upd_same, rfl, (fun x hx => nomatch hx), Int.emod_nonneg _ (by decide), Int.emod_lt_of_pos _ (by decide)⟩
  · rintro i σ H' hi ⟨r, st, ds, y, rfl, sm, e, hl, hd, h0, h1⟩
    refine ⟨_, rfl, _, rfl, _, _, rfl, rfl, .inl ⟨by omega, by omega⟩, _, rfl, _, _, rfl, rfl, .inl ⟨by decide, by decide⟩, _, _, rfl, rfl, _, rfl, _, _, rfl, rfl, _, _, rfl, rfl, _, _, rfl, rfl, p0, ?_⟩
    have hz : ∀ z : Int, 0 ≤ z % 2305843009213693951 ∧ z % 2305843009213693951 < 2305843009213693951 := fun z => ⟨Int.emod_nonneg _ (by decide), Int.emod_lt_of_pos _ (by decide)⟩
    have hx : ∀ z : Int, ∀ x ∈ ds ++ [z % 1000], (0 : Int) ≤ x ∧ x < 1000 := fun z x hx => by
      rcases List.mem_append.mp hx with g | g
      · exact hd x g
      · rw [List.mem_singleton.mp g]
        exact ⟨Int.emod_nonneg _ (by decide), Int.emod_lt_of_pos _ (by decide)⟩
    have hb : (ds.map V.int).length < sizeLine := by
      rw [List.length_map]
      exact small1000 (by omega)
    refine ⟨_, rfl, _, _, rfl, rfl, _, rfl, ite2 (fun c => ?_) (fun c => ?_)⟩
    · have c' := of_decide_eq_true c
      refine ⟨_, rfl, _, _, rfl, rfl, _, rfl, ite2 (fun c2 => ?_) (fun c2 => ?_)⟩
      · refine ⟨_, rfl, .inl ⟨rfl, _, SqL.of e⟩, _, rfl, _, rfl, _, _, rfl, rfl, p0, p, _, _, rfl, rfl, e, hb, ?_⟩
        refine ⟨_, rfl, _, rfl, _, _, rfl, rfl, ⟨by decide, by decide⟩, ?_⟩
        refine ⟨_, _, ds ++ [r % 1000], _, rfl, sm.fresh np, ?_, ?_, hx _, (hz _).1, (hz _).2⟩
        · rw [upd_same, List.map_append]
          rfl
        · rw [List.length_append, List.length_singleton]
          omega
      · refine ⟨_, rfl, _, _, rfl, rfl, _, rfl, ite2 (fun c3 => ?_) (fun c3 => absurd c c3)⟩
        refine ⟨_, rfl, .inl ⟨rfl, _, SqL.of e⟩, _, rfl, _, _, rfl, rfl, ⟨by decide, by decide⟩, _, rfl, _, _, rfl, rfl, p0, p, _, _, rfl, rfl, e, hb, ?_⟩
        refine ⟨_, _, ds ++ [(st * st + 48271 * st + (0 + (i : Int)) + 1) % 2305843009213693951 / 4096 % 1000], _, rfl, sm.fresh np, ?_, ?_, hx _, (hz _).1, (hz _).2⟩
        · rw [upd_same, List.map_append]
          rfl
        · rw [List.length_append, List.length_singleton]
          omega
    · refine iteF ⟨_, rfl, _, _, rfl, rfl, _, rfl, ite2 (fun c3 => absurd c3 c) (fun c3 => ?_)⟩
      have c' : ¬ ((2 : Int) < 0 + (i : Int)) := fun z => c (decide_eq_true z)
      exact ⟨_, _, ds, _, rfl, sm, e, by omega, hd, (hz _).1, (hz _).2⟩
  · rintro σ H' ⟨r, st, ds, y, rfl, sm, e, hl, hd, h0, h1⟩
    exact ⟨_, rfl, q p ds H' sm np e hl hd⟩
set_option maxHeartbeats 4000000 in
theorem ok_l_cell_at {P : Program} {w : World} {K : PySem.W.Frag} {mg : Str → Option Value} {base : Heap} {f : Addr} {fd : FuncData} (F : Fun K "_law_cell_at" "_law_cell_at" s_l_cell_at f fd) (b_len : mg "len" = none) :
    FnOk P w K mg base CX0 1 f fd ["script", "k"] (sp_l_cell_at K) := by
  refine F.ok sc_l_cell_at (fun vs H Q E h => ?_) (fun cdv A outer s H vs Q E hr h => ?_)
  · obtain ⟨a, ns, k, rfl, hS, h0, q⟩ := h
    rfl
  obtain ⟨a, ns, k, rfl, hS, h0, q⟩ := h
  refine ⟨_, (pss_cons (ps_if (pt_cmpR op_lt (pv 1) (pe_callB call_len_seq (by rfl) b_len PySem.boot_len (pa_cons (pv 0) pa_nil)) (nomark _)) (pss_one (ps_ret (pe_ix ix_list (pv 0) (pv 1) (fun _ _ => rfl)))) pss_nil)
        (pss_one (ps_ret pe_int))), ?_⟩
  refine ⟨_, rfl, _, rfl, a, _, rfl, .inl hS, _, _, rfl, rfl, _, rfl, ite2 (fun c => ?_) (fun c => ?_)⟩
  · have c' := of_decide_eq_true c
    rw [List.length_map] at c'
    obtain ⟨v, _, _, hv⟩ := at_int h0 c'
    exact ⟨_, rfl, _, rfl, a, _, _, _, rfl, rfl, hS, hv, q v⟩
  · exact q 0
set_option maxHeartbeats 4000000 in
theorem ok_l_bag {P : Program} {w : World} {K : PySem.W.Frag} {mg : Str → Option Value} {base : Heap} {f : Addr} {fd : FuncData} (F : Fun K "_law_bag" "_law_bag" s_l_bag f fd) (D_l_draws : Def P w K mg base "_law_draws" 1 ["cell", "many", "size"] (sp_l_draws K)) (D_l_cell_at : Def P w K mg base "_law_cell_at" 1 ["script", "k"] (sp_l_cell_at K)) :
    FnOk P w K mg base CX0 2 f fd ["script", "k"] (sp_l_bag K) := by
  refine F.ok sc_l_bag (fun vs H Q E h => ?_) (fun cdv A outer s H vs Q E hr h => ?_)
  · obtain ⟨a, ns, k, rfl, hS, h0, q⟩ := h
    rfl
  obtain ⟨a, ns, k, rfl, hS, h0, q⟩ := h
  refine ⟨_, (pss_one (ps_ret (pe_lst (pa_cons (pe_def D_l_draws hr (pa_cons (pe_def D_l_cell_at hr (pa_cons (pv 0) (pa_cons (pv 1) pa_nil))) (pa_cons pe_int (pa_cons pe_int pa_nil)))) (pa_cons pe_int pa_nil))))), ?_⟩
  refine ⟨_, rfl, _, rfl, a, ns, k, rfl, hS, h0, fun v => ?_⟩
  refine ⟨v, rfl, fun d ds H1 k1 nd e hl hd => ?_⟩
  refine ⟨(by show 2 ≤ sizeLine; decide), fun p np => ?_⟩
  refine q p _ (k1.new np) ⟨d, 0, ds, upd_same, ?_, hl, hd⟩ (k1.none np)
  rw [upd_ne (ne_of_none e np)]
  exact e
set_option maxHeartbeats 4000000 in
theorem ok_l_bags {P : Program} {w : World} {K : PySem.W.Frag} {mg : Str → Option Value} {base : Heap} {f : Addr} {fd : FuncData} (F : Fun K "_law_bags" "_law_bags" s_l_bags f fd) (D_l_bag : Def P w K mg base "_law_bag" 2 ["script", "k"] (sp_l_bag K)) (b_range : mg "range" = none) (b_max : mg "max" = none) (b_min : mg "min" = none) (b_len : mg "len" = none) :
    FnOk P w K mg base CX0 3 f fd ["script", "limit"] (sp_l_bags K) := by
  refine F.ok sc_l_bags (fun vs H Q E h => ?_) (fun cdv A outer s H vs Q E hr h => ?_)
  · obtain ⟨a, ns, m, rfl, hS, h63, m0, m1, q⟩ := h
    rfl
  obtain ⟨a, ns, m, rfl, hS, h63, m0, m1, q⟩ := h
  refine ⟨_, (pss_one (ps_ret (pe_lc (own := [("k", 2)]) (g := gName 2) (tt := tYes) rfl sc_l_bags.nd (pi_range1 rfl b_range (pa_cons (pe_callB (call_max2 rfl) (by rfl) b_max PyProof.Rows.boot_max (pa_cons pe_int (pa_cons (pe_callB (call_min2 rfl) (by rfl) b_min PyProof.Rows.boot_min (pa_cons (pv 1) (pa_cons (pe_callB call_len_seq (by rfl) b_len PySem.boot_len (pa_cons (pv 0) pa_nil)) pa_nil))) pa_nil))) pa_nil)) (blkOk_by (own := [("k", 2)]) (N := ["script", "limit", "k"]) (sc := defScope s_l_bags) (by decide +kernel)) (fun _ _ _ _ _ => (pg_name (i := 2) sc_l_bags.nd rfl (Or.inl rfl))) (fun _ _ _ _ _ => pts_nil) (fun _ _ _ _ _ => (pe_def D_l_bag hr (pa_cons (pv 0) (pa_cons (pv 2) pa_nil))))))), ?_⟩
  refine ⟨_, rfl, _, rfl, a, _, rfl, .inl hS, _, _, rfl, _, _, rfl, _, rfl, ?_⟩
  generalize hn : (if (if (((ns.map V.int).length : Nat) : Int) < m then (((ns.map V.int).length : Nat) : Int) else m) > 1 then (if (((ns.map V.int).length : Nat) : Int) < m then (((ns.map V.int).length : Nat) : Int) else m) else 1) = n
  have h1 : 1 ≤ n ∧ n ≤ 1000 := by
    rw [List.length_map] at hn
    split at hn <;> split at hn <;> omega
  refine ⟨by omega, by omega, fun D nD => ?_⟩
  refine lc_range (lo := 0) (n := n.toNat) (fun i H' => ∃ bs : List Addr, bs.length = i ∧ Kp H H' ∧ H' D = some (.lst (bs.map V.ref)) ∧ ∀ b ∈ bs, Bag H' b) ?_ ?_ ?_
  · exact ⟨[], rfl, .new (.refl H) nD, upd_same, fun b hb => nomatch hb⟩
  · rintro i H1 hi ⟨bs, hl, k1, e, hb⟩
    refine ⟨rfl, _, rfl, _, rfl, a, ns, _, rfl, k1.ints hS, by omega, fun p H2 k2 hp np => ?_⟩
    have e2 : H2 D = some (.lst (bs.map V.ref)) := k2.keep _ _ e nrefs
    refine ⟨_, e2, ?_, bs ++ [p], ?_, (k1.trans k2).fresh nD, ?_, fun b hm => ?_⟩
    · rw [List.length_map]
      exact small1000 (by omega)
    · rw [List.length_append, List.length_singleton, hl]
    · rw [upd_same, List.map_append]
      rfl
    · have hg : Bag H2 b := by
        rcases List.mem_append.mp hm with g | g
        · exact k2.bags (hb b g)
        · rw [List.mem_singleton.mp g]
          exact hp
      exact bag_upd hg e2
  · rintro H1 ⟨bs, hl, k1, e, hb⟩
    exact q D bs H1 k1 nD e (by omega) hb
set_option maxHeartbeats 4000000 in
theorem ok_l_take {P : Program} {w : World} {K : PySem.W.Frag} {mg : Str → Option Value} {base : Heap} {f : Addr} {fd : FuncData} (F : Fun K "_law_take" "_law_take" s_l_take f fd) (b_len : mg "len" = none) :
    FnOk P w K mg base CX0 1 f fd ["bag", "many"] (sp_l_take K) := by
  refine F.ok sc_l_take (fun vs H Q E h => ?_) (fun cdv A outer s H vs Q E hr h => ?_)
  · obtain ⟨b, m, rfl, hB, hm, q⟩ := h
    rfl
  obtain ⟨b, m, rfl, hB, hm, q⟩ := h
  refine ⟨_, (pss_cons (ps_asg (pe_op op_add (pe_ix ix_list (pv 0) pe_int (fun _ _ => rfl)) pe_int) (pg_sub (pv 0) pe_int set_list))
        (pss_one (ps_ret (pe_op op_mod (pe_ix ix_list (pe_ix ix_list (pv 0) pe_int (fun _ _ => rfl)) (pe_op op_mod (pe_ix ix_list (pv 0) pe_int (fun _ _ => rfl)) (pe_callB call_len_seq (by rfl) b_len PySem.boot_len (pa_cons (pe_ix ix_list (pv 0) pe_int (fun _ _ => rfl)) pa_nil))) (fun _ _ => rfl)) (pv 1))))), ?_⟩
  obtain ⟨d, c, ds, h1, h2, h3, h4⟩ := hB
  refine ⟨_, rfl, b, _, _, _, rfl, rfl, SqL.of h1, atI_nat (j := 1) rfl, _, _, rfl, rfl, _, rfl, b, _, _, 1, rfl, rfl, h1, rfl, ?_⟩
  have e1 : (upd H b (.lst [.ref d, .int (c + 1)])) b = some (.lst [.ref d, .int (c + 1)]) := upd_same
  have nd : d ≠ b := ne_of h2 h1 (by
    intro z
    exact nint (ns := ds) ⟨d, c, z⟩)
  have e2 : (upd H b (.lst [.ref d, .int (c + 1)])) d = some (.lst (ds.map V.int)) := by
    rw [upd_ne nd]
    exact h2
  have hl : (((ds.map V.int).length : Nat) : Int) = 400 := by
    rw [List.length_map, h3]
    rfl
  obtain ⟨v, _, _, hv⟩ := at_int (ns := ds) (k := (c + 1) % (((ds.map V.int).length : Nat) : Int)) (by rw [hl]; exact Int.emod_nonneg _ (by decide)) (by rw [hl, h3]; exact Int.emod_lt_of_pos _ (by decide))
  refine ⟨_, rfl, b, _, _, _, rfl, rfl, SqL.of e1, atI_nat (j := 0) rfl, _, rfl, b, _, _, _, rfl, rfl, SqL.of e1, atI_nat (j := 1) rfl, _, rfl, b, _, _, _, rfl, rfl, SqL.of e1, atI_nat (j := 0) rfl, d, _, rfl, .inl (SqL.of e2), _, _, rfl, rfl, (by rw [hl]; exact p0), d, _, _, _, rfl, rfl, SqL.of e2, hv, _, rfl, _, _, rfl, rfl, hm, ?_⟩
  exact q _ _ (Int.emod_nonneg _ (by omega)) (Int.emod_lt_of_pos _ hm) (.bump h1)
set_option maxHeartbeats 4000000 in
theorem ok_l_kinds {P : Program} {w : World} {K : PySem.W.Frag} {mg : Str → Option Value} {base : Heap} {f : Addr} {fd : FuncData} (F : Fun K "_law_kinds" "_law_kinds" s_l_kinds f fd) (D_l_take : Def P w K mg base "_law_take" 1 ["bag", "many"] (sp_l_take K)) (b_range : mg "range" = none) (b_min : mg "min" = none) (b_tuple : mg "tuple" = none) :
    FnOk P w K mg base CX0 2 f fd ["bag", "far"] (sp_l_kinds K) := by
  refine F.ok sc_l_kinds (fun vs H Q E h => ?_) (fun cdv A outer s H vs Q E hr h => ?_)
  · obtain ⟨b, fr, rfl, hB, hf, q⟩ := h
    rfl
  obtain ⟨b, fr, rfl, hB, hf, q⟩ := h
  refine ⟨_, (pss_cons (ps_set (i := 2) sc_l_kinds.nd rfl (Or.inl rfl) (pe_lst pa_nil))
        (pss_cons (ps_for PassesOwn.never rfl (pi_range1 rfl b_range (pa_cons (pe_op op_add pe_int (pe_def D_l_take hr (pa_cons (pv 0) (pa_cons pe_int pa_nil)))) pa_nil)) (pg_name (i := 3) sc_l_kinds.nd rfl (Or.inl rfl)) (pss_one (ps_expr (pe_bm PySem.F.plainAttrs_list PySem.F.slot_list_append PySem.F.type_list_append mt_append (pv 2) (pa_cons (pe_op op_add pe_int (pe_ix ix_list (pe_lst (pa_cons (pe_def D_l_take hr (pa_cons (pv 0) (pa_cons (pe_callB (call_min2 rfl) (by rfl) b_min PyProof.Rows.boot_min (pa_cons pe_int (pa_cons (pe_op op_sub (pv 1) pe_int) pa_nil))) pa_nil))) (pa_cons (pe_def D_l_take hr (pa_cons (pv 0) (pa_cons (pe_op op_sub (pv 1) pe_int) pa_nil))) pa_nil))) (pe_def D_l_take hr (pa_cons (pv 0) (pa_cons pe_int pa_nil))) (fun _ _ => rfl))) pa_nil)))))
        (pss_one (ps_ret (pe_callTy call_tuple_of (by rfl) b_tuple PyProof.Rows.boot_tuple (pa_cons (pv 2) pa_nil)))))), ?_⟩
  refine ⟨Nat.zero_le _, fun p np => ?_⟩
  have kp := (Kp.refl H).new (o := .lst []) np
  refine ⟨_, rfl, b, _, rfl, kp.bags hB, p0, fun r H1 r0 r1 k0 => ?_⟩
  refine ⟨_, _, rfl, rfl, _, rfl, by omega, by omega, ?_⟩
  refine for_range (lo := 0) (n := (1 + r).toNat) (fun i σ H' => ∃ (cs : List Int) (y : Option V), σ = [some (.ref b), some (.int fr), some (.ref p), y] ∧ Kp H H' ∧ H' p = some (.lst (cs.map V.int)) ∧ cs.length = i ∧ ∀ c ∈ cs, 2 ≤ c ∧ c ≤ fr) ?_ ?_ ?_
  · exact ⟨[], _, rfl, kp.trans k0, k0.keep _ _ upd_same (nint (ns := [])), rfl, fun c hc => nomatch hc⟩
  · rintro i σ H' hi ⟨cs, y, rfl, k1, e, hl, hc⟩
    refine ⟨_, rfl, .inl ⟨rfl, _, SqL.of e⟩, _, rfl, _, rfl, _, _, rfl, rfl, _, _, rfl, b, _, rfl, k1.bags hB, ?_, fun r1' H2 a0 a1 k2 => ?_⟩
    · split <;> omega
    refine ⟨_, rfl, _, rfl, _, _, rfl, rfl, b, _, rfl, (k1.trans k2).bags hB, by omega, fun r2 H3 b0 b1 k3 => ?_⟩
    refine ⟨(by show 2 ≤ sizeLine; decide), fun l nl => ?_⟩
    have k4 := ((k1.trans k2).trans k3).new (o := .lst (([r1', r2] : List Int).map V.int)) nl
    refine ⟨_, rfl, b, _, rfl, k4.bags hB, p0, fun r3 H4 c0 c1 k5 => ?_⟩
    have el : H4 l = some (.lst (([r1', r2] : List Int).map V.int)) := k5.keep _ _ upd_same nint
    obtain ⟨v, hv, _, ha⟩ := at_int (ns := [r1', r2]) (k := r3) c0 c1
    have e3 : H3 p = some (.lst (cs.map V.int)) := k3.keep _ _ (k2.keep _ _ e nint) nint
    have e4 : H4 p = some (.lst (cs.map V.int)) := k5.keep _ _ (by rw [upd_ne (ne_of_none e3 nl)]; exact e3) nint
    refine ⟨l, _, _, _, rfl, rfl, SqL.of el, ha, _, _, rfl, rfl, p, _, _, rfl, rfl, e4, ?_, cs ++ [2 + v], _, rfl, (k4.trans k5).fresh np, ?_, ?_, fun c hm => ?_⟩
    · rw [List.length_map]
      exact small1000 (by omega)
    · rw [upd_same, List.map_append]
      rfl
    · rw [List.length_append, List.length_singleton, hl]
    · rcases List.mem_append.mp hm with g | g
      · exact hc c g
      · rw [List.mem_singleton.mp g]
        simp only [List.mem_cons, List.not_mem_nil, or_false] at hv
        have a2 : r1' ≤ fr - 2 := by
          split at a1 <;> omega
        omega
  · rintro σ H' ⟨cs, y, rfl, k1, e, hl, hc⟩
    refine ⟨_, rfl, p, _, rfl, .inl ⟨SqL.of e, fun t nt => ?_⟩⟩
    exact q t cs _ (k1.new nt) upd_same (by omega) (by omega) hc
set_option maxHeartbeats 4000000 in
theorem ok_l_far_draw {P : Program} {w : World} {K : PySem.W.Frag} {mg : Str → Option Value} {base : Heap} {f : Addr} {fd : FuncData} (F : Fun K "_law_far_draw" "_law_far_draw" s_l_far_draw f fd) (D_l_take : Def P w K mg base "_law_take" 1 ["bag", "many"] (sp_l_take K)) :
    FnOk P w K mg base CX0 2 f fd ["bag", "many"] (sp_l_far_draw K) := by
  refine F.ok sc_l_far_draw (fun vs H Q E h => ?_) (fun cdv A outer s H vs Q E hr h => ?_)
  · obtain ⟨b, m, rfl, hB, hm, q⟩ := h
    rfl
  obtain ⟨b, m, rfl, hB, hm, q⟩ := h
  refine ⟨_, (pss_cons (ps_par (i := 2) (j := 3) rfl sc_l_far_draw.nd rfl rfl (by decide) rfl rfl (pa_cons pe_int (pa_cons (pv 1) pa_nil)) (by rfl))
        (pss_cons (ps_while PassesOwn.never (pt_cmpR op_gt (pv 3) pe_int (nomark _)) (pss_one (ps_par (i := 2) (j := 3) rfl sc_l_far_draw.nd rfl rfl (by decide) rfl rfl (pa_cons (pe_op op_add (pe_op op_mul pe_int (pv 2)) (pe_def D_l_take hr (pa_cons (pv 0) (pa_cons pe_int pa_nil)))) (pa_cons (pe_op op_fdiv (pv 3) pe_int) pa_nil)) (by rfl))))
        (pss_one (ps_ret (pe_ix ix_list (pe_lst (pa_cons (pe_op op_mod (pv 2) (pv 1)) (pa_cons pe_int (pa_cons (pe_op op_sub (pv 1) pe_int) (pa_cons (pe_op op_mod (pv 2) (pv 1)) pa_nil))))) (pe_def D_l_take hr (pa_cons (pv 0) (pa_cons pe_int pa_nil))) (fun _ _ => rfl)))))), ?_⟩
  refine ⟨_, rfl, _, _, rfl, ?_⟩
  refine while_by (fun σ H' => ∃ (fo mu : Int), σ = [some (.ref b), some (.int m), some (.int fo), some (.int mu)] ∧ 0 ≤ mu ∧ Kp H H') (fun (σ : L2.St) (_ : Hp) => match σ[3]? with | some (some (V.int k)) => k.toNat | _ => 0) ?_ ?_ ?_
  · exact ⟨_, _, rfl, by omega, .refl H⟩
  · rintro σ H' ⟨fo, mu, rfl, hm0, k1⟩
    refine ⟨_, rfl, _, _, rfl, rfl, _, rfl, ite2 (fun c => ?_) (fun c => ?_)⟩
    · have c' := of_decide_eq_true c
      refine ⟨_, rfl, _, _, rfl, rfl, .inl ⟨by decide, by decide⟩, _, rfl, b, _, rfl, k1.bags hB, p0, fun r H2 h0 h1 k2 => ?_⟩
      refine ⟨_, _, rfl, rfl, _, rfl, _, _, rfl, rfl, ⟨by decide, by decide⟩, _, _, rfl, ⟨_, _, rfl, by omega, k1.trans k2⟩, ?_⟩
      show (mu / 1000).toNat < mu.toNat
      omega
    · refine ⟨_, rfl, _, rfl, _, _, rfl, rfl, hm, _, rfl, _, _, rfl, rfl, _, rfl, _, rfl, _, _, rfl, rfl, hm, (by show 4 ≤ sizeLine; decide), fun p np => ?_⟩
      have k2 := k1.new (o := .lst (([fo % m, 0, m - 1, fo % m] : List Int).map V.int)) np
      refine ⟨_, rfl, b, _, rfl, k2.bags hB, p0, fun r H2 h0 h1 k3 => ?_⟩
      have e : H2 p = some (.lst (([fo % m, 0, m - 1, fo % m] : List Int).map V.int)) := k3.keep _ _ upd_same nint
      obtain ⟨v, hv, _, ha⟩ := at_int (ns := [fo % m, 0, m - 1, fo % m]) (k := r) h0 h1
      refine ⟨p, _, _, _, rfl, rfl, SqL.of e, ha, ?_⟩
      have z1 := Int.emod_nonneg fo (show m ≠ 0 by omega)
      have z2 := Int.emod_lt_of_pos fo hm
      have hb : 0 ≤ v ∧ v < m := by
        simp only [List.mem_cons, List.not_mem_nil, or_false] at hv
        omega
      exact q v H2 hb.1 hb.2 (k2.trans k3)
  · rintro σ H' Q1 Q2 hq ⟨v, e, i, j, e1, e2, k, e3, h⟩
    exact ⟨v, e, i, j, e1, e2, k, e3, hq _ _ h⟩
set_option maxHeartbeats 4000000 in
theorem ok_l_stamps_for {P : Program} {w : World} {K : PySem.W.Frag} {mg : Str → Option Value} {base : Heap} {f : Addr} {fd : FuncData} (F : Fun K "_law_stamps_for" "_law_stamps_for" s_l_stamps_for f fd) (D_l_far_draw : Def P w K mg base "_law_far_draw" 2 ["bag", "many"] (sp_l_far_draw K)) (D_l_take : Def P w K mg base "_law_take" 1 ["bag", "many"] (sp_l_take K)) (b_tuple : mg "tuple" = none) :
    FnOk P w K mg base CX0 3 f fd ["bag", "kinds", "far"] (sp_l_stamps_for K) := by
  refine F.ok sc_l_stamps_for (fun vs H Q E h => ?_) (fun cdv A outer s H vs Q E hr h => ?_)
  · obtain ⟨b, kA, cs, fr, rfl, hB, hK, h3, hf, q⟩ := h
    rfl
  obtain ⟨b, kA, cs, fr, rfl, hB, hK, h3, hf, q⟩ := h
  refine ⟨_, (pss_one (ps_ret (pe_callTy call_tuple_of (by rfl) b_tuple PyProof.Rows.boot_tuple (pa_cons (pe_lc (own := [("one", 3)]) (g := gName 3) (tt := tYes) rfl sc_l_stamps_for.nd (pi_tup (pv 1)) (blkOk_by (own := [("one", 3)]) (N := ["bag", "kinds", "far", "one"]) (sc := defScope s_l_stamps_for) (by decide +kernel)) (fun _ _ _ _ _ => (pg_name (i := 3) sc_l_stamps_for.nd rfl (Or.inl rfl))) (fun _ _ _ _ _ => pts_nil) (fun _ _ _ _ _ => (pe_ix (ix_listK K) (pe_lst (pa_cons pe_int (pa_cons (pe_def D_l_far_draw hr (pa_cons (pv 0) (pa_cons (pe_op op_add (pv 2) pe_int) pa_nil))) pa_nil))) (pe_def D_l_take hr (pa_cons (pv 0) (pa_cons pe_int pa_nil))) (fun _ _ => rfl)))) pa_nil)))), ?_⟩
  refine ⟨_, rfl, kA, rfl, ⟨_, hK⟩, fun D nD => ?_⟩
  refine lc_tup (K := K) (a := kA) (xs := cs.map V.int) (fun i H' => ∃ ss : List Int, ss.length = i ∧ Kp H H' ∧ H' D = some (.lst (ss.map V.int)) ∧ ∀ x ∈ ss, 0 ≤ x ∧ x ≤ fr) ?_ ?_ ?_ ?_
  · exact ⟨[], rfl, .new (.refl H) nD, upd_same, fun c hc => nomatch hc⟩
  · rintro i H' hi ⟨ss, hl, k1, e, hs⟩
    exact k1.tup hK
  · rintro i x H1 hi ⟨ss, hl, k1, e, hs⟩
    have hi' : i < 3 := by
      have := (List.getElem?_eq_some_iff.mp hi).1
      rw [List.length_map] at this
      omega
    refine ⟨rfl, _, rfl, _, rfl, _, _, rfl, rfl, b, _, rfl, k1.bags hB, by omega, fun r1 H2 a0 a1 k2 => ?_⟩
    refine ⟨(by show 2 ≤ sizeLine; decide), fun l nl => ?_⟩
    have k4 := (k1.trans k2).new (o := .lst (([0, r1] : List Int).map V.int)) nl
    refine ⟨_, rfl, b, _, rfl, k4.bags hB, p0, fun r3 H4 c0 c1 k5 => ?_⟩
    have el : H4 l = some (.lst (([0, r1] : List Int).map V.int)) := k5.keep _ _ upd_same nint
    obtain ⟨v, hv, _, ha⟩ := at_int (ns := [0, r1]) (k := r3) c0 c1
    have e3 : H2 D = some (.lst (ss.map V.int)) := k2.keep _ _ e nint
    have e4 : H4 D = some (.lst (ss.map V.int)) := k5.keep _ _ (by rw [upd_ne (ne_of_none e3 nl)]; exact e3) nint
    refine ⟨l, _, _, _, rfl, rfl, SqL.of el, ha, _, e4, ?_, ss ++ [v], ?_, (k4.trans k5).fresh nD, ?_, fun c hm => ?_⟩
    · rw [List.length_map]
      exact small1000 (by omega)
    · rw [List.length_append, List.length_singleton, hl]
    · rw [upd_same, List.map_append]
      rfl
    · rcases List.mem_append.mp hm with g | g
      · exact hs c g
      · rw [List.mem_singleton.mp g]
        simp only [List.mem_cons, List.not_mem_nil, or_false] at hv
        omega
  · rintro H1 ⟨ss, hl, k1, e, hs⟩
    refine ⟨D, _, rfl, .inl ⟨SqL.of e, fun t nt => ?_⟩⟩
    exact q t ss _ (k1.new nt) upd_same (by rw [hl, List.length_map]) hs
set_option maxHeartbeats 4000000 in
theorem ok_l_had {P : Program} {w : World} {K : PySem.W.Frag} {mg : Str → Option Value} {base : Heap} {f : Addr} {fd : FuncData} (F : Fun K "_law_had" "_law_had" s_l_had f fd) (D_l_stamps_for : Def P w K mg base "_law_stamps_for" 3 ["bag", "kinds", "far"] (sp_l_stamps_for K)) (D_l_far_draw : Def P w K mg base "_law_far_draw" 2 ["bag", "many"] (sp_l_far_draw K)) :
    FnOk P w K mg base CX0 4 f fd ["bag", "kinds", "far"] (sp_l_had K) := by
  refine F.ok sc_l_had (fun vs H Q E h => ?_) (fun cdv A outer s H vs Q E hr h => ?_)
  · obtain ⟨b, kA, cs, fr, rfl, hB, hK, h3, hf, q⟩ := h
    rfl
  obtain ⟨b, kA, cs, fr, rfl, hB, hK, h3, hf, q⟩ := h
  refine ⟨_, (pss_one (ps_ret (pe_tup (pa_cons (pe_def D_l_far_draw hr (pa_cons (pv 0) (pa_cons (pe_op op_add (pv 2) pe_int) pa_nil))) (pa_cons (pe_def D_l_stamps_for hr (pa_cons (pv 0) (pa_cons (pv 1) (pa_cons (pv 2) pa_nil)))) pa_nil))))), ?_⟩
  refine ⟨_, rfl, _, rfl, _, _, rfl, rfl, b, _, rfl, hB, by omega, fun r H1 a0 a1 k1 => ?_⟩
  refine ⟨_, rfl, _, rfl, _, rfl, b, kA, cs, fr, rfl, k1.bags hB, k1.tup hK, h3, hf, fun sA ss H2 k2 e hl hs => ?_⟩
  refine ⟨(by show 2 ≤ sizeLine; decide), fun p np => ?_⟩
  exact q p sA r ss _ ((k1.trans k2).new np) upd_same (by rw [upd_ne (ne_of_none e np)]; exact e) a0 (by omega) hl hs
set_option maxHeartbeats 4000000 in
theorem ok_p_is_within {P : Program} {w : World} {K : PySem.W.Frag} {mg : Str → Option Value} {base : Heap} {f : Addr} {fd : FuncData} (F : Fun K "is_within" "is_within" s_p_is_within f fd) (b_isinstance : mg "isinstance" = none) (b_int : mg "int" = none) (b_bool : mg "bool" = none) :
    FnOk P w K mg base CX0 1 f fd ["thing", "least", "most"] (sp_p_is_within K) := by
  refine F.ok sc_p_is_within (fun vs H Q E h => ?_) (fun cdv A outer s H vs Q E hr h => ?_)
  · obtain ⟨x, d, lo, hi, rfl, hd, q⟩ := h
    rfl
  obtain ⟨x, d, lo, hi, rfl, hd, q⟩ := h
  refine ⟨_, (pss_cons (ps_if (PW.pt (pw_or (pt_val (pe_callB call_isi (by rfl) b_isinstance PyProof.Rows.boot_isinstance (pa_cons (pv 0) (pa_cons (pe_bltn (v := .ty "bool") rfl b_bool PyProof.Rows.boot_bool rfl) pa_nil)))) (pw_or1 (pt_not (pt_val (pe_callB call_isi (by rfl) b_isinstance PyProof.Rows.boot_isinstance (pa_cons (pv 0) (pa_cons (pe_bltn (v := .ty "int") rfl b_int PyProof.Rows.boot_int rfl) pa_nil)))))))) (pss_one (ps_ret pe_bl)) pss_nil)
        (pss_one (ps_ret (pe_chain op_le op_le (pv 1) (pv 0) (pv 2))))), ?_⟩
  cases hd with
  | non => exact ⟨_, rfl, _, _, _, _, false, rfl, .ty "bool", .base .non, kit_ty (by decide +kernel), _, rfl, _, rfl, _, _, _, _, false, rfl, .ty "int", .base .non, kit_ty (by decide +kernel), _, rfl, q⟩
  | bl b => exact ⟨_, rfl, _, _, _, _, true, rfl, .ty "bool", .base (.bl b), kit_ty (by decide +kernel), _, rfl, q⟩
  | str b => exact ⟨_, rfl, _, _, _, _, false, rfl, .ty "bool", .base (.str b), kit_ty (by decide +kernel), _, rfl, _, rfl, _, _, _, _, false, rfl, .ty "int", .base (.str b), kit_ty (by decide +kernel), _, rfl, q⟩
  | lst h _ => exact ⟨_, rfl, _, _, _, _, false, rfl, .ty "bool", tyL h, kit_ty (by decide +kernel), _, rfl, _, rfl, _, _, _, _, false, rfl, .ty "int", tyL h, kit_ty (by decide +kernel), _, rfl, q⟩
  | tup h _ => exact ⟨_, rfl, _, _, _, _, false, rfl, .ty "bool", tyT h, kit_ty (by decide +kernel), _, rfl, _, rfl, _, _, _, _, false, rfl, .ty "int", tyT h, kit_ty (by decide +kernel), _, rfl, q⟩
  | int i =>
    refine ⟨_, rfl, _, _, _, _, false, rfl, .ty "bool", .base (.int i), kit_ty (by decide +kernel), _, rfl, _, rfl, _, _, _, _, true, rfl, .ty "int", .base (.int i), kit_ty (by decide +kernel), _, rfl, ?_⟩
    refine ⟨_, rfl, _, rfl, _, _, rfl, rfl, _, rfl, ite2 (fun c => ?_) (fun c => ?_)⟩
    · refine ⟨_, rfl, _, _, rfl, rfl, ?_⟩
      have q' : Q (.bl (decide (lo ≤ i) && decide (i ≤ hi))) H := q
      rw [c] at q'
      exact q'
    · have c' : decide (lo ≤ i) = false := by
        cases h : decide (lo ≤ i) with
        | true => exact absurd h c
        | false => rfl
      have q' : Q (.bl (decide (lo ≤ i) && decide (i ≤ hi))) H := q
      rw [c'] at q'
      exact q'
set_option maxHeartbeats 4000000 in
theorem ok_p_are_cards {P : Program} {w : World} {K : PySem.W.Frag} {mg : Str → Option Value} {base : Heap} {f : Addr} {fd : FuncData} (F : Fun K "are_cards" "are_cards" s_p_are_cards f fd) (D_p_is_within : Def P w K mg base "is_within" 1 ["thing", "least", "most"] (sp_p_is_within K)) (b_len : mg "len" = none) (b_isinstance : mg "isinstance" = none) (b_tuple : mg "tuple" = none) (b_all : mg "all" = none) {t_MOST_KINDS : Tok} (g_MOST_KINDS : mg "MOST_KINDS" = some (.int 3 t_MOST_KINDS)) {t_MOST_FULL : Tok} (g_MOST_FULL : mg "MOST_FULL" = some (.int 20 t_MOST_FULL)) {t_LEAST_FULL : Tok} (g_LEAST_FULL : mg "LEAST_FULL" = some (.int 2 t_LEAST_FULL)) :
    FnOk P w K mg base CX0 2 f fd ["thing"] (sp_p_are_cards K) := by
  refine F.ok sc_p_are_cards (fun vs H Q E h => ?_) (fun cdv A outer s H vs Q E hr h => ?_)
  · obtain ⟨x, d, rfl, hd, q⟩ := h
    rfl
  obtain ⟨x, d, rfl, hd, q⟩ := h
  refine ⟨_, (pss_cons (ps_if (PW.pt (pw_or (pt_not (pt_val (pe_callB call_isi (by rfl) b_isinstance PyProof.Rows.boot_isinstance (pa_cons (pv 0) (pa_cons (pe_bltn (v := .ty "tuple") rfl b_tuple PyProof.Rows.boot_tuple rfl) pa_nil))))) (pw_or1 (pt_not (pt_chain op_le op_le pe_int (pe_callB call_len_seq (by rfl) b_len PySem.boot_len (pa_cons (pv 0) pa_nil)) (pe_glob (v := .int 3) rfl g_MOST_KINDS ⟨_, rfl⟩)))))) (pss_one (ps_ret pe_bl)) pss_nil)
        (pss_one (ps_ret (pe_callB (cr_all rfl) (by rfl) b_all PyProof.Rows.boot_all (pa_cons (pe_lc (own := [("full", 1)]) (g := gName 1) (tt := tYes) rfl sc_p_are_cards.nd (pi_tup (pv 0)) (blkOk_by (own := [("full", 1)]) (N := ["thing", "full"]) (sc := defScope s_p_are_cards) (by decide +kernel)) (fun _ _ _ _ _ => (pg_name (i := 1) sc_p_are_cards.nd rfl (Or.inl rfl))) (fun _ _ _ _ _ => pts_nil) (fun _ _ _ _ _ => (pe_def D_p_is_within hr (pa_cons (pv 1) (pa_cons (pe_glob (v := .int 2) rfl g_LEAST_FULL ⟨_, rfl⟩) (pa_cons (pe_glob (v := .int 20) rfl g_MOST_FULL ⟨_, rfl⟩) pa_nil)))))) pa_nil))))), ?_⟩
  cases hd with
  | non => exact ⟨_, rfl, _, _, _, _, false, rfl, .ty "tuple", .base .non, kit_ty (by decide +kernel), _, rfl, q _ (.refl H)⟩
  | bl b => exact ⟨_, rfl, _, _, _, _, false, rfl, .ty "tuple", .base (.bl b), kit_ty (by decide +kernel), _, rfl, q _ (.refl H)⟩
  | str b => exact ⟨_, rfl, _, _, _, _, false, rfl, .ty "tuple", .base (.str b), kit_ty (by decide +kernel), _, rfl, q _ (.refl H)⟩
  | int b => exact ⟨_, rfl, _, _, _, _, false, rfl, .ty "tuple", .base (.int b), kit_ty (by decide +kernel), _, rfl, q _ (.refl H)⟩
  | lst h _ => exact ⟨_, rfl, _, _, _, _, false, rfl, .ty "tuple", tyL h, kit_ty (by decide +kernel), _, rfl, q _ (.refl H)⟩
  | @tup a xs ds h hx =>
    have hl := dp_len hx
    refine ⟨_, rfl, _, _, _, _, true, rfl, .ty "tuple", tyT h, kit_ty (by decide +kernel), _, rfl, ?_⟩
    refine ⟨_, rfl, a, _, rfl, .inr h, _, _, rfl, rfl, _, rfl, ite2 (fun c => ?_) (fun c => ?_)⟩
    · have c' : 1 ≤ ds.length := by
        have := of_decide_eq_true c
        omega
      refine ⟨_, _, rfl, rfl, _, rfl, ?_⟩
      by_cases c2 : ds.length ≤ 3
      · have e2 : decide ((xs.length : Int) ≤ 3) = true := decide_eq_true (by omega)
        rw [e2]
        refine ⟨_, rfl, a, rfl, ⟨_, h⟩, fun D nD => ?_⟩
        refine lc_tup (K := K) (a := a) (xs := xs) (fun i H' => Same H H' ∧ H' D = some (.lst (((ds.take i).map (withinD 2 20)).map V.bl))) ?_ ?_ ?_ ?_
        · exact ⟨same_new (.refl H) nD, upd_same⟩
        · rintro i H' hi ⟨sm, e⟩
          exact Same.seqT sm h
        · rintro i y H' hi ⟨sm, e⟩
          obtain ⟨d, hd1, hd2⟩ := dp_get hx hi
          have hi' : i < xs.length := (List.getElem?_eq_some_iff.mp hi).1
          refine ⟨rfl, _, rfl, y, d, _, _, rfl, Same.dp sm hd2, _, e, ?_, same_fresh sm nD, ?_⟩
          · rw [List.length_map, List.length_map, List.length_take]
            exact small1000 (by omega)
          · rw [upd_same, take_map _ hd1, List.map_append]
            rfl
        · rintro H' ⟨sm, e⟩
          rw [hl, List.take_length] at e
          refine ⟨D, _, rfl, SqL.of e, ?_⟩
          have q' := q H' sm
          have ec : cardsD (.tuple ds) = (ds.map (withinD 2 20)).all id := by
            show (decide (1 ≤ ds.length) && decide (ds.length ≤ 3) && ds.all (withinD 2 20)) = _
            rw [decide_eq_true c', decide_eq_true c2, List.all_map]
            rfl
          rw [ec] at q'
          exact q'
      · have e2 : decide ((xs.length : Int) ≤ 3) = false := decide_eq_false (by omega)
        rw [e2]
        have q' := q H (.refl H)
        have ec : cardsD (.tuple ds) = false := by
          show (decide (1 ≤ ds.length) && decide (ds.length ≤ 3) && ds.all (withinD 2 20)) = _
          rw [decide_eq_false c2, Bool.and_false, Bool.false_and]
        rw [ec] at q'
        exact q'
    · have c' : ¬ 1 ≤ ds.length := fun z => c (decide_eq_true (by omega))
      refine ⟨_, rfl, ?_⟩
      have q' := q H (.refl H)
      have ec : cardsD (.tuple ds) = false := by
        show (decide (1 ≤ ds.length) && decide (ds.length ≤ 3) && ds.all (withinD 2 20)) = _
        rw [decide_eq_false c', Bool.false_and, Bool.false_and]
      rw [ec] at q'
      exact q'
set_option maxHeartbeats 4000000 in
theorem ok_p_refuse_no_cards {P : Program} {w : World} {K : PySem.W.Frag} {mg : Str → Option Value} {base : Heap} {f : Addr} {fd : FuncData} (F : Fun K "refuse_no_cards" "refuse_no_cards" s_p_refuse_no_cards f fd) (D_p_are_cards : Def P w K mg base "are_cards" 2 ["thing"] (sp_p_are_cards K)) :
    FnOk P w K mg base CX0 3 f fd ["thing"] (sp_p_refuse_no_cards K) := by
  refine F.ok sc_p_refuse_no_cards (fun vs H Q E h => ?_) (fun cdv A outer s H vs Q E hr h => ?_)
  · obtain ⟨x, d, rfl, hd, hc, q⟩ := h
    rfl
  obtain ⟨x, d, rfl, hd, hc, q⟩ := h
  refine ⟨_, (pss_one (ps_if (pt_not (pt_val (pe_def D_p_are_cards hr (pa_cons (pv 0) pa_nil)))) (pss_one (ps_never)) pss_nil)), ?_⟩
  refine ⟨_, rfl, x, d, rfl, hd, fun H' sm => ⟨_, rfl, ?_⟩⟩
  rw [hc]
  exact q H' sm
set_option maxHeartbeats 4000000 in
theorem ok_p_are_stamps {P : Program} {w : World} {K : PySem.W.Frag} {mg : Str → Option Value} {base : Heap} {f : Addr} {fd : FuncData} (F : Fun K "are_stamps" "are_stamps" s_p_are_stamps f fd) (D_p_is_within : Def P w K mg base "is_within" 1 ["thing", "least", "most"] (sp_p_is_within K)) (b_len : mg "len" = none) (b_isinstance : mg "isinstance" = none) (b_tuple : mg "tuple" = none) (b_all : mg "all" = none) {t_MOST : Tok} (g_MOST : mg "MOST" = some (.int 1000000000000000000 t_MOST)) :
    FnOk P w K mg base CX0 2 f fd ["cards", "thing"] (sp_p_are_stamps K) := by
  refine F.ok sc_p_are_stamps (fun vs H Q E h => ?_) (fun cdv A outer s H vs Q E hr h => ?_)
  · obtain ⟨cA, cs, x, d, rfl, hC, h3, hd, q⟩ := h
    rfl
  obtain ⟨cA, cs, x, d, rfl, hC, h3, hd, q⟩ := h
  refine ⟨_, (pss_cons (ps_if (PW.pt (pw_or (pt_not (pt_val (pe_callB call_isi (by rfl) b_isinstance PyProof.Rows.boot_isinstance (pa_cons (pv 1) (pa_cons (pe_bltn (v := .ty "tuple") rfl b_tuple PyProof.Rows.boot_tuple rfl) pa_nil))))) (pw_or1 (pt_cmpR op_ne (pe_callB call_len_seq (by rfl) b_len PySem.boot_len (pa_cons (pv 1) pa_nil)) (pe_callB call_len_seq (by rfl) b_len PySem.boot_len (pa_cons (pv 0) pa_nil)) (nomark _))))) (pss_one (ps_ret pe_bl)) pss_nil)
        (pss_one (ps_ret (pe_callB (cr_all rfl) (by rfl) b_all PyProof.Rows.boot_all (pa_cons (pe_lc (own := [("many", 2)]) (g := gName 2) (tt := tYes) rfl sc_p_are_stamps.nd (pi_tup (pv 1)) (blkOk_by (own := [("many", 2)]) (N := ["cards", "thing", "many"]) (sc := defScope s_p_are_stamps) (by decide +kernel)) (fun _ _ _ _ _ => (pg_name (i := 2) sc_p_are_stamps.nd rfl (Or.inl rfl))) (fun _ _ _ _ _ => pts_nil) (fun _ _ _ _ _ => (pe_def D_p_is_within hr (pa_cons (pv 2) (pa_cons pe_int (pa_cons (pe_glob (v := .int 1000000000000000000) rfl g_MOST ⟨_, rfl⟩) pa_nil)))))) pa_nil))))), ?_⟩
  cases hd with
  | non => exact ⟨_, rfl, _, _, _, _, false, rfl, .ty "tuple", .base .non, kit_ty (by decide +kernel), _, rfl, q _ (.refl H)⟩
  | bl b => exact ⟨_, rfl, _, _, _, _, false, rfl, .ty "tuple", .base (.bl b), kit_ty (by decide +kernel), _, rfl, q _ (.refl H)⟩
  | str b => exact ⟨_, rfl, _, _, _, _, false, rfl, .ty "tuple", .base (.str b), kit_ty (by decide +kernel), _, rfl, q _ (.refl H)⟩
  | int b => exact ⟨_, rfl, _, _, _, _, false, rfl, .ty "tuple", .base (.int b), kit_ty (by decide +kernel), _, rfl, q _ (.refl H)⟩
  | lst h _ => exact ⟨_, rfl, _, _, _, _, false, rfl, .ty "tuple", tyL h, kit_ty (by decide +kernel), _, rfl, q _ (.refl H)⟩
  | @tup a xs ds h hx =>
    have hl := dp_len hx
    refine ⟨_, rfl, _, _, _, _, true, rfl, .ty "tuple", tyT h, kit_ty (by decide +kernel), _, rfl, ?_⟩
    refine ⟨_, rfl, a, _, rfl, .inr h, _, rfl, cA, _, rfl, .inr hC, rfl, _, rfl, ?_⟩
    by_cases c2 : ds.length = cs.length
    · have e2 : decide (V.int (xs.length : Int) = V.int (cs.length : Int)) = true := decide_eq_true (by rw [hl, c2])
      rw [e2]
      refine ⟨_, rfl, a, rfl, ⟨_, h⟩, fun D nD => ?_⟩
      refine lc_tup (K := K) (a := a) (xs := xs) (fun i H' => Same H H' ∧ H' D = some (.lst (((ds.take i).map (withinD 0 1000000000000000000)).map V.bl))) ?_ ?_ ?_ ?_
      · exact ⟨same_new (.refl H) nD, upd_same⟩
      · rintro i H' hi ⟨sm, e⟩
        exact Same.seqT sm h
      · rintro i y H' hi ⟨sm, e⟩
        obtain ⟨d, hd1, hd2⟩ := dp_get hx hi
        have hi' : i < xs.length := (List.getElem?_eq_some_iff.mp hi).1
        refine ⟨rfl, _, rfl, y, d, _, _, rfl, Same.dp sm hd2, _, e, ?_, same_fresh sm nD, ?_⟩
        · rw [List.length_map, List.length_map, List.length_take]
          exact small1000 (by omega)
        · rw [upd_same, take_map _ hd1, List.map_append]
          rfl
      · rintro H' ⟨sm, e⟩
        rw [hl, List.take_length] at e
        refine ⟨D, _, rfl, SqL.of e, ?_⟩
        have q' := q H' sm
        have ec : stampsD cs.length (.tuple ds) = (ds.map (withinD 0 1000000000000000000)).all id := by
          show (decide (ds.length = cs.length) && ds.all (withinD 0 1000000000000000000)) = _
          rw [decide_eq_true c2, List.all_map]
          rfl
        rw [ec] at q'
        exact q'
    · have e2 : decide (V.int (xs.length : Int) = V.int (cs.length : Int)) = false := decide_eq_false (fun z => c2 (by have := V.int.inj z; omega))
      rw [e2]
      have q' := q H (.refl H)
      have ec : stampsD cs.length (.tuple ds) = false := by
        show (decide (ds.length = cs.length) && ds.all (withinD 0 1000000000000000000)) = _
        rw [decide_eq_false c2, Bool.false_and]
      rw [ec] at q'
      exact q'
set_option maxHeartbeats 4000000 in
theorem ok_p_purse_fits {P : Program} {w : World} {K : PySem.W.Frag} {mg : Str → Option Value} {base : Heap} {f : Addr} {fd : FuncData} (F : Fun K "purse_fits" "purse_fits" s_p_purse_fits f fd) (D_p_are_stamps : Def P w K mg base "are_stamps" 2 ["cards", "thing"] (sp_p_are_stamps K)) (D_p_is_within : Def P w K mg base "is_within" 1 ["thing", "least", "most"] (sp_p_is_within K)) (b_len : mg "len" = none) (b_isinstance : mg "isinstance" = none) (b_tuple : mg "tuple" = none) {t_MOST : Tok} (g_MOST : mg "MOST" = some (.int 1000000000000000000 t_MOST)) :
    FnOk P w K mg base CX0 3 f fd ["cards", "thing"] (sp_p_purse_fits K) := by
  refine F.ok sc_p_purse_fits (fun vs H Q E h => ?_) (fun cdv A outer s H vs Q E hr h => ?_)
  · obtain ⟨cA, cs, x, d, rfl, hC, h3, hd, q⟩ := h
    rfl
  obtain ⟨cA, cs, x, d, rfl, hC, h3, hd, q⟩ := h
  refine ⟨_, (pss_cons (ps_if (PW.pt (pw_or (pt_not (pt_val (pe_callB call_isi (by rfl) b_isinstance PyProof.Rows.boot_isinstance (pa_cons (pv 1) (pa_cons (pe_bltn (v := .ty "tuple") rfl b_tuple PyProof.Rows.boot_tuple rfl) pa_nil))))) (pw_or1 (pt_cmpR op_ne (pe_callB call_len_seq (by rfl) b_len PySem.boot_len (pa_cons (pv 1) pa_nil)) pe_int (nomark _))))) (pss_one (ps_ret pe_bl)) pss_nil)
        (pss_cons (ps_asg (pv 1) (pg_tup rfl (pgs_cons (pg_name (i := 2) sc_p_purse_fits.nd rfl (Or.inl rfl)) (pgs_cons (pg_name (i := 3) sc_p_purse_fits.nd rfl (Or.inl rfl)) pgs_nil))))
        (pss_one (ps_ret (pe_and (pe_def D_p_is_within hr (pa_cons (pv 2) (pa_cons pe_int (pa_cons (pe_glob (v := .int 1000000000000000000) rfl g_MOST ⟨_, rfl⟩) pa_nil)))) (pe_one (pe_def D_p_are_stamps hr (pa_cons (pv 0) (pa_cons (pv 3) pa_nil))))))))), ?_⟩
  cases hd with
  | non => exact ⟨_, rfl, _, _, _, _, false, rfl, .ty "tuple", .base .non, kit_ty (by decide +kernel), _, rfl, q _ (.refl H)⟩
  | bl b => exact ⟨_, rfl, _, _, _, _, false, rfl, .ty "tuple", .base (.bl b), kit_ty (by decide +kernel), _, rfl, q _ (.refl H)⟩
  | str b => exact ⟨_, rfl, _, _, _, _, false, rfl, .ty "tuple", .base (.str b), kit_ty (by decide +kernel), _, rfl, q _ (.refl H)⟩
  | int b => exact ⟨_, rfl, _, _, _, _, false, rfl, .ty "tuple", .base (.int b), kit_ty (by decide +kernel), _, rfl, q _ (.refl H)⟩
  | lst h _ => exact ⟨_, rfl, _, _, _, _, false, rfl, .ty "tuple", tyL h, kit_ty (by decide +kernel), _, rfl, q _ (.refl H)⟩
  | @tup a xs ds h hx =>
    have hl := dp_len hx
    refine ⟨_, rfl, _, _, _, _, true, rfl, .ty "tuple", tyT h, kit_ty (by decide +kernel), _, rfl, ?_⟩
    refine ⟨_, rfl, a, _, rfl, .inr h, rfl, _, rfl, ?_⟩
    by_cases c2 : xs.length = 2
    · have e2 : decide (V.int (xs.length : Int) = V.int 2) = true := decide_eq_true (by rw [c2]; rfl)
      rw [e2]
      obtain ⟨x1, x2, rfl⟩ := len2 c2
      obtain ⟨d1, d2, rfl, y1, y2⟩ := dp_two hx
      refine ⟨_, rfl, a, [x1, x2], rfl, h, rfl, x1, [x2], rfl, x2, [], rfl, rfl, ?_⟩
      refine ⟨_, rfl, x1, d1, 0, 1000000000000000000, rfl, y1, _, rfl, ite2 (fun c => ?_) (fun c => ?_)⟩
      · refine ⟨_, rfl, _, rfl, cA, cs, x2, d2, rfl, hC, h3, y2, fun H' sm => ?_⟩
        have q' : Q (.bl (withinD 0 1000000000000000000 d1 && stampsD cs.length d2)) H' := q H' sm
        rw [c] at q'
        exact q'
      · have q' : Q (.bl (withinD 0 1000000000000000000 d1 && stampsD cs.length d2)) H := q H (.refl H)
        rw [Bool.eq_false_iff.mpr c] at q'
        exact q'
    · have e2 : decide (V.int (xs.length : Int) = V.int 2) = false := decide_eq_false (fun z => c2 (by have := V.int.inj z; omega))
      rw [e2]
      have q' := q H (.refl H)
      have ec : purseD cs.length (.tuple ds) = false := by
        exact purse_not2 (by omega)
      rw [ec] at q'
      exact q'
set_option maxHeartbeats 4000000 in
theorem ok_p_refuse_no_purse {P : Program} {w : World} {K : PySem.W.Frag} {mg : Str → Option Value} {base : Heap} {f : Addr} {fd : FuncData} (F : Fun K "refuse_no_purse" "refuse_no_purse" s_p_refuse_no_purse f fd) (D_p_purse_fits : Def P w K mg base "purse_fits" 3 ["cards", "thing"] (sp_p_purse_fits K)) :
    FnOk P w K mg base CX0 4 f fd ["cards", "thing"] (sp_p_refuse_no_purse K) := by
  refine F.ok sc_p_refuse_no_purse (fun vs H Q E h => ?_) (fun cdv A outer s H vs Q E hr h => ?_)
  · obtain ⟨cA, cs, x, d, rfl, hC, h3, hd, hp, q⟩ := h
    rfl
  obtain ⟨cA, cs, x, d, rfl, hC, h3, hd, hp, q⟩ := h
  refine ⟨_, (pss_one (ps_if (pt_not (pt_val (pe_def D_p_purse_fits hr (pa_cons (pv 0) (pa_cons (pv 1) pa_nil))))) (pss_one (ps_never)) pss_nil)), ?_⟩
  refine ⟨_, rfl, _, rfl, cA, cs, x, d, rfl, hC, h3, hd, fun H' sm => ⟨_, rfl, ?_⟩⟩
  rw [hp]
  exact q H' sm
set_option maxHeartbeats 4000000 in
theorem ok_m_init {P : Program} {w : World} {K : PySem.W.Frag} {mg : Str → Option Value} {base : Heap} {f : Addr} {fd : FuncData} (F : Fun K "__init__" "Kept.__init__" s_m_init f fd) {C : Addr} (T : KeptT K mg C) (D_p_refuse_no_cards : Def P w K mg base "refuse_no_cards" 3 ["thing"] (sp_p_refuse_no_cards K)) (D_p_refuse_no_purse : Def P w K mg base "refuse_no_purse" 4 ["cards", "thing"] (sp_p_refuse_no_purse K)) :
    FnOk P w K mg base CX0 5 f fd ["self", "cards", "purse"] (sp_m_init K C) := by
  refine F.ok sc_m_init (fun vs H Q E h => ?_) (fun cdv A outer s H vs Q E hr h => ?_)
  · obtain ⟨x, dx, cA, pA, cs, r, ss, rfl, hx, hC, hP, hK, hS, hr0, hr1, q⟩ := h
    rfl
  obtain ⟨x, dx, cA, pA, cs, r, ss, rfl, hx, hC, hP, hK, hS, hr0, hr1, q⟩ := h
  refine ⟨_, (pss_cons (ps_expr (pe_def D_p_refuse_no_cards hr (pa_cons (pv 1) pa_nil)))
        (pss_cons (ps_expr (pe_def D_p_refuse_no_purse hr (pa_cons (pv 1) (pa_cons (pv 2) pa_nil))))
        (pss_cons (ps_fld (pv 0) (pv 1) rfl)
        (pss_one (ps_fld (pv 0) (pe_lst (pa_cons (pe_tup (pa_cons (pv 2) (pa_cons pe_int (pa_cons pe_int pa_nil)))) pa_nil)) rfl))))), ?_⟩
  refine ⟨_, rfl, _, _, rfl, .tup hC (dp_ints cs), cardsD_ok hK, fun H1 s1 => ?_⟩
  refine ⟨_, rfl, _, rfl, cA, _, _, _, rfl, Same.seqT s1 hC, ?_, (hP.same s1).dp, ?_, fun H2 s2 => ?_⟩
  · rw [List.length_map]
    exact hK.2.1
  · rw [List.length_map]
    exact purseD_ok hr0 hr1 hS
  have s := s1.trans s2
  refine ⟨_, rfl, _, rfl, x, C, dx, [], rfl, s _ _ hx, T.cl, T.nC, (by show 0 < 1000; decide), ?_⟩
  have e3 : (upd H2 x (.ins C dx (putF "cards" (.ref cA) []))) x = some (.ins C dx (putF "cards" (.ref cA) [])) := upd_same
  have b3 : ∀ b o, H b = some o → b ≠ x → (upd H2 x (.ins C dx (putF "cards" (.ref cA) []))) b = some o := fun b o e hb => by
    rw [upd_ne hb]
    exact s _ _ e
  have nxt : ∀ {a : Addr} {xs : List V}, SqT K H2 a xs → SqT K (upd H2 x (.ins C dx (putF "cards" (.ref cA) []))) a xs := fun {a xs} h => by
    have hx2 := s _ _ hx
    rcases h with (h | ⟨ob, h⟩) | h
    · exact .inl (.inl (by rw [upd_ne (ne_of h hx2 (fun z => nomatch z))]; exact h))
    · exact .inl (.inr ⟨ob, by rw [upd_ne (ne_of h hx2 (fun z => nomatch z))]; exact h⟩)
    · exact .inr h
  have hC3 := nxt (Same.seqT s hC)
  obtain ⟨zA, hp1, hp2⟩ := hP.same s
  have hP3 : Purse K (upd H2 x (.ins C dx (putF "cards" (.ref cA) []))) pA r ss := ⟨zA, nxt hp1, nxt hp2⟩
  have n3 : ∀ a, (upd H2 x (.ins C dx (putF "cards" (.ref cA) []))) a = none → H a = none := fun a h => by
    cases z : H a with
    | none => rfl
    | some o =>
      by_cases y : a = x
      · rw [y, e3] at h
        cases h
      · rw [b3 a o z y] at h
        cases h
  generalize (upd H2 x (.ins C dx (putF "cards" (.ref cA) []))) = H3 at *
  refine ⟨_, rfl, (by show 3 ≤ sizeLine; decide), fun t nt => ⟨(by show 1 ≤ sizeLine; decide), fun sA nsA => ?_⟩⟩
  have s4 := same_upd (o := .tup [.ref pA, .int 0, .int 0]) nt
  have s5 := same_upd (o := .lst [.ref t]) nsA
  refine ⟨_, rfl, x, C, dx, _, rfl, (s4.trans s5) _ _ e3, T.cl, T.nS, (by show 1 < 1000; decide), ?_⟩
  have e5 : (upd (upd H3 t (.tup [.ref pA, .int 0, .int 0])) sA (.lst [.ref t])) x = some (.ins C dx (putF "cards" (.ref cA) [])) := (s4.trans s5) _ _ e3
  have nxt2 : ∀ {a : Addr} {xs : List V}, SqT K (upd (upd H3 t (.tup [.ref pA, .int 0, .int 0])) sA (.lst [.ref t])) a xs → SqT K (upd (upd (upd H3 t (.tup [.ref pA, .int 0, .int 0])) sA (.lst [.ref t])) x (.ins C dx (putF "states" (.ref sA) (putF "cards" (.ref cA) [])))) a xs := fun {a xs} h => by
    rcases h with (h | ⟨ob, h⟩) | h
    · exact .inl (.inl (by rw [upd_ne (ne_of h e5 (fun z => nomatch z))]; exact h))
    · exact .inl (.inr ⟨ob, by rw [upd_ne (ne_of h e5 (fun z => nomatch z))]; exact h⟩)
    · exact .inr h
  refine q sA _ (n3 sA (s4.free nsA)) ⟨⟨dx, cA, upd_same, nxt2 (Same.seqT (s4.trans s5) hC3)⟩, [t], ?_, ?_⟩ fun b o e hb => ?_
  · rw [upd_ne (ne_of (show (upd (upd H3 t (.tup [.ref pA, .int 0, .int 0])) sA (.lst [.ref t])) sA = some (.lst [.ref t]) from upd_same) e5 (fun z => nomatch z)), upd_same]
    rfl
  · obtain ⟨zA', hq1, hq2⟩ := hP3.same (s4.trans s5)
    exact .cons (k := ⟨r, ss, 0, 0⟩) (nxt2 (Same.seqT s5 (SqT.of upd_same))) ⟨zA', nxt2 hq1, nxt2 hq2⟩ .nil
  · rw [upd_ne hb]
    exact (s4.trans s5) _ _ (b3 b o e hb)
set_option maxHeartbeats 4000000 in
theorem ok_l_step {P : Program} {w : World} {K : PySem.W.Frag} {mg : Str → Option Value} {base : Heap} {f : Addr} {fd : FuncData} (F : Fun K "_law_step" "_law_step" s_l_step f fd) (b_list : mg "list" = none) (b_tuple : mg "tuple" = none) :
    FnOk P w K mg base CX0 1 f fd ["kinds", "had", "deed"] (sp_l_step K) := by
  refine F.ok sc_l_step (fun vs H Q E h => ?_) (fun cdv A outer s H vs Q E hr h => ?_)
  · obtain ⟨kA, pA, cs, x, zs, d, rfl, hC, ⟨sA, hP1, hP2⟩, hl, h3, hd, q1, q2⟩ := h
    rfl
  obtain ⟨kA, pA, cs, x, zs, d, rfl, hC, ⟨sA, hP1, hP2⟩, hl, h3, hd, q1, q2⟩ := h
  refine ⟨_, (pss_cons (ps_par (i := 3) (j := 4) rfl sc_l_step.nd rfl rfl (by decide) rfl rfl (pa_cons (pe_ix ix_tup (pv 1) pe_int (fun _ _ => rfl)) (pa_cons (pe_callTy call_list_of (by rfl) b_list PyProof.Rows.boot_list (pa_cons (pe_ix ix_tup (pv 1) pe_int (fun _ _ => rfl)) pa_nil)) pa_nil)) (by rfl))
        (pss_cons (ps_if (pt_cmpR op_eq (pv 2) pe_str (nomark _)) (pss_one (ps_ret (pe_ifExp (pt_cmpR op_gt (pv 3) pe_int (nomark _)) (pe_tup (pa_cons (pe_op op_sub (pv 3) pe_int) (pa_cons (pe_callTy call_tuple_of (by rfl) b_tuple PyProof.Rows.boot_tuple (pa_cons (pe_lc (own := [("one", 5)]) (g := gName 5) (tt := tYes) rfl sc_l_step.nd (pi_list (pv 4)) (blkOk_by (own := [("one", 5)]) (N := ["kinds", "had", "deed", "rides", "stamps", "one"]) (sc := defScope s_l_step) (by decide +kernel)) (fun _ _ _ _ _ => (pg_name (i := 5) sc_l_step.nd rfl (Or.inl rfl))) (fun _ _ _ _ _ => pts_nil) (fun _ _ _ _ _ => (pe_op op_add (pv 5) pe_int))) pa_nil)) pa_nil))) pe_non))) pss_nil)
        (pss_cons (ps_if (pt_cmpR op_lt (pe_ix ix_list (pv 4) (pv 2) (fun _ _ => rfl)) (pe_ix ix_tup (pv 0) (pv 2) (fun _ _ => rfl)) (nomark _)) (pss_one (ps_ret pe_non)) pss_nil)
        (pss_cons (ps_asg (pe_op op_sub (pe_ix ix_list (pv 4) (pv 2) (fun _ _ => rfl)) (pe_ix ix_tup (pv 0) (pv 2) (fun _ _ => rfl))) (pg_sub (pv 4) (pv 2) set_list))
        (pss_one (ps_ret (pe_tup (pa_cons (pe_op op_add (pv 3) pe_int) (pa_cons (pe_callTy call_tuple_of (by rfl) b_tuple PyProof.Rows.boot_tuple (pa_cons (pv 4) pa_nil)) pa_nil))))))))), ?_⟩
  refine ⟨_, rfl, pA, _, _, _, rfl, rfl, hP1, atI_nat (j := 0) rfl, _, rfl, pA, _, _, _, rfl, rfl, hP1, atI_nat (j := 1) rfl, sA, _, rfl, .inr hP2, fun l nl => ?_⟩
  refine ⟨_, _, rfl, ?_⟩
  have s1 := same_upd (o := .lst (zs.map V.int)) nl
  have hC1 := Same.seqT s1 hC
  rcases hd with rfl | ⟨i, rfl, i0, i1⟩
  · refine ⟨_, rfl, rfl, _, rfl, iteP (decide_eq_true rfl) ?_⟩
    refine ⟨_, rfl, _, _, rfl, rfl, _, rfl, ite2 (fun c => ?_) (fun c => ?_)⟩
    · have c' := of_decide_eq_true c
      refine ⟨_, rfl, _, _, rfl, rfl, _, rfl, l, rfl, ⟨_, SqL.of upd_same⟩, fun D nD => ?_⟩
      refine lc_list (K := K) (a := l) (xs := zs.map V.int) (fun j H' => Same (upd H l (.lst (zs.map V.int))) H' ∧ H' D = some (.lst (((zs.take j).map (· + 1)).map V.int))) ?_ ?_ ?_ ?_
      · exact ⟨same_new (.refl _) nD, upd_same⟩
      · rintro j H' hj ⟨sm, e⟩
        exact SqL.of (sm _ _ upd_same)
      · rintro j y H' hj ⟨sm, e⟩
        obtain ⟨z, hz, rfl⟩ := get_map hj
        have hj' : j < zs.length := (List.getElem?_eq_some_iff.mp hz).1
        refine ⟨rfl, _, rfl, _, _, rfl, rfl, _, e, ?_, same_fresh sm nD, ?_⟩
        · rw [List.length_map, List.length_map, List.length_take]
          exact small1000 (by omega)
        · rw [upd_same, take_map _ hz, List.map_append]
          rfl
      · rintro H' ⟨sm, e⟩
        rw [List.length_map, List.take_length] at e
        refine ⟨D, _, rfl, .inl ⟨SqL.of e, fun t nt => ?_⟩⟩
        refine ⟨(by show 2 ≤ sizeLine; decide), fun p np => ?_⟩
        refine q2 (.inl ⟨rfl, c'⟩) p t _ (same_new (same_new (s1.trans sm) nt) np) upd_same ?_
        rw [upd_ne (ne_of_none (show (upd H' t (.tup ((zs.map (· + 1)).map V.int))) t = some _ from upd_same) np), upd_same]
        rfl
    · have c' : ¬ (0 : Int) < x := fun z => c (decide_eq_true z)
      refine q1 (fun h => ?_) _ s1
      rcases h with ⟨_, h⟩ | ⟨i, c, z, h, _⟩
      · exact c' h
      · exact nomatch h
  · refine ⟨_, rfl, rfl, _, rfl, iteN (fun e => nomatch of_decide_eq_true e) ?_⟩
    obtain ⟨z, hzm, hzg, hza⟩ := at_int (ns := zs) (k := i) i0 (by omega)
    obtain ⟨c, hcm, hcg, hca⟩ := at_int (ns := cs) (k := i) i0 i1
    have hL : SqL K (upd H l (.lst (zs.map V.int))) l (zs.map V.int) := SqL.of upd_same
    refine ⟨_, rfl, _, rfl, l, _, _, _, rfl, rfl, hL, hza, _, rfl, _, rfl, kA, _, _, _, rfl, rfl, hC1, hca, _, _, rfl, rfl, _, rfl, ite2 (fun e => ?_) (fun e => ?_)⟩
    · have e' := of_decide_eq_true e
      refine q1 (fun h => ?_) _ s1
      rcases h with ⟨h, _⟩ | ⟨i', c', z', h, _, h1, h2, h3⟩
      · exact nomatch h
      · cases h
        rw [hcg] at h1
        rw [hzg] at h2
        cases h1
        cases h2
        omega
    · have e' : ¬ z < c := fun g => e (decide_eq_true g)
      have hix : ixN (zs.map V.int).length i = some i.toNat := by
        unfold ixN
        rw [if_pos i0, if_pos (by rw [List.length_map]; omega)]
      refine ⟨_, rfl, _, rfl, l, _, _, _, rfl, rfl, hL, hza, _, rfl, _, rfl, kA, _, _, _, rfl, rfl, hC1, hca, _, _, rfl, rfl, _, rfl, _, rfl, l, _, i, _, rfl, rfl, upd_same, hix, ?_⟩
      have el : (upd (upd H l (.lst (zs.map V.int))) l (.lst ((zs.map V.int).set i.toNat (.int (z - c))))) l = some (.lst ((zs.map V.int).set i.toNat (.int (z - c)))) := upd_same
      have sl : Same H (upd (upd H l (.lst (zs.map V.int))) l (.lst ((zs.map V.int).set i.toNat (.int (z - c))))) := same_fresh s1 nl
      refine ⟨_, rfl, _, _, rfl, rfl, _, rfl, l, _, rfl, .inl ⟨SqL.of el, fun t nt => ?_⟩⟩
      refine ⟨(by show 2 ≤ sizeLine; decide), fun p np => ?_⟩
      refine q2 (.inr ⟨i, c, z, rfl, i0, hcg, hzg, by omega⟩) p t _ (same_new (same_new sl nt) np) upd_same ?_
      have es : (zs.map V.int).set i.toNat (.int (z - c)) = (zs.set i.toNat (zs.getD i.toNat 0 - cs.getD i.toNat 0)).map V.int := by
        rw [List.getD_eq_getElem?_getD, List.getD_eq_getElem?_getD, hzg, hcg, ← List.map_set]
        rfl
      rw [upd_ne (ne_of_none upd_same np), upd_same, es]
      rfl
set_option maxHeartbeats 4000000 in
theorem ok_l_from {P : Program} {w : World} {K : PySem.W.Frag} {mg : Str → Option Value} {base : Heap} {f : Addr} {fd : FuncData} (F : Fun K "_law_from" "_law_from" s_l_from f fd) (b_isinstance : mg "isinstance" = none) (b_bool : mg "bool" = none) (b_int : mg "int" = none) :
    FnOk P w K mg base CX0 1 f fd ["thing", "least", "top"] (sp_l_from K) := by
  refine F.ok sc_l_from (fun vs H Q E h => ?_) (fun cdv A outer s H vs Q E hr h => ?_)
  · obtain ⟨x, d, lo, hi, rfl, hd, q⟩ := h
    rfl
  obtain ⟨x, d, lo, hi, rfl, hd, q⟩ := h
  refine ⟨_, (pss_one (ps_ret (pe_and (pe_callB call_isi (by rfl) b_isinstance PyProof.Rows.boot_isinstance (pa_cons (pv 0) (pa_cons (pe_bltn (v := .ty "int") rfl b_int PyProof.Rows.boot_int rfl) pa_nil))) (pe_and (pe_not (pe_callB call_isi (by rfl) b_isinstance PyProof.Rows.boot_isinstance (pa_cons (pv 0) (pa_cons (pe_bltn (v := .ty "bool") rfl b_bool PyProof.Rows.boot_bool rfl) pa_nil)))) (pe_and (pe_cmpR op_le (pv 1) (pv 0) (nomark _)) (pe_one (pe_cmpR op_le (pv 0) (pv 2) (nomark _)))))))), ?_⟩
  cases hd with
  | non => exact ⟨_, rfl, _, _, _, _, false, rfl, .ty "int", .base .non, kit_ty (by decide +kernel), _, rfl, q⟩
  | bl b => exact ⟨_, rfl, _, _, _, _, true, rfl, .ty "int", .base (.bl b), kit_ty (by decide +kernel), _, rfl, _, rfl, _, _, _, _, true, rfl, .ty "bool", .base (.bl b), kit_ty (by decide +kernel), _, rfl, _, rfl, q⟩
  | str b => exact ⟨_, rfl, _, _, _, _, false, rfl, .ty "int", .base (.str b), kit_ty (by decide +kernel), _, rfl, q⟩
  | lst h _ => exact ⟨_, rfl, _, _, _, _, false, rfl, .ty "int", tyL h, kit_ty (by decide +kernel), _, rfl, q⟩
  | tup h _ => exact ⟨_, rfl, _, _, _, _, false, rfl, .ty "int", tyT h, kit_ty (by decide +kernel), _, rfl, q⟩
  | int i =>
    refine ⟨_, rfl, _, _, _, _, true, rfl, .ty "int", .base (.int i), kit_ty (by decide +kernel), _, rfl, _, rfl, _, _, _, _, false, rfl, .ty "bool", .base (.int i), kit_ty (by decide +kernel), _, rfl, _, rfl, ?_⟩
    refine ⟨_, rfl, _, rfl, _, _, rfl, rfl, _, rfl, ite2 (fun c => ?_) (fun c => ?_)⟩
    · refine ⟨_, rfl, _, rfl, _, _, rfl, rfl, ?_⟩
      have q' : Q (.bl (decide (lo ≤ i) && decide (i ≤ hi))) H := q
      rw [c] at q'
      exact q'
    · have q' : Q (.bl (decide (lo ≤ i) && decide (i ≤ hi))) H := q
      rw [Bool.eq_false_iff.mpr c] at q'
      exact q'
set_option maxHeartbeats 4000000 in
theorem ok_l_after {P : Program} {w : World} {K : PySem.W.Frag} {mg : Str → Option Value} {base : Heap} {f : Addr} {fd : FuncData} (F : Fun K "_law_after" "_law_after" s_l_after f fd) (D_l_step : Def P w K mg base "_law_step" 1 ["kinds", "had", "deed"] (sp_l_step K)) (D_l_from : Def P w K mg base "_law_from" 1 ["thing", "least", "top"] (sp_l_from K)) (b_len : mg "len" = none) :
    FnOk P w K mg base CX0 2 f fd ["kinds", "state", "deed"] (sp_l_after K) := by
  refine F.ok sc_l_after (fun vs H Q E h => ?_) (fun cdv A outer s H vs Q E hr h => ?_)
  · obtain ⟨kA, tA, dA, pA, cs, k, w, y, rfl, hC, hT, hP, hD, hw, hy, hG, h3, q⟩ := h
    rfl
  obtain ⟨kA, tA, dA, pA, cs, k, w, y, rfl, hC, hT, hP, hD, hw, hy, hG, h3, q⟩ := h
  refine ⟨_, (pss_cons (ps_asg (pv 2) (pg_tup rfl (pgs_cons (pg_name (i := 3) sc_l_after.nd rfl (Or.inl rfl)) (pgs_cons (pg_name (i := 4) sc_l_after.nd rfl (Or.inl rfl)) pgs_nil))))
        (pss_cons (ps_asg (pv 1) (pg_tup rfl (pgs_cons (pg_name (i := 5) sc_l_after.nd rfl (Or.inl rfl)) (pgs_cons (pg_name (i := 6) sc_l_after.nd rfl (Or.inl rfl)) (pgs_cons (pg_name (i := 7) sc_l_after.nd rfl (Or.inl rfl)) pgs_nil)))))
        (pss_cons (ps_if (pt_cmpR op_eq (pv 3) pe_str (nomark _)) (pss_cons (ps_set (i := 8) sc_l_after.nd rfl (Or.inl rfl) (pe_def D_l_step hr (pa_cons (pv 0) (pa_cons (pv 5) (pa_cons pe_str pa_nil)))))
        (pss_one (ps_ret (pe_ifExp (pt_cmpR op_notN (pv 8) pe_non (nomark _)) (pe_tup (pa_cons (pv 8) (pa_cons (pe_op op_add (pv 6) pe_int) (pa_cons (pv 7) pa_nil)))) (pe_lst (pa_cons pe_str (pa_cons pe_bl pa_nil))))))) pss_nil)
        (pss_cons (ps_if (pt_cmpR op_eq (pv 3) pe_str (nomark _)) (pss_cons (ps_if (pt_not (pt_val (pe_def D_l_from hr (pa_cons (pv 4) (pa_cons pe_int (pa_cons (pe_op op_sub (pe_callB call_len_seq (by rfl) b_len PySem.boot_len (pa_cons (pv 0) pa_nil)) pe_int) pa_nil)))))) (pss_one (ps_ret (pe_lst (pa_cons pe_str (pa_cons pe_bl pa_nil))))) pss_nil)
        (pss_cons (ps_set (i := 8) sc_l_after.nd rfl (Or.inl rfl) (pe_def D_l_step hr (pa_cons (pv 0) (pa_cons (pv 5) (pa_cons (pv 4) pa_nil)))))
        (pss_one (ps_ret (pe_ifExp (pt_cmpR op_notN (pv 8) pe_non (nomark _)) (pe_tup (pa_cons (pv 8) (pa_cons (pv 6) (pa_cons (pv 7) pa_nil)))) (pe_lst (pa_cons pe_str (pa_cons (pv 4) (pa_cons pe_bl pa_nil))))))))) pss_nil)
        (pss_cons (ps_if (pt_not (pt_val (pe_def D_l_from hr (pa_cons (pv 4) (pa_cons pe_int (pa_cons (pe_op op_pow pe_int pe_int) pa_nil)))))) (pss_one (ps_ret (pe_lst (pa_cons pe_str (pa_cons pe_bl pa_nil))))) pss_nil)
        (pss_cons (ps_if (pt_cmpR op_eq (pv 3) pe_str (nomark _)) (pss_one (ps_ret (pe_tup (pa_cons (pe_tup (pa_cons (pe_op op_add (pe_ix ix_tup (pv 5) pe_int (fun _ _ => rfl)) (pv 4)) (pa_cons (pe_ix ix_tup (pv 5) pe_int (fun _ _ => rfl)) pa_nil))) (pa_cons (pv 6) (pa_cons (pe_op op_add (pv 7) (pv 4)) pa_nil)))))) pss_nil)
        (pss_cons (ps_if (pt_cmpR op_gt (pv 4) (pv 7) (nomark _)) (pss_one (ps_ret (pe_lst (pa_cons pe_str (pa_cons pe_bl pa_nil))))) pss_nil)
        (pss_one (ps_ret (pe_ifExp (pt_cmpR op_le (pv 4) (pe_ix ix_tup (pv 5) pe_int (fun _ _ => rfl)) (nomark _)) (pe_tup (pa_cons (pe_tup (pa_cons (pe_op op_sub (pe_ix ix_tup (pv 5) pe_int (fun _ _ => rfl)) (pv 4)) (pa_cons (pe_ix ix_tup (pv 5) pe_int (fun _ _ => rfl)) pa_nil))) (pa_cons (pv 6) (pa_cons (pe_op op_sub (pv 7) (pv 4)) pa_nil)))) (pe_lst (pa_cons pe_str (pa_cons pe_bl pa_nil))))))))))))), ?_⟩
  refine ⟨_, rfl, dA, _, rfl, hD, rfl, _, _, rfl, _, _, rfl, rfl, ?_⟩
  refine ⟨_, rfl, tA, _, rfl, hT, rfl, _, _, rfl, _, _, rfl, _, _, rfl, rfl, ?_⟩
  have lst : ∀ (i : Nat) (H1 : Hp), Same H H1 → stepK cs k w y = .ref i → ∀ p, H1 p = none → Q (.ref p) (upd H1 p (.lst [.str (kinN i), .bl true])) := fun i H1 s1 e p np => q _ _ (s1.trans (same_upd np)) (by rw [e]; exact ⟨p, rfl, upd_same⟩)
  cases w with
  | ride =>
    refine ⟨_, rfl, rfl, _, rfl, iteP (decide_eq_true rfl) ?_⟩
    refine ⟨_, rfl, _, rfl, kA, pA, cs, k.r, k.ss, .str "ride", rfl, hC, hP, hG.len, h3, .inl rfl, fun n H1 s1 => ?_, fun c p s' H1 s1 e1 e1' => ?_⟩
    · have e : stepK cs k .ride y = .ref 7 := if_neg (fun z => n (.inl ⟨rfl, z⟩))
      refine ⟨_, rfl, rfl, _, rfl, iteNS rfl ⟨(by show 2 ≤ sizeLine; decide), fun p np => ?_⟩⟩
      exact lst 7 H1 s1 e p np
    · have c' : 0 < k.r := by
        rcases c with ⟨_, h⟩ | ⟨i, _, _, h, _⟩
        · exact h
        · exact nomatch h
      have e : stepK cs k .ride y = .ok ⟨k.r - 1, k.ss.map (· + 1), k.rd + 1, k.ln⟩ := if_pos c'
      refine ⟨_, rfl, rfl, _, rfl, iteP nn_ref ?_⟩
      refine ⟨_, rfl, _, rfl, _, _, rfl, rfl, _, rfl, (by show 3 ≤ sizeLine; decide), fun t nt => ?_⟩
      refine q _ _ (s1.trans (same_upd nt)) (by rw [e]; exact ⟨t, p, rfl, SqT.of upd_same, s', Same.seqT (same_upd nt) (SqT.of e1), Same.seqT (same_upd nt) (SqT.of e1')⟩)
  | give =>
    refine ⟨_, rfl, rfl, _, rfl, iteN (by decide +kernel) ?_⟩
    refine ⟨_, rfl, rfl, _, rfl, iteP (decide_eq_true rfl) ?_⟩
    refine ⟨_, rfl, _, rfl, kA, _, rfl, .inr hC, _, _, rfl, rfl, y, numD y, 0, _, rfl, hy.dp, _, rfl, ?_⟩
    rw [List.length_map]
    cases hw2 : withinD 0 ((cs.length : Int) - 1) (numD y) with
    | false =>
      refine ⟨(by show 2 ≤ sizeLine; decide), fun p np => ?_⟩
      exact lst 8 H (.refl H) (give_out hy hw2) p np
    | true =>
      obtain ⟨i, rfl, i0, i1⟩ := numD_in hy hw2
      obtain ⟨c, _, hcg, _⟩ := at_int (ns := cs) (k := i) i0 (by omega)
      obtain ⟨z, _, hzg, _⟩ := at_int (ns := k.ss) (k := i) i0 (by rw [hG.len]; omega)
      refine ⟨_, rfl, _, rfl, _, rfl, kA, pA, cs, k.r, k.ss, .int i, rfl, hC, hP, hG.len, h3, .inr ⟨i, rfl, i0, by omega⟩, fun n H1 s1 => ?_, fun cc p s' H1 s1 e1 e1' => ?_⟩
      · have e : stepK cs k .give (.int i) = .few i := give_few i0 (by omega) hcg hzg (by
          by_cases y : z < c
          · exact y
          · exact absurd (.inr ⟨i, c, z, rfl, i0, hcg, hzg, by omega⟩) n)
        refine ⟨_, rfl, rfl, _, rfl, iteNS rfl ⟨_, rfl, (by show 3 ≤ sizeLine; decide), fun p np => ?_⟩⟩
        exact q _ _ (s1.trans (same_upd np)) (by rw [e]; exact ⟨p, rfl, upd_same⟩)
      · have hcz : c ≤ z := by
          rcases cc with ⟨h, _⟩ | ⟨i', c', z', h, _, h1, h2, h3⟩
          · exact nomatch h
          · cases h
            rw [hcg] at h1
            rw [hzg] at h2
            cases h1
            cases h2
            exact h3
        have e := give_ok (k := k) i0 (by omega) hcg hzg hcz
        have es : aftS cs k.ss (.int i) = k.ss.set i.toNat (z - c) := by
          show k.ss.set i.toNat (k.ss.getD i.toNat 0 - cs.getD i.toNat 0) = _
          rw [List.getD_eq_getElem?_getD, List.getD_eq_getElem?_getD, hzg, hcg]
          rfl
        rw [es] at e1'
        refine ⟨_, rfl, rfl, _, rfl, iteP nn_ref ?_⟩
        refine ⟨_, rfl, _, rfl, _, rfl, (by show 3 ≤ sizeLine; decide), fun t nt => ?_⟩
        refine q _ _ (s1.trans (same_upd nt)) (by rw [e]; exact ⟨t, p, rfl, SqT.of upd_same, s', Same.seqT (same_upd nt) (SqT.of e1), Same.seqT (same_upd nt) (SqT.of e1')⟩)
  | lend =>
    obtain ⟨zA, h6, h7⟩ := hP
    refine ⟨_, rfl, rfl, _, rfl, iteN (by decide +kernel) ?_⟩
    refine ⟨_, rfl, rfl, _, rfl, iteN (by decide +kernel) ?_⟩
    refine ⟨_, rfl, 10, 18, rfl, rfl, ⟨by decide, by decide, by decide⟩, y, numD y, 1, _, rfl, hy.dp, _, rfl, ?_⟩
    rw [show ((10 : Int) ^ (Int.toNat 18)) = 1000000000000000000 from by decide +kernel]
    cases hw2 : withinD 1 1000000000000000000 (numD y) with
    | false =>
      refine ⟨(by show 2 ≤ sizeLine; decide), fun p np => ?_⟩
      exact lst 4 H (.refl H) (lend_out hy hw2) p np
    | true =>
      obtain ⟨n, rfl, n0, n1⟩ := numD_in hy hw2
      have e : stepK cs k .lend (.int n) = .ok ⟨k.r + n, k.ss, k.rd, k.ln + n⟩ := if_pos ⟨n0, n1⟩
      refine ⟨_, rfl, rfl, _, rfl, iteP (decide_eq_true rfl) ?_⟩
      refine ⟨_, rfl, pA, _, _, _, rfl, rfl, h6, atI_nat (j := 0) rfl, _, rfl, _, _, rfl, rfl, _, rfl, pA, _, _, _, rfl, rfl, h6, atI_nat (j := 1) rfl, (by show 2 ≤ sizeLine; decide), fun p np => ?_⟩
      have s1 := same_upd (o := .tup [.int (k.r + n), .ref zA]) np
      refine ⟨_, rfl, _, rfl, _, rfl, _, _, rfl, rfl, (by show 3 ≤ sizeLine; decide), fun t nt => ?_⟩
      have s2 := same_upd (o := .tup [.ref p, .int k.rd, .int (k.ln + n)]) nt
      exact q _ _ (s1.trans s2) (by rw [e]; exact ⟨t, p, rfl, SqT.of upd_same, zA, Same.seqT s2 (SqT.of upd_same), Same.seqT (s1.trans s2) h7⟩)
  | pay =>
    obtain ⟨zA, h6, h7⟩ := hP
    refine ⟨_, rfl, rfl, _, rfl, iteN (by decide +kernel) ?_⟩
    refine ⟨_, rfl, rfl, _, rfl, iteN (by decide +kernel) ?_⟩
    refine ⟨_, rfl, 10, 18, rfl, rfl, ⟨by decide, by decide, by decide⟩, y, numD y, 1, _, rfl, hy.dp, _, rfl, ?_⟩
    rw [show ((10 : Int) ^ (Int.toNat 18)) = 1000000000000000000 from by decide +kernel]
    cases hw2 : withinD 1 1000000000000000000 (numD y) with
    | false =>
      refine ⟨(by show 2 ≤ sizeLine; decide), fun p np => ?_⟩
      exact lst 4 H (.refl H) (pay_out hy hw2) p np
    | true =>
      obtain ⟨n, rfl, n0, n1⟩ := numD_in hy hw2
      have e : stepK cs k .pay (.int n) = (if k.ln < n then Out.ref 9 else if k.r < n then .ref 7 else .ok ⟨k.r - n, k.ss, k.rd, k.ln - n⟩) := if_pos ⟨n0, n1⟩
      refine ⟨_, rfl, rfl, _, rfl, iteN (by decide +kernel) ?_⟩
      refine ⟨_, rfl, _, rfl, _, _, rfl, rfl, _, rfl, ite2 (fun c => ?_) (fun c => ?_)⟩
      · have c' : k.ln < n := of_decide_eq_true c
        rw [if_pos c'] at e
        refine ⟨(by show 2 ≤ sizeLine; decide), fun p np => ?_⟩
        exact lst 9 H (.refl H) e p np
      have c' : ¬ k.ln < n := fun z => c (decide_eq_true z)
      rw [if_neg c'] at e
      refine ⟨_, rfl, _, rfl, pA, _, _, _, rfl, rfl, h6, atI_nat (j := 0) rfl, _, _, rfl, rfl, _, rfl, ite2 (fun c => ?_) (fun c => ?_)⟩
      · have c'' : n ≤ k.r := of_decide_eq_true c
        rw [if_neg (by omega)] at e
        refine ⟨_, rfl, pA, _, _, _, rfl, rfl, h6, atI_nat (j := 0) rfl, _, rfl, _, _, rfl, rfl, _, rfl, pA, _, _, _, rfl, rfl, h6, atI_nat (j := 1) rfl, (by show 2 ≤ sizeLine; decide), fun p np => ?_⟩
        have s1 := same_upd (o := .tup [.int (k.r - n), .ref zA]) np
        refine ⟨_, rfl, _, rfl, _, rfl, _, _, rfl, rfl, (by show 3 ≤ sizeLine; decide), fun t nt => ?_⟩
        have s2 := same_upd (o := .tup [.ref p, .int k.rd, .int (k.ln - n)]) nt
        exact q _ _ (s1.trans s2) (by rw [e]; exact ⟨t, p, rfl, SqT.of upd_same, zA, Same.seqT s2 (SqT.of upd_same), Same.seqT (s1.trans s2) h7⟩)
      · have c'' : ¬ n ≤ k.r := fun z => c (decide_eq_true z)
        rw [if_pos (by omega)] at e
        refine ⟨(by show 2 ≤ sizeLine; decide), fun p np => ?_⟩
        exact lst 7 H (.refl H) e p np
  | back => exact absurd rfl hw
set_option maxHeartbeats 4000000 in
theorem ok_l_refused {P : Program} {w : World} {K : PySem.W.Frag} {mg : Str → Option Value} {base : Heap} {f : Addr} {fd : FuncData} (F : Fun K "_law_refused" "_law_refused" s_l_refused f fd) (b_isinstance : mg "isinstance" = none) (b_ValueError : mg "ValueError" = none) :
    FnOk P w K mg base CX0 13 f fd ["call", "one", "two", "three"] (sp_l_refused P w K mg base) := by
  refine F.ok sc_l_refused (fun vs H Q E h => ?_) (fun cdv A outer s H vs Q E hr h => ?_)
  · obtain ⟨f', x, y, z, sp, C, tf, rd, sA, ys, rfl, T, TX, hF, mono, hsA, h⟩ := h
    rfl
  obtain ⟨f', x, y, z, sp, C, tf, rd, sA, ys, rfl, T, TX, hF, mono, hsA, h⟩ := h
  refine ⟨_, pss_cons (ps_set (i := 4) sc_l_refused.nd rfl (Or.inl rfl) (pe_lst pa_nil))
    (pss_cons (ps_try_as2 (i := 5) (tb := fun W => tDrop (tCallH 0 P w K mg base 12 W (tCons (tVar 1) (tCons (tVar 2) (tCons (tVar 3) tNil))))) (ts1 := fun a cls d => tAsg (tLst (tCons (tC (.str "TooFew")) (tCons (tXf a cls d tf "kind" (tVar 5)) (tCons (tCB (rIsD K cls d a) (tCons (tVar 5) (tCons (tC (.ty "ValueError")) tNil))) tNil)))) (gName 4)) (ts2 := fun a cls d => tWords K C a cls d (tKin K a cls d)) rfl rfl sc_l_refused.nd rfl rfl ⟨rfl, by decide, .inl T.tf⟩ ⟨rfl, by decide, .inl T.rd⟩
      (fun W pn xe tk _ => pss_one (ps_expr (pe_callH (k := 12) hr rfl (.inl rfl) tk (pa_cons (pv 1) (pa_cons (pv 2) (pa_cons (pv 3) pa_nil))))))
      (fun a oe cls d pn z f => pss_one (ps_set (i := 4) sc_l_refused.nd rfl (Or.inl rfl) (pe_lst (pa_cons pe_str (pa_cons (pe_xf TX.xf TX.kd z.zc f (pv 5)) (pa_cons (pe_callB (call_isD z f) (by rfl) b_isinstance PyProof.Rows.boot_isinstance (pa_cons (pv 5) (pa_cons (pe_bltn (v := .ty "ValueError") rfl b_ValueError (by decide +kernel) rfl) pa_nil))) pa_nil))))))
      (fun a oe cls d pn z f => (pss_cons (ps_set (i := 6) sc_l_refused.nd rfl (Or.inl rfl) (pe_lst (pa_cons (pe_tup (pa_cons pe_str (pa_cons (pe_callB (call_isE2 z f) (by rfl) b_isinstance PyProof.Rows.boot_isinstance (pa_cons (pv 5) (pa_cons (pe_glob (v := .ref (C 0)) rfl (T.w 0 (by decide)) rfl) pa_nil))) pa_nil))) (pa_cons (pe_tup (pa_cons pe_str (pa_cons (pe_callB (call_isE2 z f) (by rfl) b_isinstance PyProof.Rows.boot_isinstance (pa_cons (pv 5) (pa_cons (pe_glob (v := .ref (C 1)) rfl (T.w 1 (by decide)) rfl) pa_nil))) pa_nil))) pa_nil))))
        (pss_cons (ps_set (i := 6) sc_l_refused.nd rfl (Or.inl rfl) (pe_op op_cat (pv 6) (pe_lst (pa_cons (pe_tup (pa_cons pe_str (pa_cons (pe_callB (call_isE2 z f) (by rfl) b_isinstance PyProof.Rows.boot_isinstance (pa_cons (pv 5) (pa_cons (pe_glob (v := .ref (C 2)) rfl (T.w 2 (by decide)) rfl) pa_nil))) pa_nil))) pa_nil))))
        (pss_cons (ps_set (i := 6) sc_l_refused.nd rfl (Or.inl rfl) (pe_op op_cat (pv 6) (pe_lst (pa_cons (pe_tup (pa_cons pe_str (pa_cons (pe_callB (call_isE2 z f) (by rfl) b_isinstance PyProof.Rows.boot_isinstance (pa_cons (pv 5) (pa_cons (pe_glob (v := .ref (C 3)) rfl (T.w 3 (by decide)) rfl) pa_nil))) pa_nil))) (pa_cons (pe_tup (pa_cons pe_str (pa_cons (pe_callB (call_isE2 z f) (by rfl) b_isinstance PyProof.Rows.boot_isinstance (pa_cons (pv 5) (pa_cons (pe_glob (v := .ref (C 4)) rfl (T.w 4 (by decide)) rfl) pa_nil))) pa_nil))) pa_nil)))))
        (pss_cons (ps_set (i := 6) sc_l_refused.nd rfl (Or.inl rfl) (pe_op op_cat (pv 6) (pe_lst (pa_cons (pe_tup (pa_cons pe_str (pa_cons (pe_callB (call_isE2 z f) (by rfl) b_isinstance PyProof.Rows.boot_isinstance (pa_cons (pv 5) (pa_cons (pe_glob (v := .ref (C 5)) rfl (T.w 5 (by decide)) rfl) pa_nil))) pa_nil))) (pa_cons (pe_tup (pa_cons pe_str (pa_cons (pe_callB (call_isE2 z f) (by rfl) b_isinstance PyProof.Rows.boot_isinstance (pa_cons (pv 5) (pa_cons (pe_glob (v := .ref (C 6)) rfl (T.w 6 (by decide)) rfl) pa_nil))) pa_nil))) pa_nil)))))
        (pss_cons (ps_set (i := 6) sc_l_refused.nd rfl (Or.inl rfl) (pe_op op_cat (pv 6) (pe_lst (pa_cons (pe_tup (pa_cons pe_str (pa_cons (pe_callB (call_isE2 z f) (by rfl) b_isinstance PyProof.Rows.boot_isinstance (pa_cons (pv 5) (pa_cons (pe_glob (v := .ref (C 7)) rfl (T.w 7 (by decide)) rfl) pa_nil))) pa_nil))) (pa_cons (pe_tup (pa_cons pe_str (pa_cons (pe_callB (call_isE2 z f) (by rfl) b_isinstance PyProof.Rows.boot_isinstance (pa_cons (pv 5) (pa_cons (pe_glob (v := .ref (C 8)) rfl (T.w 8 (by decide)) rfl) pa_nil))) pa_nil))) pa_nil)))))
        (pss_cons (ps_set (i := 6) sc_l_refused.nd rfl (Or.inl rfl) (pe_op op_cat (pv 6) (pe_lst (pa_cons (pe_tup (pa_cons pe_str (pa_cons (pe_callB (call_isE2 z f) (by rfl) b_isinstance PyProof.Rows.boot_isinstance (pa_cons (pv 5) (pa_cons (pe_glob (v := .ref (C 9)) rfl (T.w 9 (by decide)) rfl) pa_nil))) pa_nil))) pa_nil))))
        (pss_cons (ps_expr (pe_bm PySem.F.plainAttrs_list PySem.F.slot_list_append PySem.F.type_list_append mt_append (pv 6) (pa_cons (pe_tup (pa_cons pe_str (pa_cons (pe_callB (call_isE2 z f) (by rfl) b_isinstance PyProof.Rows.boot_isinstance (pa_cons (pv 5) (pa_cons (pe_glob (v := .ref (C 10)) rfl (T.w 10 (by decide)) rfl) pa_nil))) pa_nil))) pa_nil)))
        (pss_one (ps_set (i := 4) sc_l_refused.nd rfl (Or.inl rfl) (pe_op op_cat (pe_lcH2 (own := [("word", 7), ("there", 8)]) (g := gTup K 2 (gCons (gName 7) (gCons (gName 8) gNil))) z f rfl rfl sc_l_refused.nd (pv 6) (blkOk_by (own := [("word", 7), ("there", 8)]) (N := ["call", "one", "two", "three", "kin", "e", "words", "word", "there"]) (sc := defScope s_l_refused) (by decide +kernel)) (fun _ _ _ _ _ wm => pg_tupH wm (pgs_cons (pg_name (i := 7) sc_l_refused.nd rfl (Or.inl rfl)) (pgs_cons (pg_name (i := 8) sc_l_refused.nd rfl (Or.inl rfl)) pgs_nil))) (fun _ _ _ _ _ => pts_one (pt_val (pv 8))) (fun _ _ _ _ _ => pv 7)) (pe_lst (pa_cons (pe_callB (call_isE2 z f) (by rfl) b_isinstance PyProof.Rows.boot_isinstance (pa_cons (pv 5) (pa_cons (pe_bltn (v := .ty "ValueError") rfl b_ValueError (by decide +kernel) rfl) pa_nil))) pa_nil))))))))))))))
    (pss_one (ps_ret (pv 4)))), ?_⟩
  refine ⟨Nat.zero_le _, fun l nl => ?_⟩
  have s0 := same_upd (o := .lst []) nl
  refine ⟨f', sp, rfl, held3 (hF.same s0) rfl rfl rfl ?_⟩
  have h1 := h _ s0
  refine mono _ _ _ _ _ _ h1 (fun v H2 g => ?_) (fun cls d H2 g => ?_)
  · obtain ⟨s2, q⟩ := g
    exact ⟨_, rfl, q l H2 (.refl H2) (s2 _ _ upd_same (Ne.symm (ne_of_none hsA nl)))⟩
  · obtain ⟨s2, ⟨i, rfl, rfl, KO, q⟩ | ⟨n, dd, rfl, rfl, hdd, q⟩⟩ := g
    case inr =>
      refine ⟨true, TX.me, fun _ a na => ?_, fun z => nomatch z⟩
      refine ⟨_, rfl, rfl, rfl, dd, _, .int n, rfl, hdd, rfl, _, rfl, tf, dd, _, .ty "ValueError", .type "ValueError", true, rfl, rfl, hdd, TX.ex, rfl, fun _ r => r, TX.ve, (by show 3 ≤ sizeLine; decide), fun p np => ?_⟩
      exact ⟨_, rfl, q p _ (same_upd np) upd_same⟩
    refine ⟨false, KO.n, fun z => (nomatch z), fun _ => ⟨true, KO.y, fun _ a na => ?_, fun z => nomatch z⟩⟩
    refine ⟨_, rfl, C i, .ref (C 0), .ref (C 0), _, rfl, rfl, KO.ex, rfl, fun _ r => r, KO.k 0 (by decide), (by show 2 ≤ sizeLine; decide), fun t0 n0 => ?_⟩
    refine ⟨_, rfl, C i, .ref (C 1), .ref (C 1), _, rfl, rfl, KO.ex, rfl, fun _ r => r, KO.k 1 (by decide), (by show 2 ≤ sizeLine; decide), fun t1 n1 => ?_⟩
    refine ⟨(by show 2 ≤ sizeLine; decide), fun w0 m0 => ?_⟩
    refine ⟨_, rfl, ?_⟩
    refine ⟨_, rfl, C i, .ref (C 2), .ref (C 2), _, rfl, rfl, KO.ex, rfl, fun _ r => r, KO.k 2 (by decide), (by show 2 ≤ sizeLine; decide), fun t2 n2 => ?_⟩
    refine ⟨(by show 1 ≤ sizeLine; decide), fun w1 m1 => ?_⟩
    refine ⟨w0, w1, _, _, rfl, rfl, ((same_upd n2).trans (same_upd m1)) _ _ upd_same, upd_same, (by show 3 ≤ sizeLine; decide), fun w2 m2 => ?_⟩
    refine ⟨_, rfl, ?_⟩
    refine ⟨_, rfl, C i, .ref (C 3), .ref (C 3), _, rfl, rfl, KO.ex, rfl, fun _ r => r, KO.k 3 (by decide), (by show 2 ≤ sizeLine; decide), fun t3 n3 => ?_⟩
    refine ⟨_, rfl, C i, .ref (C 4), .ref (C 4), _, rfl, rfl, KO.ex, rfl, fun _ r => r, KO.k 4 (by decide), (by show 2 ≤ sizeLine; decide), fun t4 n4 => ?_⟩
    refine ⟨(by show 2 ≤ sizeLine; decide), fun w3 m3 => ?_⟩
    refine ⟨w2, w3, _, _, rfl, rfl, (((same_upd n3).trans (same_upd n4)).trans (same_upd m3)) _ _ upd_same, upd_same, (by show 5 ≤ sizeLine; decide), fun w4 m4 => ?_⟩
    refine ⟨_, rfl, ?_⟩
    refine ⟨_, rfl, C i, .ref (C 5), .ref (C 5), _, rfl, rfl, KO.ex, rfl, fun _ r => r, KO.k 5 (by decide), (by show 2 ≤ sizeLine; decide), fun t5 n5 => ?_⟩
    refine ⟨_, rfl, C i, .ref (C 6), .ref (C 6), _, rfl, rfl, KO.ex, rfl, fun _ r => r, KO.k 6 (by decide), (by show 2 ≤ sizeLine; decide), fun t6 n6 => ?_⟩
    refine ⟨(by show 2 ≤ sizeLine; decide), fun w5 m5 => ?_⟩
    refine ⟨w4, w5, _, _, rfl, rfl, (((same_upd n5).trans (same_upd n6)).trans (same_upd m5)) _ _ upd_same, upd_same, (by show 7 ≤ sizeLine; decide), fun w6 m6 => ?_⟩
    refine ⟨_, rfl, ?_⟩
    refine ⟨_, rfl, C i, .ref (C 7), .ref (C 7), _, rfl, rfl, KO.ex, rfl, fun _ r => r, KO.k 7 (by decide), (by show 2 ≤ sizeLine; decide), fun t7 n7 => ?_⟩
    refine ⟨_, rfl, C i, .ref (C 8), .ref (C 8), _, rfl, rfl, KO.ex, rfl, fun _ r => r, KO.k 8 (by decide), (by show 2 ≤ sizeLine; decide), fun t8 n8 => ?_⟩
    refine ⟨(by show 2 ≤ sizeLine; decide), fun w7 m7 => ?_⟩
    refine ⟨w6, w7, _, _, rfl, rfl, (((same_upd n7).trans (same_upd n8)).trans (same_upd m7)) _ _ upd_same, upd_same, (by show 9 ≤ sizeLine; decide), fun w8 m8 => ?_⟩
    refine ⟨_, rfl, ?_⟩
    refine ⟨_, rfl, C i, .ref (C 9), .ref (C 9), _, rfl, rfl, KO.ex, rfl, fun _ r => r, KO.k 9 (by decide), (by show 2 ≤ sizeLine; decide), fun t9 n9 => ?_⟩
    refine ⟨(by show 1 ≤ sizeLine; decide), fun w9 m9 => ?_⟩
    refine ⟨w8, w9, _, _, rfl, rfl, ((same_upd n9).trans (same_upd m9)) _ _ upd_same, upd_same, (by show 10 ≤ sizeLine; decide), fun w10 m10 => ?_⟩
    refine ⟨_, rfl, .inl ⟨rfl, _, SqL.of upd_same⟩, ?_⟩
    refine ⟨_, rfl, C i, .ref (C 10), .ref (C 10), _, rfl, rfl, KO.ex, rfl, fun _ r => r, KO.k 10 (by decide), (by show 2 ≤ sizeLine; decide), fun t10 n10 => ?_⟩
    refine ⟨w10, _, _, rfl, rfl, same_upd n10 _ _ upd_same, (by show 10 < sizeLine; decide), ?_⟩
    have e0 := (((((((((((((((((((((same_upd n1).trans (same_upd m0)).trans (same_upd n2)).trans (same_upd m1)).trans (same_upd m2)).trans (same_upd n3)).trans (same_upd n4)).trans (same_upd m3)).trans (same_upd m4)).trans (same_upd n5)).trans (same_upd n6)).trans (same_upd m5)).trans (same_upd m6)).trans (same_upd n7)).trans (same_upd n8)).trans (same_upd m7)).trans (same_upd m8)).trans (same_upd n9)).trans (same_upd m9)).trans (same_upd m10)).trans (same_upd (o := .tup [.str "NothingLeft", .bl (decide (i = 10))]) n10)) _ _ (upd_same (a := t0))
    have e1 := ((((((((((((((((((((same_upd m0).trans (same_upd n2)).trans (same_upd m1)).trans (same_upd m2)).trans (same_upd n3)).trans (same_upd n4)).trans (same_upd m3)).trans (same_upd m4)).trans (same_upd n5)).trans (same_upd n6)).trans (same_upd m5)).trans (same_upd m6)).trans (same_upd n7)).trans (same_upd n8)).trans (same_upd m7)).trans (same_upd m8)).trans (same_upd n9)).trans (same_upd m9)).trans (same_upd m10)).trans (same_upd (o := .tup [.str "NothingLeft", .bl (decide (i = 10))]) n10)) _ _ (upd_same (a := t1))
    have e2 := ((((((((((((((((((same_upd m1).trans (same_upd m2)).trans (same_upd n3)).trans (same_upd n4)).trans (same_upd m3)).trans (same_upd m4)).trans (same_upd n5)).trans (same_upd n6)).trans (same_upd m5)).trans (same_upd m6)).trans (same_upd n7)).trans (same_upd n8)).trans (same_upd m7)).trans (same_upd m8)).trans (same_upd n9)).trans (same_upd m9)).trans (same_upd m10)).trans (same_upd (o := .tup [.str "NothingLeft", .bl (decide (i = 10))]) n10)) _ _ (upd_same (a := t2))
    have e3 := (((((((((((((((same_upd n4).trans (same_upd m3)).trans (same_upd m4)).trans (same_upd n5)).trans (same_upd n6)).trans (same_upd m5)).trans (same_upd m6)).trans (same_upd n7)).trans (same_upd n8)).trans (same_upd m7)).trans (same_upd m8)).trans (same_upd n9)).trans (same_upd m9)).trans (same_upd m10)).trans (same_upd (o := .tup [.str "NothingLeft", .bl (decide (i = 10))]) n10)) _ _ (upd_same (a := t3))
    have e4 := ((((((((((((((same_upd m3).trans (same_upd m4)).trans (same_upd n5)).trans (same_upd n6)).trans (same_upd m5)).trans (same_upd m6)).trans (same_upd n7)).trans (same_upd n8)).trans (same_upd m7)).trans (same_upd m8)).trans (same_upd n9)).trans (same_upd m9)).trans (same_upd m10)).trans (same_upd (o := .tup [.str "NothingLeft", .bl (decide (i = 10))]) n10)) _ _ (upd_same (a := t4))
    have e5 := (((((((((((same_upd n6).trans (same_upd m5)).trans (same_upd m6)).trans (same_upd n7)).trans (same_upd n8)).trans (same_upd m7)).trans (same_upd m8)).trans (same_upd n9)).trans (same_upd m9)).trans (same_upd m10)).trans (same_upd (o := .tup [.str "NothingLeft", .bl (decide (i = 10))]) n10)) _ _ (upd_same (a := t5))
    have e6 := ((((((((((same_upd m5).trans (same_upd m6)).trans (same_upd n7)).trans (same_upd n8)).trans (same_upd m7)).trans (same_upd m8)).trans (same_upd n9)).trans (same_upd m9)).trans (same_upd m10)).trans (same_upd (o := .tup [.str "NothingLeft", .bl (decide (i = 10))]) n10)) _ _ (upd_same (a := t6))
    have e7 := (((((((same_upd n8).trans (same_upd m7)).trans (same_upd m8)).trans (same_upd n9)).trans (same_upd m9)).trans (same_upd m10)).trans (same_upd (o := .tup [.str "NothingLeft", .bl (decide (i = 10))]) n10)) _ _ (upd_same (a := t7))
    have e8 := ((((((same_upd m7).trans (same_upd m8)).trans (same_upd n9)).trans (same_upd m9)).trans (same_upd m10)).trans (same_upd (o := .tup [.str "NothingLeft", .bl (decide (i = 10))]) n10)) _ _ (upd_same (a := t8))
    have e9 := (((same_upd m9).trans (same_upd m10)).trans (same_upd (o := .tup [.str "NothingLeft", .bl (decide (i = 10))]) n10)) _ _ (upd_same (a := t9))
    have ew := (same_upd (o := .tup [.str "NothingLeft", .bl (decide (i = 10))]) n10) _ _ (upd_same (a := w10))
    have sx := ((((((((((((((((((((((same_upd n0).trans (same_upd n1)).trans (same_upd m0)).trans (same_upd n2)).trans (same_upd m1)).trans (same_upd m2)).trans (same_upd n3)).trans (same_upd n4)).trans (same_upd m3)).trans (same_upd m4)).trans (same_upd n5)).trans (same_upd n6)).trans (same_upd m5)).trans (same_upd m6)).trans (same_upd n7)).trans (same_upd n8)).trans (same_upd m7)).trans (same_upd m8)).trans (same_upd n9)).trans (same_upd m9)).trans (same_upd m10)).trans (same_upd (o := .tup [.str "NothingLeft", .bl (decide (i = 10))]) n10))
    have nw := ((((((((((((((((((((same_upd n0).trans (same_upd n1)).trans (same_upd m0)).trans (same_upd n2)).trans (same_upd m1)).trans (same_upd m2)).trans (same_upd n3)).trans (same_upd n4)).trans (same_upd m3)).trans (same_upd m4)).trans (same_upd n5)).trans (same_upd n6)).trans (same_upd m5)).trans (same_upd m6)).trans (same_upd n7)).trans (same_upd n8)).trans (same_upd m7)).trans (same_upd m8)).trans (same_upd n9)).trans (same_upd m9)).free m10
    have sf := same_fresh (o := .lst (([.ref t0, .ref t1, .ref t2, .ref t3, .ref t4, .ref t5, .ref t6, .ref t7, .ref t8, .ref t9] : List V) ++ [.ref t10])) sx nw
    refine kin_rd KO upd_same rfl ?_ fun p H3 s3 e => ?_
    · intro k x hk
      have no : ∀ {t : Addr} {xs ys : List V} {Hx : Hp}, Hx t = some (.tup xs) → Hx w10 = some (.lst ys) → t ≠ w10 := fun h1 h2 => ne_of h1 h2 (fun z => nomatch z)
      match k, hk with
      | 0, hk => exact ⟨t0, (Option.some.inj hk).symm, by rw [upd_ne (no e0 ew)]; exact e0⟩
      | 1, hk => exact ⟨t1, (Option.some.inj hk).symm, by rw [upd_ne (no e1 ew)]; exact e1⟩
      | 2, hk => exact ⟨t2, (Option.some.inj hk).symm, by rw [upd_ne (no e2 ew)]; exact e2⟩
      | 3, hk => exact ⟨t3, (Option.some.inj hk).symm, by rw [upd_ne (no e3 ew)]; exact e3⟩
      | 4, hk => exact ⟨t4, (Option.some.inj hk).symm, by rw [upd_ne (no e4 ew)]; exact e4⟩
      | 5, hk => exact ⟨t5, (Option.some.inj hk).symm, by rw [upd_ne (no e5 ew)]; exact e5⟩
      | 6, hk => exact ⟨t6, (Option.some.inj hk).symm, by rw [upd_ne (no e6 ew)]; exact e6⟩
      | 7, hk => exact ⟨t7, (Option.some.inj hk).symm, by rw [upd_ne (no e7 ew)]; exact e7⟩
      | 8, hk => exact ⟨t8, (Option.some.inj hk).symm, by rw [upd_ne (no e8 ew)]; exact e8⟩
      | 9, hk => exact ⟨t9, (Option.some.inj hk).symm, by rw [upd_ne (no e9 ew)]; exact e9⟩
      | 10, hk => exact ⟨t10, (Option.some.inj hk).symm, by rw [upd_ne (no (upd_same (a := t10)) ew)]; exact upd_same⟩
      | k + 11, hk => exact nomatch hk
    · exact ⟨_, rfl, q p H3 (sf.trans s3) e⟩
set_option maxHeartbeats 4000000 in
theorem ok_p_after_ride {P : Program} {w : World} {K : PySem.W.Frag} {mg : Str → Option Value} {base : Heap} {f : Addr} {fd : FuncData} (F : Fun K "after_ride" "after_ride" s_p_after_ride f fd) (b_tuple : mg "tuple" = none) :
    FnOk P w K mg base CX0 1 f fd ["purse"] (sp_p_after_ride K) := by
  refine F.ok sc_p_after_ride (fun vs H Q E h => ?_) (fun cdv A outer s H vs Q E hr h => ?_)
  · obtain ⟨pA, x, zs, rfl, ⟨sA, hP1, hP2⟩, h3, q1, q2⟩ := h
    rfl
  obtain ⟨pA, x, zs, rfl, ⟨sA, hP1, hP2⟩, h3, q1, q2⟩ := h
  refine ⟨_, (pss_cons (ps_asg (pv 0) (pg_tup rfl (pgs_cons (pg_name (i := 1) sc_p_after_ride.nd rfl (Or.inl rfl)) (pgs_cons (pg_name (i := 2) sc_p_after_ride.nd rfl (Or.inl rfl)) pgs_nil))))
        (pss_cons (ps_if (pt_cmpR op_lt (pv 1) pe_int (nomark _)) (pss_one (ps_ret pe_non)) pss_nil)
        (pss_one (ps_ret (pe_tup (pa_cons (pe_op op_sub (pv 1) pe_int) (pa_cons (pe_callTy call_tuple_of (by rfl) b_tuple PyProof.Rows.boot_tuple (pa_cons (pe_lc (own := [("many", 3)]) (g := gName 3) (tt := tYes) rfl sc_p_after_ride.nd (pi_tup (pv 2)) (blkOk_by (own := [("many", 3)]) (N := ["purse", "rides", "stamps", "many"]) (sc := defScope s_p_after_ride) (by decide +kernel)) (fun _ _ _ _ _ => (pg_name (i := 3) sc_p_after_ride.nd rfl (Or.inl rfl))) (fun _ _ _ _ _ => pts_nil) (fun _ _ _ _ _ => (pe_op op_add (pv 3) pe_int))) pa_nil)) pa_nil))))))), ?_⟩
  refine ⟨_, rfl, pA, _, rfl, hP1, rfl, _, _, rfl, _, _, rfl, rfl, ?_⟩
  refine ⟨_, rfl, _, _, rfl, rfl, _, rfl, ite2 (fun c => ?_) (fun c => ?_)⟩
  · have c' := of_decide_eq_true c
    exact q1 (by omega)
  · have c' : ¬ x < 1 := fun z => c (decide_eq_true z)
    refine ⟨_, rfl, _, _, rfl, rfl, _, rfl, sA, rfl, ⟨_, hP2⟩, fun D nD => ?_⟩
    refine lc_tup (K := K) (a := sA) (xs := zs.map V.int) (fun j H' => Same H H' ∧ H' D = some (.lst (((zs.take j).map (· + 1)).map V.int))) ?_ ?_ ?_ ?_
    · exact ⟨same_new (.refl _) nD, upd_same⟩
    · rintro j H' hj ⟨sm, e⟩
      exact Same.seqT sm hP2
    · rintro j y H' hj ⟨sm, e⟩
      obtain ⟨z, hz, rfl⟩ := get_map hj
      have hj' : j < zs.length := (List.getElem?_eq_some_iff.mp hz).1
      refine ⟨rfl, _, rfl, _, _, rfl, rfl, _, e, ?_, same_fresh sm nD, ?_⟩
      · rw [List.length_map, List.length_map, List.length_take]
        exact small1000 (by omega)
      · rw [upd_same, take_map _ hz, List.map_append]
        rfl
    · rintro H' ⟨sm, e⟩
      rw [List.length_map, List.take_length] at e
      refine ⟨D, _, rfl, .inl ⟨SqL.of e, fun t nt => ?_⟩⟩
      refine ⟨(by show 2 ≤ sizeLine; decide), fun p np => ?_⟩
      refine q2 (by omega) p t _ (same_new (same_new sm nt) np) upd_same ?_
      rw [upd_ne (ne_of_none (show (upd H' t (.tup ((zs.map (· + 1)).map V.int))) t = some _ from upd_same) np), upd_same]
set_option maxHeartbeats 4000000 in
theorem ok_m_ride {P : Program} {w : World} {K : PySem.W.Frag} {mg : Str → Option Value} {base : Heap} {f : Addr} {fd : FuncData} (F : Fun K "ride" "Kept.ride" s_m_ride f fd) {C : Addr} (T : KeptT K mg C) (D_p_after_ride : Def P w K mg base "after_ride" 1 ["purse"] (sp_p_after_ride K)) {C_NoRide : Addr} (T_NoRide : ExcT K mg "NoRide" C_NoRide) :
    FnOk P w K mg base (L2N.CX P w) 2 f fd ["self"] (sp_m_ride mg K C) := by
  refine okN F sc_m_ride (fun vs H Q E h => ?_) (fun cdv A outer s H vs Q E hr h => ?_)
  · obtain ⟨x, sA, cs, ks, k, rfl, ⟨hX, hG, h3, hlen⟩, q⟩ := h
    rfl
  obtain ⟨x, sA, cs, ks, k, rfl, ⟨hX, hG, h3, hlen⟩, q⟩ := h
  refine ⟨_, (pss_cons (ps_asg (pe_ix ix_list (pe_fld (pv 0) rfl) (pe_un un_neg pe_int) (fun _ _ => rfl)) (pg_tup rfl (pgs_cons (pg_name (i := 1) sc_m_ride.nd rfl (Or.inl rfl)) (pgs_cons (pg_name (i := 2) sc_m_ride.nd rfl (Or.inl rfl)) (pgs_cons (pg_name (i := 3) sc_m_ride.nd rfl (Or.inl rfl)) pgs_nil)))))
        (pss_cons (ps_set (i := 4) sc_m_ride.nd rfl (Or.inl rfl) (pe_def D_p_after_ride hr (pa_cons (pv 1) pa_nil)))
        (pss_cons (ps_if (pt_cmpR op_isN (pv 4) pe_non (nomark _)) (pss_one (ps_raiseX T_NoRide (L2N.takes_of rfl rfl rfl rfl))) pss_nil)
        (PSs.nox (pss_one (ps_expr (pe_bm PySem.F.plainAttrs_list PySem.F.slot_list_append PySem.F.type_list_append mt_append (pe_fld (pv 0) rfl) (pa_cons (pe_tup (pa_cons (pv 4) (pa_cons (pe_op op_add (pv 2) pe_int) (pa_cons (pv 3) pa_nil)))) pa_nil)))))))), ?_⟩
  obtain ⟨dx, cA, us, t, pA, h1, h2, hs, h4, h5, h6⟩ := hX.top
  have hul := h4.len
  have hl3 : k.ss.length ≤ 3 := by rw [hG.len]; exact h3
  refine ⟨_, rfl, x, C, dx, _, _, rfl, h1, T.cl, T.nS, kf_states _ _, _, rfl, sA, _, _, _, rfl, rfl, SqL.of hs, atI_last _ _, ?_⟩
  refine ⟨t, _, rfl, h5, rfl, _, _, rfl, _, _, rfl, _, _, rfl, rfl, ?_⟩
  by_cases c : 0 < k.r
  · have q : DueM mg K C x sA cs ks k .ride H Q E (.ok ⟨k.r - 1, k.ss.map (· + 1), k.rd + 1, k.ln⟩) := by
      have e : stepK cs k .ride .non = .ok ⟨k.r - 1, k.ss.map (· + 1), k.rd + 1, k.ln⟩ := if_pos c
      rw [e] at q
      exact q
    refine ⟨_, rfl, pA, k.r, k.ss, rfl, h6, hl3, fun z => absurd c z, fun _ p s' H1 s1 e1 e1' => ?_⟩
    refine ⟨_, rfl, rfl, _, rfl, iteN (fun e => nomatch of_decide_eq_true e) ?_⟩
    have h1' := s1 _ _ h1
    have hs' := s1 _ _ hs
    refine ⟨_, rfl, x, C, dx, _, _, rfl, h1', T.cl, T.nS, kf_states _ _, .inl ⟨rfl, _, SqL.of hs'⟩, ?_⟩
    refine ⟨_, rfl, _, rfl, _, _, rfl, rfl, _, rfl, (by show 3 ≤ sizeLine; decide), fun t2 nt2 => ?_⟩
    have s2 := same_upd (o := .tup [.ref p, .int (k.rd + 1), .int k.ln]) nt2
    have hs2 := s2 _ _ hs'
    refine ⟨sA, _, _, rfl, rfl, hs2, ?_, ?_⟩
    · rw [List.length_append, List.length_map, List.length_singleton]
      exact smallM (by omega)
    have e : us.map V.ref ++ [V.ref t] = (us ++ [t]).map V.ref := by
      rw [List.map_append]
      rfl
    rw [e] at hs2 ⊢
    refine q _ (fun b o eb nb => ?_) (hX.push (k := ⟨k.r - 1, k.ss.map (· + 1), k.rd + 1, k.ln⟩) (s1.trans s2) hs2 ((h4.same (s1.trans s2)).app (.cons (Same.seqT (s1.trans s2) h5) (h6.same (s1.trans s2)) .nil)) (SqT.of upd_same) ⟨s', Same.seqT s2 (SqT.of e1), Same.seqT s2 (SqT.of e1')⟩)
    rw [upd_ne nb]
    exact (s1.trans s2) _ _ eb
  · have q : RefE mg H E "NoRide" := by
      have e : stepK cs k .ride .non = .ref 7 := if_neg c
      rw [e] at q
      exact q
    refine ⟨_, rfl, pA, k.r, k.ss, rfl, h6, hl3, fun _ => ?_, fun z => absurd z c⟩
    refine ⟨_, rfl, rfl, _, rfl, iteP (decide_eq_true rfl) ?_⟩
    exact q H _ (.refl H) T_NoRide.g
set_option maxHeartbeats 4000000 in
theorem ok_p_is_kind {P : Program} {w : World} {K : PySem.W.Frag} {mg : Str → Option Value} {base : Heap} {f : Addr} {fd : FuncData} (F : Fun K "is_kind" "is_kind" s_p_is_kind f fd) (D_p_is_within : Def P w K mg base "is_within" 1 ["thing", "least", "most"] (sp_p_is_within K)) (b_len : mg "len" = none) :
    FnOk P w K mg base CX0 2 f fd ["cards", "thing"] (sp_p_is_kind K) := by
  refine F.ok sc_p_is_kind (fun vs H Q E h => ?_) (fun cdv A outer s H vs Q E hr h => ?_)
  · obtain ⟨cA, cs, x, d, rfl, hC, hd, q⟩ := h
    rfl
  obtain ⟨cA, cs, x, d, rfl, hC, hd, q⟩ := h
  refine ⟨_, (pss_one (ps_ret (pe_def D_p_is_within hr (pa_cons (pv 1) (pa_cons pe_int (pa_cons (pe_op op_sub (pe_callB call_len_seq (by rfl) b_len PySem.boot_len (pa_cons (pv 0) pa_nil)) pe_int) pa_nil)))))), ?_⟩
  exact ⟨_, rfl, _, rfl, cA, _, rfl, .inr hC, _, _, rfl, rfl, x, d, _, _, rfl, hd, q⟩
set_option maxHeartbeats 4000000 in
theorem ok_p_after_giving {P : Program} {w : World} {K : PySem.W.Frag} {mg : Str → Option Value} {base : Heap} {f : Addr} {fd : FuncData} (F : Fun K "after_giving" "after_giving" s_p_after_giving f fd) (b_list : mg "list" = none) (b_tuple : mg "tuple" = none) :
    FnOk P w K mg base CX0 1 f fd ["cards", "purse", "kind"] (sp_p_after_giving K) := by
  refine F.ok sc_p_after_giving (fun vs H Q E h => ?_) (fun cdv A outer s H vs Q E hr h => ?_)
  · obtain ⟨cA, pA, cs, x, zs, i, c, z, rfl, hC, ⟨sA, hP1, hP2⟩, hl, h3, i0, i1, hcg, hzg, q1, q2⟩ := h
    rfl
  obtain ⟨cA, pA, cs, x, zs, i, c, z, rfl, hC, ⟨sA, hP1, hP2⟩, hl, h3, i0, i1, hcg, hzg, q1, q2⟩ := h
  refine ⟨_, (pss_cons (ps_asg (pv 1) (pg_tup rfl (pgs_cons (pg_name (i := 3) sc_p_after_giving.nd rfl (Or.inl rfl)) (pgs_cons (pg_name (i := 4) sc_p_after_giving.nd rfl (Or.inl rfl)) pgs_nil))))
        (pss_cons (ps_if (pt_cmpR op_lt (pe_ix ix_tup (pv 4) (pv 2) (fun _ _ => rfl)) (pe_ix ix_tup (pv 0) (pv 2) (fun _ _ => rfl)) (nomark _)) (pss_one (ps_ret pe_non)) pss_nil)
        (pss_cons (ps_set (i := 5) sc_p_after_giving.nd rfl (Or.inl rfl) (pe_callTy call_list_of (by rfl) b_list PyProof.Rows.boot_list (pa_cons (pv 4) pa_nil)))
        (pss_cons (ps_augS (pv 5) (pv 2) get_lst (pe_ix ix_tup (pv 0) (pv 2) (fun _ _ => rfl)) ip_sub set_list)
        (pss_one (ps_ret (pe_tup (pa_cons (pe_op op_add (pv 3) pe_int) (pa_cons (pe_callTy call_tuple_of (by rfl) b_tuple PyProof.Rows.boot_tuple (pa_cons (pv 5) pa_nil)) pa_nil))))))))), ?_⟩
  have hza : atI (zs.map V.int) i = some (.int z) := at_of (j := i.toNat) (by omega) (by rw [List.getElem?_map, hzg]; rfl)
  have hca : atI (cs.map V.int) i = some (.int c) := at_of (j := i.toNat) (by omega) (by rw [List.getElem?_map, hcg]; rfl)
  refine ⟨_, rfl, pA, _, rfl, hP1, rfl, _, _, rfl, _, _, rfl, rfl, ?_⟩
  refine ⟨_, rfl, _, rfl, sA, _, _, _, rfl, rfl, hP2, hza, _, rfl, _, rfl, cA, _, _, _, rfl, rfl, hC, hca, _, _, rfl, rfl, _, rfl, ite2 (fun e => ?_) (fun e => ?_)⟩
  · exact q1 (of_decide_eq_true e)
  · have e' : ¬ z < c := fun g => e (decide_eq_true g)
    refine ⟨_, rfl, sA, _, rfl, .inr hP2, fun l nl => ?_⟩
    have s1 := same_upd (o := .lst (zs.map V.int)) nl
    have hix : ixN (zs.map V.int).length i = some i.toNat := by
      unfold ixN
      rw [if_pos i0, if_pos (by rw [List.length_map]; omega)]
    refine ⟨_, rfl, _, rfl, l, _, i, _, rfl, rfl, SqL.of upd_same, i0, by omega, (by rw [List.getElem?_map, hzg]; rfl), _, rfl, _, rfl, cA, _, _, _, rfl, rfl, Same.seqT s1 hC, hca, _, _, rfl, rfl, l, _, i, _, rfl, rfl, upd_same, hix, ?_⟩
    have el : (upd (upd H l (.lst (zs.map V.int))) l (.lst ((zs.map V.int).set i.toNat (.int (z - c))))) l = some (.lst ((zs.map V.int).set i.toNat (.int (z - c)))) := upd_same
    have sl : Same H (upd (upd H l (.lst (zs.map V.int))) l (.lst ((zs.map V.int).set i.toNat (.int (z - c))))) := same_fresh s1 nl
    refine ⟨_, rfl, _, _, rfl, rfl, _, rfl, l, _, rfl, .inl ⟨SqL.of el, fun t nt => ?_⟩⟩
    refine ⟨(by show 2 ≤ sizeLine; decide), fun p np => ?_⟩
    refine q2 (by omega) p t _ (same_new (same_new sl nt) np) upd_same ?_
    rw [upd_ne (ne_of_none upd_same np), upd_same, ← List.map_set]
set_option maxHeartbeats 4000000 in
theorem ok_m_give {P : Program} {w : World} {K : PySem.W.Frag} {mg : Str → Option Value} {base : Heap} {f : Addr} {fd : FuncData} (F : Fun K "give" "Kept.give" s_m_give f fd) {C : Addr} (T : KeptT K mg C) (D_p_is_kind : Def P w K mg base "is_kind" 2 ["cards", "thing"] (sp_p_is_kind K)) (D_p_after_giving : Def P w K mg base "after_giving" 1 ["cards", "purse", "kind"] (sp_p_after_giving K)) {C_NoKind : Addr} (T_NoKind : ExcT K mg "NoKind" C_NoKind) {C_TooFew : Addr} (TT : TfT P w K mg base C_TooFew) :
    FnOk P w K mg base (L2N.CX P w) 5 f fd ["self", "kind"] (sp_m_give mg K C) := by
  refine okN F sc_m_give (fun vs H Q E h => ?_) (fun cdv A outer s H vs Q E hr h => ?_)
  · obtain ⟨x, sA, cs, ks, k, y, rfl, ⟨hX, hG, h3, hlen⟩, hy, q⟩ := h
    rfl
  obtain ⟨x, sA, cs, ks, k, y, rfl, ⟨hX, hG, h3, hlen⟩, hy, q⟩ := h
  refine ⟨_, (pss_cons (ps_if (pt_not (pt_val (pe_def D_p_is_kind hr (pa_cons (pe_fld (pv 0) rfl) (pa_cons (pv 1) pa_nil))))) (pss_one (ps_raiseX T_NoKind (L2N.takes_of rfl rfl rfl rfl))) pss_nil)
        (pss_cons (ps_asg (pe_ix ix_list (pe_fld (pv 0) rfl) (pe_un un_neg pe_int) (fun _ _ => rfl)) (pg_tup rfl (pgs_cons (pg_name (i := 2) sc_m_give.nd rfl (Or.inl rfl)) (pgs_cons (pg_name (i := 3) sc_m_give.nd rfl (Or.inl rfl)) (pgs_cons (pg_name (i := 4) sc_m_give.nd rfl (Or.inl rfl)) pgs_nil)))))
        (pss_cons (ps_set (i := 5) sc_m_give.nd rfl (Or.inl rfl) (pe_def D_p_after_giving hr (pa_cons (pe_fld (pv 0) rfl) (pa_cons (pv 2) (pa_cons (pv 1) pa_nil)))))
        (pss_cons (ps_if (pt_cmpR op_isN (pv 5) pe_non (nomark _)) (pss_one (ps_raiseT TT hr (L2N.takes_of rfl rfl rfl rfl) (pv 1))) pss_nil)
        (PSs.nox (pss_one (ps_expr (pe_bm PySem.F.plainAttrs_list PySem.F.slot_list_append PySem.F.type_list_append mt_append (pe_fld (pv 0) rfl) (pa_cons (pe_tup (pa_cons (pv 5) (pa_cons (pv 3) (pa_cons (pv 4) pa_nil)))) pa_nil))))))))), ?_⟩
  obtain ⟨dx, cA, us, t, pA, h1, h2, hs, h4, h5, h6⟩ := hX.top
  have hul := h4.len
  refine ⟨_, rfl, x, C, dx, _, _, rfl, h1, T.cl, T.nC, kf_cards _ _, _, rfl, cA, _, y, numD y, rfl, h2, hy.dp, _, rfl, ?_⟩
  rw [List.length_map]
  cases hw : withinD 0 ((cs.length : Int) - 1) (numD y) with
  | false =>
    rw [give_out hy hw] at q
    exact (show RefE mg H E "NoKind" from q) H _ (.refl H) T_NoKind.g
  | true =>
    obtain ⟨i, rfl, i0, i1⟩ := numD_in hy hw
    obtain ⟨c, _, hcg, _⟩ := at_int (ns := cs) (k := i) i0 (by omega)
    obtain ⟨z, _, hzg, _⟩ := at_int (ns := k.ss) (k := i) i0 (by rw [hG.len]; omega)
    refine ⟨_, rfl, x, C, dx, _, _, rfl, h1, T.cl, T.nS, kf_states _ _, _, rfl, sA, _, _, _, rfl, rfl, SqL.of hs, atI_last _ _, ?_⟩
    refine ⟨t, _, rfl, h5, rfl, _, _, rfl, _, _, rfl, _, _, rfl, rfl, ?_⟩
    by_cases hcz : c ≤ z
    · have q : DueM mg K C x sA cs ks k .give H Q E (.ok ⟨k.r + 1, k.ss.set i.toNat (z - c), k.rd, k.ln⟩) := by
        rw [give_ok i0 (by omega) hcg hzg hcz] at q
        exact q
      refine ⟨_, rfl, x, C, dx, _, _, rfl, h1, T.cl, T.nC, kf_cards _ _, _, rfl, _, rfl, cA, pA, cs, k.r, k.ss, i, c, z, rfl, h2, h6, hG.len, h3, i0, by omega, hcg, hzg, fun y => by omega, fun _ p s' H1 s1 e1 e1' => ?_⟩
      refine ⟨_, rfl, rfl, _, rfl, iteN (fun e => nomatch of_decide_eq_true e) ?_⟩
      have h1' := s1 _ _ h1
      have hs' := s1 _ _ hs
      refine ⟨_, rfl, x, C, dx, _, _, rfl, h1', T.cl, T.nS, kf_states _ _, .inl ⟨rfl, _, SqL.of hs'⟩, ?_⟩
      refine ⟨_, rfl, _, rfl, _, rfl, (by show 3 ≤ sizeLine; decide), fun t2 nt2 => ?_⟩
      have s2 := same_upd (o := .tup [.ref p, .int k.rd, .int k.ln]) nt2
      have hs2 := s2 _ _ hs'
      refine ⟨sA, _, _, rfl, rfl, hs2, ?_, ?_⟩
      · rw [List.length_append, List.length_map, List.length_singleton]
        exact smallM (by omega)
      have e : us.map V.ref ++ [V.ref t] = (us ++ [t]).map V.ref := by
        rw [List.map_append]
        rfl
      rw [e] at hs2 ⊢
      refine q _ (fun b o eb nb => ?_) (hX.push (k := ⟨k.r + 1, k.ss.set i.toNat (z - c), k.rd, k.ln⟩) (s1.trans s2) hs2 ((h4.same (s1.trans s2)).app (.cons (Same.seqT (s1.trans s2) h5) (h6.same (s1.trans s2)) .nil)) (SqT.of upd_same) ⟨s', Same.seqT s2 (SqT.of e1), Same.seqT s2 (SqT.of e1')⟩)
      rw [upd_ne nb]
      exact (s1.trans s2) _ _ eb
    · have q : FewE mg H E i := by
        rw [give_few i0 (by omega) hcg hzg (by omega)] at q
        exact q
      refine ⟨_, rfl, x, C, dx, _, _, rfl, h1, T.cl, T.nC, kf_cards _ _, _, rfl, _, rfl, cA, pA, cs, k.r, k.ss, i, c, z, rfl, h2, h6, hG.len, h3, i0, by omega, hcg, hzg, fun _ => ?_, fun y => absurd y hcz⟩
      refine ⟨_, rfl, rfl, _, rfl, iteP (decide_eq_true rfl) ?_⟩
      exact ⟨_, rfl, i, rfl, i0, by omega, fun d H2 s2 e2 => q d H2 _ s2 TT.g e2⟩
set_option maxHeartbeats 4000000 in
theorem ok_p_refuse_no_number {P : Program} {w : World} {K : PySem.W.Frag} {mg : Str → Option Value} {base : Heap} {f : Addr} {fd : FuncData} (F : Fun K "refuse_no_number" "refuse_no_number" s_p_refuse_no_number f fd) (D_p_is_within : Def P w K mg base "is_within" 1 ["thing", "least", "most"] (sp_p_is_within K)) {t_MOST : Tok} (g_MOST : mg "MOST" = some (.int 1000000000000000000 t_MOST)) {C_NoNumber : Addr} (T_NoNumber : ExcT K mg "NoNumber" C_NoNumber) :
    FnOk P w K mg base (L2N.CX P w) 2 f fd ["thing", "least"] (sp_p_refuse_no_number mg K) := by
  refine okN F sc_p_refuse_no_number (fun vs H Q E h => ?_) (fun cdv A outer s H vs Q E hr h => ?_)
  · obtain ⟨x, d, lo, rfl, hd, hlo, q1, q2⟩ := h
    rfl
  obtain ⟨x, d, lo, rfl, hd, hlo, q1, q2⟩ := h
  refine ⟨_, (pss_one (ps_if (pt_not (pt_val (pe_def D_p_is_within hr (pa_cons (pv 0) (pa_cons (pv 1) (pa_cons (pe_glob (v := .int 1000000000000000000) rfl g_MOST ⟨_, rfl⟩) pa_nil)))))) (pss_one (ps_raiseF T_NoNumber (L2N.takes_of rfl rfl rfl rfl) (pe_joined (PJ.cons pe_str (PJ.cons (pe_fmt (pv 1)) (PJ.cons pe_str PJ.nil)))))) pss_nil)), ?_⟩
  subst hlo
  refine ⟨_, rfl, _, rfl, x, d, 1, 1000000000000000000, rfl, hd, _, rfl, ?_⟩
  cases z : withinD 1 1000000000000000000 d with
  | true => exact q1 z
  | false =>
    refine ⟨_, rfl, by decide +kernel, _, rfl, .inr ⟨1, rfl, by decide, _, rfl, by decide +kernel, _, rfl, by decide +kernel, ?_⟩⟩
    exact q2 z H _ (.refl H) T_NoNumber.g
set_option maxHeartbeats 4000000 in
theorem ok_m_lend {P : Program} {w : World} {K : PySem.W.Frag} {mg : Str → Option Value} {base : Heap} {f : Addr} {fd : FuncData} (F : Fun K "lend" "Kept.lend" s_m_lend f fd) {C : Addr} (T : KeptT K mg C) (D_p_refuse_no_number : DefX P w K mg base "refuse_no_number" 2 ["thing", "least"] (sp_p_refuse_no_number mg K)) :
    FnOk P w K mg base (L2N.CX P w) 3 f fd ["self", "number"] (sp_m_lend mg K C) := by
  refine okN F sc_m_lend (fun vs H Q E h => ?_) (fun cdv A outer s H vs Q E hr h => ?_)
  · obtain ⟨x, sA, cs, ks, k, y, rfl, ⟨hX, hG, h3, hlen⟩, hy, q⟩ := h
    rfl
  obtain ⟨x, sA, cs, ks, k, y, rfl, ⟨hX, hG, h3, hlen⟩, hy, q⟩ := h
  refine ⟨_, (pss_cons (ps_expr (pe_defX D_p_refuse_no_number hr (L2N.takes_of rfl rfl rfl rfl) (pa_cons (pv 1) (pa_cons pe_int pa_nil))))
        (PSs.nox (pss_cons (ps_asg (pe_ix ix_list (pe_fld (pv 0) rfl) (pe_un un_neg pe_int) (fun _ _ => rfl)) (pg_tup rfl (pgs_cons (pg_tup rfl (pgs_cons (pg_name (i := 2) sc_m_lend.nd rfl (Or.inl rfl)) (pgs_cons (pg_name (i := 3) sc_m_lend.nd rfl (Or.inl rfl)) pgs_nil))) (pgs_cons (pg_name (i := 4) sc_m_lend.nd rfl (Or.inl rfl)) (pgs_cons (pg_name (i := 5) sc_m_lend.nd rfl (Or.inl rfl)) pgs_nil)))))
        (pss_one (ps_expr (pe_bm PySem.F.plainAttrs_list PySem.F.slot_list_append PySem.F.type_list_append mt_append (pe_fld (pv 0) rfl) (pa_cons (pe_tup (pa_cons (pe_tup (pa_cons (pe_op op_add (pv 2) (pv 1)) (pa_cons (pv 3) pa_nil))) (pa_cons (pv 4) (pa_cons (pe_op op_add (pv 5) (pv 1)) pa_nil)))) pa_nil))))))), ?_⟩
  obtain ⟨dx, cA, us, t, pA, h1, h2, hs, h4, h5, zA, h6, h7⟩ := hX.top
  have hul := h4.len
  refine ⟨_, rfl, y, numD y, 1, rfl, hy.dp, rfl, fun hw => ?_, fun hw => ?_⟩
  · obtain ⟨n, rfl, n0, n1⟩ := numD_in hy hw
    have q : DueM mg K C x sA cs ks k .lend H Q E (.ok ⟨k.r + n, k.ss, k.rd, k.ln + n⟩) := by
      have e : stepK cs k .lend (.int n) = .ok ⟨k.r + n, k.ss, k.rd, k.ln + n⟩ := if_pos ⟨n0, n1⟩
      rw [e] at q
      exact q
    refine ⟨_, rfl, x, C, dx, _, _, rfl, h1, T.cl, T.nS, kf_states _ _, _, rfl, sA, _, _, _, rfl, rfl, SqL.of hs, atI_last _ _, ?_⟩
    refine ⟨t, _, rfl, h5, rfl, _, _, rfl, pA, _, rfl, h6, rfl, _, _, rfl, _, _, rfl, rfl, _, _, rfl, _, _, rfl, rfl, ?_⟩
    refine ⟨_, rfl, x, C, dx, _, _, rfl, h1, T.cl, T.nS, kf_states _ _, .inl ⟨rfl, _, SqL.of hs⟩, ?_⟩
    refine ⟨_, rfl, _, rfl, _, _, rfl, rfl, _, rfl, (by show 2 ≤ sizeLine; decide), fun p np => ?_⟩
    have s1 := same_upd (o := .tup [.int (k.r + n), .ref zA]) np
    refine ⟨_, rfl, _, rfl, _, rfl, _, _, rfl, rfl, (by show 3 ≤ sizeLine; decide), fun t2 nt2 => ?_⟩
    have s2 := same_upd (o := .tup [.ref p, .int k.rd, .int (k.ln + n)]) nt2
    have hs2 := (s1.trans s2) _ _ hs
    refine ⟨sA, _, _, rfl, rfl, hs2, ?_, ?_⟩
    · rw [List.length_append, List.length_map, List.length_singleton]
      exact smallM (by omega)
    have e : us.map V.ref ++ [V.ref t] = (us ++ [t]).map V.ref := by
      rw [List.map_append]
      rfl
    rw [e] at hs2 ⊢
    refine q _ (fun b o eb nb => ?_) (hX.push (k := ⟨k.r + n, k.ss, k.rd, k.ln + n⟩) (s1.trans s2) hs2 ((h4.same (s1.trans s2)).app (.cons (Same.seqT (s1.trans s2) h5) (Purse.same (s1.trans s2) ⟨zA, h6, h7⟩) .nil)) (SqT.of upd_same) ⟨zA, Same.seqT s2 (SqT.of upd_same), Same.seqT (s1.trans s2) h7⟩)
    rw [upd_ne nb]
    exact (s1.trans s2) _ _ eb
  · rw [lend_out hy hw] at q
    exact q
set_option maxHeartbeats 4000000 in
theorem ok_m_back {P : Program} {w : World} {K : PySem.W.Frag} {mg : Str → Option Value} {base : Heap} {f : Addr} {fd : FuncData} (F : Fun K "back" "Kept.back" s_m_back f fd) {C : Addr} (T : KeptT K mg C) (b_len : mg "len" = none) {C_NothingLeft : Addr} (T_NothingLeft : ExcT K mg "NothingLeft" C_NothingLeft) :
    FnOk P w K mg base (L2N.CX P w) 1 f fd ["self"] (sp_m_back mg K C) := by
  refine okN F sc_m_back (fun vs H Q E h => ?_) (fun cdv A outer s H vs Q E hr h => ?_)
  · obtain ⟨x, sA, cs, ks, k, rfl, hX, q1, q2⟩ := h
    rfl
  obtain ⟨x, sA, cs, ks, k, rfl, hX, q1, q2⟩ := h
  refine ⟨_, (pss_cons (ps_if (pt_cmpR op_eq (pe_callB call_len_seq (by rfl) b_len PySem.boot_len (pa_cons (pe_fld (pv 0) rfl) pa_nil)) pe_int (nomark _)) (pss_one (ps_raiseX T_NothingLeft (L2N.takes_of rfl rfl rfl rfl))) pss_nil)
        (PSs.nox (pss_one (ps_expr (pe_bm0 PySem.F.plainAttrs_list PySem.F.slot_list_pop PySem.F.type_list_pop mt_pop (pe_fld (pv 0) rfl)))))), ?_⟩
  obtain ⟨dx, cA, us, t, pA, h1, h2, hs, h4, h5, h6⟩ := hX.top
  have hul := h4.len
  refine ⟨_, rfl, x, C, dx, _, _, rfl, h1, T.cl, T.nS, kf_states _ _, sA, _, rfl, .inl (SqL.of hs), rfl, _, rfl, ite2 (fun e => ?_) (fun e => ?_)⟩
  · have e' : (((us.map V.ref ++ [V.ref t]).length : Nat) : Int) = 1 := V.int.inj (of_decide_eq_true e)
    rw [List.length_append, List.length_map, List.length_singleton] at e'
    exact q1 (List.eq_nil_of_length_eq_zero (by omega)) H _ (.refl H) T_NothingLeft.g
  · have e' : ¬ (((us.map V.ref ++ [V.ref t]).length : Nat) : Int) = 1 := fun z => e (decide_eq_true (congrArg V.int z))
    rw [List.length_append, List.length_map, List.length_singleton] at e'
    refine ⟨_, rfl, x, C, dx, _, _, rfl, h1, T.cl, T.nS, kf_states _ _, .inl ⟨rfl, _, SqL.of hs⟩, sA, _, .ref t, rfl, rfl, hs, ?_, ?_⟩
    · rw [List.length_append, List.length_singleton]
      exact List.getElem?_concat_length
    refine q2 (fun z => e' (by rw [hul, z]; rfl)) _ (fun b o eb nb => ?_) (hX.pop hs)
    rw [upd_ne nb]
    exact eb
set_option maxHeartbeats 4000000 in
theorem ok_m_pay {P : Program} {w : World} {K : PySem.W.Frag} {mg : Str → Option Value} {base : Heap} {f : Addr} {fd : FuncData} (F : Fun K "pay" "Kept.pay" s_m_pay f fd) {C : Addr} (T : KeptT K mg C) (D_p_refuse_no_number : DefX P w K mg base "refuse_no_number" 2 ["thing", "least"] (sp_p_refuse_no_number mg K)) {C_NoLoan : Addr} (T_NoLoan : ExcT K mg "NoLoan" C_NoLoan) {C_NoRide : Addr} (T_NoRide : ExcT K mg "NoRide" C_NoRide) :
    FnOk P w K mg base (L2N.CX P w) 3 f fd ["self", "number"] (sp_m_pay mg K C) := by
  refine okN F sc_m_pay (fun vs H Q E h => ?_) (fun cdv A outer s H vs Q E hr h => ?_)
  · obtain ⟨x, sA, cs, ks, k, y, rfl, ⟨hX, hG, h3, hlen⟩, hy, q⟩ := h
    rfl
  obtain ⟨x, sA, cs, ks, k, y, rfl, ⟨hX, hG, h3, hlen⟩, hy, q⟩ := h
  refine ⟨_, (pss_cons (ps_expr (pe_defX D_p_refuse_no_number hr (L2N.takes_of rfl rfl rfl rfl) (pa_cons (pv 1) (pa_cons pe_int pa_nil))))
        (pss_cons (ps_asg (pe_ix ix_list (pe_fld (pv 0) rfl) (pe_un un_neg pe_int) (fun _ _ => rfl)) (pg_tup rfl (pgs_cons (pg_tup rfl (pgs_cons (pg_name (i := 2) sc_m_pay.nd rfl (Or.inl rfl)) (pgs_cons (pg_name (i := 3) sc_m_pay.nd rfl (Or.inl rfl)) pgs_nil))) (pgs_cons (pg_name (i := 4) sc_m_pay.nd rfl (Or.inl rfl)) (pgs_cons (pg_name (i := 5) sc_m_pay.nd rfl (Or.inl rfl)) pgs_nil)))))
        (pss_cons (ps_if (pt_cmpR op_lt (pv 5) (pv 1) (nomark _)) (pss_one (ps_raiseX T_NoLoan (L2N.takes_of rfl rfl rfl rfl))) pss_nil)
        (pss_cons (ps_if (pt_cmpR op_lt (pv 2) (pv 1) (nomark _)) (pss_one (ps_raiseX T_NoRide (L2N.takes_of rfl rfl rfl rfl))) pss_nil)
        (PSs.nox (pss_one (ps_expr (pe_bm PySem.F.plainAttrs_list PySem.F.slot_list_append PySem.F.type_list_append mt_append (pe_fld (pv 0) rfl) (pa_cons (pe_tup (pa_cons (pe_tup (pa_cons (pe_op op_sub (pv 2) (pv 1)) (pa_cons (pv 3) pa_nil))) (pa_cons (pv 4) (pa_cons (pe_op op_sub (pv 5) (pv 1)) pa_nil)))) pa_nil))))))))), ?_⟩
  obtain ⟨dx, cA, us, t, pA, h1, h2, hs, h4, h5, zA, h6, h7⟩ := hX.top
  have hul := h4.len
  refine ⟨_, rfl, y, numD y, 1, rfl, hy.dp, rfl, fun hw => ?_, fun hw => ?_⟩
  · obtain ⟨n, rfl, n0, n1⟩ := numD_in hy hw
    have q : DueM mg K C x sA cs ks k .pay H Q E (if k.ln < n then Out.ref 9 else if k.r < n then .ref 7 else .ok ⟨k.r - n, k.ss, k.rd, k.ln - n⟩) := by
      have e : stepK cs k .pay (.int n) = (if k.ln < n then Out.ref 9 else if k.r < n then .ref 7 else .ok ⟨k.r - n, k.ss, k.rd, k.ln - n⟩) := if_pos ⟨n0, n1⟩
      rw [e] at q
      exact q
    refine ⟨_, rfl, x, C, dx, _, _, rfl, h1, T.cl, T.nS, kf_states _ _, _, rfl, sA, _, _, _, rfl, rfl, SqL.of hs, atI_last _ _, ?_⟩
    refine ⟨t, _, rfl, h5, rfl, _, _, rfl, pA, _, rfl, h6, rfl, _, _, rfl, _, _, rfl, rfl, _, _, rfl, _, _, rfl, rfl, ?_⟩
    refine ⟨_, rfl, _, rfl, _, _, rfl, rfl, _, rfl, ite2 (fun e => ?_) (fun e => ?_)⟩
    · have e' : k.ln < n := of_decide_eq_true e
      rw [if_pos e'] at q
      exact (show RefE mg H E "NoLoan" from q) H _ (.refl H) T_NoLoan.g
    have e' : ¬ k.ln < n := fun z => e (decide_eq_true z)
    rw [if_neg e'] at q
    refine ⟨_, rfl, _, rfl, _, _, rfl, rfl, _, rfl, ite2 (fun e => ?_) (fun e => ?_)⟩
    · have e'' : k.r < n := of_decide_eq_true e
      rw [if_pos e''] at q
      exact (show RefE mg H E "NoRide" from q) H _ (.refl H) T_NoRide.g
    have e'' : ¬ k.r < n := fun z => e (decide_eq_true z)
    rw [if_neg e''] at q
    refine ⟨_, rfl, x, C, dx, _, _, rfl, h1, T.cl, T.nS, kf_states _ _, .inl ⟨rfl, _, SqL.of hs⟩, ?_⟩
    refine ⟨_, rfl, _, rfl, _, _, rfl, rfl, _, rfl, (by show 2 ≤ sizeLine; decide), fun p np => ?_⟩
    have s1 := same_upd (o := .tup [.int (k.r - n), .ref zA]) np
    refine ⟨_, rfl, _, rfl, _, rfl, _, _, rfl, rfl, (by show 3 ≤ sizeLine; decide), fun t2 nt2 => ?_⟩
    have s2 := same_upd (o := .tup [.ref p, .int k.rd, .int (k.ln - n)]) nt2
    have hs2 := (s1.trans s2) _ _ hs
    refine ⟨sA, _, _, rfl, rfl, hs2, ?_, ?_⟩
    · rw [List.length_append, List.length_map, List.length_singleton]
      exact smallM (by omega)
    have e : us.map V.ref ++ [V.ref t] = (us ++ [t]).map V.ref := by
      rw [List.map_append]
      rfl
    rw [e] at hs2 ⊢
    refine q _ (fun b o eb nb => ?_) (hX.push (k := ⟨k.r - n, k.ss, k.rd, k.ln - n⟩) (s1.trans s2) hs2 ((h4.same (s1.trans s2)).app (.cons (Same.seqT (s1.trans s2) h5) (Purse.same (s1.trans s2) ⟨zA, h6, h7⟩) .nil)) (SqT.of upd_same) ⟨zA, Same.seqT s2 (SqT.of upd_same), Same.seqT (s1.trans s2) h7⟩)
    rw [upd_ne nb]
    exact (s1.trans s2) _ _ eb
  · rw [pay_out hy hw] at q
    exact q
set_option maxHeartbeats 4000000 in
theorem ok_l_do {P : Program} {w : World} {K : PySem.W.Frag} {mg : Str → Option Value} {base : Heap} {f : Addr} {fd : FuncData} (F : Fun K "_law_do" "_law_do" s_l_do f fd) {C : Addr} (T : KeptT K mg C) (D_m_ride : MDefX P w K mg base C "ride" 2 ["self"] (sp_m_ride mg K C)) (D_m_give : MDefX P w K mg base C "give" 5 ["self", "kind"] (sp_m_give mg K C)) (D_m_lend : MDefX P w K mg base C "lend" 3 ["self", "number"] (sp_m_lend mg K C)) (D_m_back : MDefX P w K mg base C "back" 1 ["self"] (sp_m_back mg K C)) (D_m_pay : MDefX P w K mg base C "pay" 3 ["self", "number"] (sp_m_pay mg K C)) :
    FnOk P w K mg base (L2N.CX P w) 6 f fd ["kept", "deed"] (sp_l_do mg K C) := by
  refine okN F sc_l_do (fun vs H Q E h => ?_) (fun cdv A outer s H vs Q E hr h => ?_)
  · obtain ⟨x, sA, dA, cs, ks, k, w, y, rfl, hO, hD, hy, q⟩ := h
    rfl
  obtain ⟨x, sA, dA, cs, ks, k, w, y, rfl, hO, hD, hy, q⟩ := h
  refine ⟨_, (pss_cons (ps_asg (pv 1) (pg_tup rfl (pgs_cons (pg_name (i := 2) sc_l_do.nd rfl (Or.inl rfl)) (pgs_cons (pg_name (i := 3) sc_l_do.nd rfl (Or.inl rfl)) pgs_nil))))
        (pss_cons (ps_if (pt_cmpR op_eq (pv 2) pe_str (nomark _)) (pss_one (ps_ret (pe_mdefX0 T D_m_ride hr (L2N.takes_of rfl rfl rfl rfl) (pv 0)))) pss_nil)
        (pss_cons (ps_if (pt_cmpR op_eq (pv 2) pe_str (nomark _)) (pss_one (ps_ret (pe_mdefX T D_m_give hr (L2N.takes_of rfl rfl rfl rfl) (pv 0) (pa_cons (pv 3) pa_nil)))) pss_nil)
        (pss_cons (ps_if (pt_cmpR op_eq (pv 2) pe_str (nomark _)) (pss_one (ps_ret (pe_mdefX T D_m_lend hr (L2N.takes_of rfl rfl rfl rfl) (pv 0) (pa_cons (pv 3) pa_nil)))) pss_nil)
        (pss_one (ps_ret (pe_ifExp (pt_cmpR op_eq (pv 2) pe_str (nomark _)) (pe_mdefX0 T D_m_back hr (L2N.takes_of rfl rfl rfl rfl) (pv 0)) (pe_mdefX T D_m_pay hr (L2N.takes_of rfl rfl rfl rfl) (pv 0) (pa_cons (pv 3) pa_nil))))))))), ?_⟩
  refine ⟨_, rfl, dA, _, rfl, hD, rfl, _, _, rfl, _, _, rfl, rfl, ?_⟩
  obtain ⟨dx, cA, us, t, pA, h1, _⟩ := hO.at_.top
  cases w with
  | ride =>
    refine ⟨_, rfl, rfl, _, rfl, iteP (decide_eq_true rfl) ?_⟩
    exact ⟨_, rfl, x, dx, _, rfl, h1, kf_no _ _ (by decide +kernel) (by decide +kernel), x, sA, cs, ks, k, rfl, hO, q⟩
  | give =>
    refine ⟨_, rfl, rfl, _, rfl, iteN (by decide +kernel) ?_⟩
    refine ⟨_, rfl, rfl, _, rfl, iteP (decide_eq_true rfl) ?_⟩
    exact ⟨_, rfl, x, dx, _, rfl, h1, kf_no _ _ (by decide +kernel) (by decide +kernel), _, rfl, x, sA, cs, ks, k, y, rfl, hO, hy, q⟩
  | lend =>
    refine ⟨_, rfl, rfl, _, rfl, iteN (by decide +kernel) ?_⟩
    refine ⟨_, rfl, rfl, _, rfl, iteN (by decide +kernel) ?_⟩
    refine ⟨_, rfl, rfl, _, rfl, iteP (decide_eq_true rfl) ?_⟩
    exact ⟨_, rfl, x, dx, _, rfl, h1, kf_no _ _ (by decide +kernel) (by decide +kernel), _, rfl, x, sA, cs, ks, k, y, rfl, hO, hy, q⟩
  | pay =>
    refine ⟨_, rfl, rfl, _, rfl, iteN (by decide +kernel) ?_⟩
    refine ⟨_, rfl, rfl, _, rfl, iteN (by decide +kernel) ?_⟩
    refine ⟨_, rfl, rfl, _, rfl, iteN (by decide +kernel) ?_⟩
    refine ⟨_, rfl, rfl, _, rfl, iteN (by decide +kernel) ?_⟩
    exact ⟨_, rfl, x, dx, _, rfl, h1, kf_no _ _ (by decide +kernel) (by decide +kernel), _, rfl, x, sA, cs, ks, k, y, rfl, hO, hy, q⟩
  | back =>
    refine ⟨_, rfl, rfl, _, rfl, iteN (by decide +kernel) ?_⟩
    refine ⟨_, rfl, rfl, _, rfl, iteN (by decide +kernel) ?_⟩
    refine ⟨_, rfl, rfl, _, rfl, iteN (by decide +kernel) ?_⟩
    refine ⟨_, rfl, rfl, _, rfl, iteP (decide_eq_true rfl) ?_⟩
    refine ⟨_, rfl, x, dx, _, rfl, h1, kf_no _ _ (by decide +kernel) (by decide +kernel), x, sA, cs, ks, k, rfl, hO.at_, fun z => ?_, fun z => ?_⟩
    · subst z
      exact q
    · rcases List.eq_nil_or_concat ks with rfl | ⟨l, z', rfl⟩
      · exact absurd rfl z
      · rw [List.concat_eq_append] at q ⊢
        have e : outK cs (l ++ [z']) k .back y = .ok z' := by
          show (match (l ++ [z']).getLast? with | some k' => Out.ok k' | none => .ref 10) = _
          rw [List.getLast?_append, List.getLast?_singleton]
          rfl
        rw [e] at q
        exact q
set_option maxHeartbeats 4000000 in
theorem ok_m_len {P : Program} {w : World} {K : PySem.W.Frag} {mg : Str → Option Value} {base : Heap} {f : Addr} {fd : FuncData} (F : Fun K "__len__" "Kept.__len__" s_m_len f fd) {C : Addr} (T : KeptT K mg C) (b_len : mg "len" = none) :
    FnOk P w K mg base CX0 1 f fd ["self"] (sp_m_len K C) := by
  refine F.ok sc_m_len (fun vs H Q E h => ?_) (fun cdv A outer s H vs Q E hr h => ?_)
  · obtain ⟨x, sA, cs, ks, rfl, hX, q⟩ := h
    rfl
  obtain ⟨x, sA, cs, ks, rfl, hX, q⟩ := h
  refine ⟨_, (pss_one (ps_ret (pe_callB call_len_seq (by rfl) b_len PySem.boot_len (pa_cons (pe_fld (pv 0) rfl) pa_nil)))), ?_⟩
  obtain ⟨⟨dx, cA, h1, h2⟩, _⟩ := hX
  refine ⟨_, rfl, x, C, dx, _, _, rfl, h1, T.cl, T.nC, kf_cards _ _, cA, _, rfl, .inr h2, ?_⟩
  rw [List.length_map]
  exact q
set_option maxHeartbeats 4000000 in
theorem ok_m_lent {P : Program} {w : World} {K : PySem.W.Frag} {mg : Str → Option Value} {base : Heap} {f : Addr} {fd : FuncData} (F : Fun K "lent" "Kept.lent" s_m_lent f fd) {C : Addr} (T : KeptT K mg C) :
    FnOk P w K mg base CX0 1 f fd ["self"] (sp_m_lent K C) := by
  refine F.ok sc_m_lent (fun vs H Q E h => ?_) (fun cdv A outer s H vs Q E hr h => ?_)
  · obtain ⟨x, sA, cs, ks, k, rfl, hX, q⟩ := h
    rfl
  obtain ⟨x, sA, cs, ks, k, rfl, hX, q⟩ := h
  refine ⟨_, (pss_one (ps_ret (pe_ix ix_tup (pe_ix ix_list (pe_fld (pv 0) rfl) (pe_un un_neg pe_int) (fun _ _ => rfl)) pe_int (fun _ _ => rfl)))), ?_⟩
  obtain ⟨dx, cA, us, t, pA, h1, h2, hs, h4, h5, h6⟩ := hX.top
  exact ⟨_, rfl, x, C, dx, _, _, rfl, h1, T.cl, T.nS, kf_states _ _, _, rfl, sA, _, _, _, rfl, rfl, SqL.of hs, atI_last _ _, t, _, _, _, rfl, rfl, h5, atI_nat (j := 2) rfl, q⟩
set_option maxHeartbeats 4000000 in
theorem ok_m_ridden {P : Program} {w : World} {K : PySem.W.Frag} {mg : Str → Option Value} {base : Heap} {f : Addr} {fd : FuncData} (F : Fun K "ridden" "Kept.ridden" s_m_ridden f fd) {C : Addr} (T : KeptT K mg C) :
    FnOk P w K mg base CX0 1 f fd ["self"] (sp_m_ridden K C) := by
  refine F.ok sc_m_ridden (fun vs H Q E h => ?_) (fun cdv A outer s H vs Q E hr h => ?_)
  · obtain ⟨x, sA, cs, ks, k, rfl, hX, q⟩ := h
    rfl
  obtain ⟨x, sA, cs, ks, k, rfl, hX, q⟩ := h
  refine ⟨_, (pss_one (ps_ret (pe_ix ix_tup (pe_ix ix_list (pe_fld (pv 0) rfl) (pe_un un_neg pe_int) (fun _ _ => rfl)) pe_int (fun _ _ => rfl)))), ?_⟩
  obtain ⟨dx, cA, us, t, pA, h1, h2, hs, h4, h5, h6⟩ := hX.top
  exact ⟨_, rfl, x, C, dx, _, _, rfl, h1, T.cl, T.nS, kf_states _ _, _, rfl, sA, _, _, _, rfl, rfl, SqL.of hs, atI_last _ _, t, _, _, _, rfl, rfl, h5, atI_nat (j := 1) rfl, q⟩
set_option maxHeartbeats 4000000 in
theorem ok_m_purse {P : Program} {w : World} {K : PySem.W.Frag} {mg : Str → Option Value} {base : Heap} {f : Addr} {fd : FuncData} (F : Fun K "purse" "Kept.purse" s_m_purse f fd) {C : Addr} (T : KeptT K mg C) :
    FnOk P w K mg base CX0 1 f fd ["self"] (sp_m_purse K C) := by
  refine F.ok sc_m_purse (fun vs H Q E h => ?_) (fun cdv A outer s H vs Q E hr h => ?_)
  · obtain ⟨x, sA, cs, ks, k, rfl, hX, q⟩ := h
    rfl
  obtain ⟨x, sA, cs, ks, k, rfl, hX, q⟩ := h
  refine ⟨_, (pss_one (ps_ret (pe_ix ix_tup (pe_ix ix_list (pe_fld (pv 0) rfl) (pe_un un_neg pe_int) (fun _ _ => rfl)) pe_int (fun _ _ => rfl)))), ?_⟩
  obtain ⟨dx, cA, us, t, pA, h1, h2, hs, h4, h5, h6⟩ := hX.top
  refine ⟨_, rfl, x, C, dx, _, _, rfl, h1, T.cl, T.nS, kf_states _ _, _, rfl, sA, _, _, _, rfl, rfl, SqL.of hs, atI_last _ _, t, _, _, _, rfl, rfl, h5, atI_nat (j := 0) rfl, q pA h6⟩
set_option maxHeartbeats 4000000 in
theorem ok_m_eq {P : Program} {w : World} {K : PySem.W.Frag} {mg : Str → Option Value} {base : Heap} {f : Addr} {fd : FuncData} (F : Fun K "__eq__" "Kept.__eq__" s_m_eq f fd) {C : Addr} (T : KeptT K mg C) (b_isinstance : mg "isinstance" = none) :
    FnOk P w K mg base CX0 1 f fd ["self", "other"] (sp_m_eq K C) := by
  refine F.ok sc_m_eq (fun vs H Q E h => ?_) (fun cdv A outer s H vs Q E hr h => ?_)
  · obtain ⟨x, y, rfl, hE, h⟩ := h
    rfl
  obtain ⟨x, y, rfl, hE, h⟩ := h
  refine ⟨_, (pss_cons (ps_if (pt_not (pt_val (pe_callB call_isi (by rfl) b_isinstance PyProof.Rows.boot_isinstance (pa_cons (pv 1) (pa_cons (pe_glob (v := .ref C) rfl T.g rfl) pa_nil))))) (pss_one (ps_ret pe_bl)) pss_nil)
        (pss_one (ps_ret (pe_and (pe_cmpR (op_eqD hr.units) (pe_fld (pv 0) rfl) (pe_fld (pv 1) rfl) (nomark _)) (pe_one (pe_cmpR (op_eqD hr.units) (pe_ix ix_list (pe_fld (pv 0) rfl) (pe_un un_neg pe_int) (fun _ _ => rfl)) (pe_ix ix_list (pe_fld (pv 1) rfl) (pe_un un_neg pe_int) (fun _ _ => rfl)) (nomark _))))))), ?_⟩
  rcases h with ⟨tA, xs, rfl, hT, q⟩ | ⟨x2, sA, sB, cs, ks, k, ks2, k2, rfl, hX, hY, q⟩
  · exact ⟨_, rfl, .ref tA, .ref C, .type "tuple", .ref C, false, rfl, .own C, tyT hT, hE.tu, _, rfl, q⟩
  · obtain ⟨dx, cA, us, t, pA, h1, h2, hs, h4, h5, h6⟩ := hX.top
    obtain ⟨dx2, cA2, us2, t2, pA2, g1, g2, gs, g4, g5, g6⟩ := hY.top
    refine ⟨_, rfl, .ref x2, .ref C, .ref C, .ref C, true, rfl, .own C, .base (.ins g1 T.cl hE.ha hE.hn hE.ht hE.hm), ?_, _, rfl, ?_⟩
    · unfold PySem.W.kitOne
      rw [if_pos (beq_self_eq_true _)]
    refine ⟨_, rfl, x, C, dx, _, _, rfl, h1, T.cl, T.nC, kf_cards _ _, ?_⟩
    refine ⟨_, rfl, x2, C, dx2, _, _, rfl, g1, T.cl, T.nC, kf_cards _ _, ?_⟩
    refine ⟨_, _, .tup h2 (dp_ints cs), .tup g2 (dp_ints cs), shaped_tup cs, shaped_tup cs, _, rfl, ?_⟩
    rw [show PyData.eqv (.tuple (cs.map PyData.int)) (.tuple (cs.map PyData.int)) = true from eqv_tup cs]
    refine ⟨_, rfl, x, C, dx, _, _, rfl, h1, T.cl, T.nS, kf_states _ _, _, rfl, sA, _, _, _, rfl, rfl, SqL.of hs, atI_last _ _, ?_⟩
    refine ⟨_, rfl, x2, C, dx2, _, _, rfl, g1, T.cl, T.nS, kf_states _ _, _, rfl, sB, _, _, _, rfl, rfl, SqL.of gs, atI_last _ _, ?_⟩
    exact ⟨_, _, ks_dp h5 h6, ks_dp g5 g6, ks_shaped k, ks_shaped k2, q⟩
set_option maxHeartbeats 4000000 in
theorem ok_p_period_of {P : Program} {w : World} {K : PySem.W.Frag} {mg : Str → Option Value} {base : Heap} {f : Addr} {fd : FuncData} (F : Fun K "period_of" "period_of" s_p_period_of f fd) :
    FnOk P w K mg base CX0 1 f fd ["cards"] (sp_p_period_of K) := by
  refine F.ok sc_p_period_of (fun vs H Q E h => ?_) (fun cdv A outer s H vs Q E hr h => ?_)
  · obtain ⟨cA, cs, rfl, hC, hK, q⟩ := h
    rfl
  obtain ⟨cA, cs, rfl, hC, hK, q⟩ := h
  refine ⟨_, (pss_cons (ps_set (i := 1) sc_p_period_of.nd rfl (Or.inl rfl) pe_int)
        (pss_cons (ps_for PassesOwn.never rfl (pi_tup (pv 0)) (pg_name (i := 2) sc_p_period_of.nd rfl (Or.inl rfl)) (pss_cons (ps_set (i := 3) sc_p_period_of.nd rfl (Or.inl rfl) (pv 1))
        (pss_one (ps_while PassesOwn.never (pt_cmpR op_ne (pe_op op_mod (pv 1) (pv 2)) pe_int (nomark _)) (pss_one (ps_aug (i := 1) sc_p_period_of.nd rfl (Or.inl rfl) (pv 3) ip_add))))))
        (pss_one (ps_ret (pv 1))))), ?_⟩
  refine ⟨_, rfl, cA, rfl, ⟨_, hC⟩, ?_⟩
  refine for_tup (K := K) (a := cA) (xs := cs.map V.int) (fun i σ H' => ∃ y2 y3, σ = [some (.ref cA), some (.int (perFrom 1 (cs.take i))), y2, y3] ∧ H' = H) ?_ ?_ ?_ ?_
  · exact ⟨_, _, rfl, rfl⟩
  · rintro i σ H' hi ⟨y2, y3, rfl, rfl⟩
    exact hC
  · rintro i x σ H' hi ⟨y2, y3, rfl, rfl⟩
    obtain ⟨c, hc, rfl⟩ := get_map hi
    have hm : c ∈ cs := List.mem_of_getElem? hc
    obtain ⟨c2, c20⟩ := hK.2.2 c hm
    have et : perFrom 1 (cs.take (i + 1)) = perGo 20 (perFrom 1 (cs.take i)) (perFrom 1 (cs.take i)) c := by
      unfold perFrom
      rw [List.take_add_one, hc, List.foldl_append]
      rfl
    have h1 := (perFrom_ok (cs.take i) 1 (fun z hz => hK.2.2 z (List.mem_of_mem_take hz)) (by omega)).1
    generalize perFrom 1 (cs.take i) = st at et h1 ⊢
    refine ⟨_, rfl, ?_⟩
    refine while_by (fun σ H'' => ∃ (n : Nat) (k p : Int), σ = [some (.ref cA), some (.int p), some (.int c), some (.int st)] ∧ H'' = H' ∧ p = st * k ∧ 1 ≤ k ∧ k ≤ c ∧ (n : Int) + k = 21 ∧ perGo n st p c = perGo 20 st st c) (fun (σ : L2.St) (_ : Hp) => match σ with | [_, some (V.int p), some (V.int c), some (V.int st)] => (st * c - p).toNat | _ => 0) ?_ ?_ ?_
    · exact ⟨20, 1, st, rfl, rfl, by omega, by omega, by omega, by omega, rfl⟩
    · rintro σ H'' ⟨n, k, p, rfl, rfl, hp, k1, kc, hn, hg⟩
      refine ⟨_, rfl, _, rfl, _, _, rfl, rfl, (by omega), rfl, _, rfl, ?_⟩
      obtain ⟨n', rfl⟩ : ∃ n', n = n' + 1 := ⟨n - 1, by omega⟩
      rw [perGo_succ] at hg
      by_cases z : p % c = 0
      · rw [if_pos z] at hg
        refine iteNS (c := V.int (p % c) = V.int 0) (by rw [z]) ?_
        refine ⟨some (.int c), some (.int st), ?_, rfl⟩
        rw [et, ← hg]
      · rw [if_neg z] at hg
        have hd : decide (V.int (p % c) = V.int 0) = false := decide_eq_false (fun e => z (V.int.inj e))
        refine ite2 (fun _ => ?_) (fun e => absurd (show (!decide (V.int (p % c) = V.int 0)) = true by rw [hd]; rfl) e)
        have kc' : k ≠ c := fun e => z (by rw [hp, e]; exact Int.mul_emod_left _ _)
        have e1 : st * (k + 1) = p + st := by rw [Int.mul_add, Int.mul_one, hp]
        have e2 : st * (k + 1) ≤ st * c := Int.mul_le_mul_of_nonneg_left (by omega) (by omega)
        refine ⟨_, rfl, _, rfl, _, _, rfl, rfl, ⟨n', k + 1, _, rfl, rfl, e1.symm, by omega, by omega, by omega, hg⟩, ?_⟩
        show (st * c - (p + st)).toNat < (st * c - p).toNat
        omega
    · rintro σ H'' Q1 Q2 hq ⟨v, e, v2, e', i, j, e1, e2, hj, hs, k, e3, h⟩
      exact ⟨v, e, v2, e', i, j, e1, e2, hj, hs, k, e3, hq _ _ h⟩
  · rintro σ H' ⟨y2, y3, rfl, rfl⟩
    rw [List.length_map, List.take_length]
    exact ⟨_, rfl, q⟩
set_option maxHeartbeats 4000000 in
theorem ok_p_period_pays {P : Program} {w : World} {K : PySem.W.Frag} {mg : Str → Option Value} {base : Heap} {f : Addr} {fd : FuncData} (F : Fun K "period_pays" "period_pays" s_p_period_pays f fd) (D_p_period_of : Def P w K mg base "period_of" 1 ["cards"] (sp_p_period_of K)) (b_sum : mg "sum" = none) :
    FnOk P w K mg base CX0 2 f fd ["cards"] (sp_p_period_pays K) := by
  refine F.ok sc_p_period_pays (fun vs H Q E h => ?_) (fun cdv A outer s H vs Q E hr h => ?_)
  · obtain ⟨cA, cs, rfl, hC, hK, q⟩ := h
    rfl
  obtain ⟨cA, cs, rfl, hC, hK, q⟩ := h
  refine ⟨_, (pss_cons (ps_set (i := 1) sc_p_period_pays.nd rfl (Or.inr rfl) (pe_def D_p_period_of hr (pa_cons (pv 0) pa_nil)))
        (pss_one (ps_ret (pe_cmpR op_ge (pe_callB (cr_sum rfl) (by rfl) b_sum PyProof.Rows.boot_sum (pa_cons (pe_lc (own := [("full", 2)]) (g := gName 2) (tt := tYes) rfl sc_p_period_pays.nd (pi_tup (pv 0)) (blkOk_by (own := [("full", 2)]) (N := ["cards", "period", "full"]) (sc := defScope s_p_period_pays) (by decide +kernel)) (fun _ _ _ _ _ => (pg_name (i := 2) sc_p_period_pays.nd rfl (Or.inl rfl))) (fun _ _ _ _ _ => pts_nil) (fun _ _ _ _ _ => (pe_op op_fdiv (pv 1) (pv 2)))) pa_nil)) (pv 1) (nomark _))))), ?_⟩
  refine ⟨_, rfl, cA, cs, rfl, hC, hK, ?_⟩
  refine ⟨_, rfl, cA, rfl, ⟨_, hC⟩, fun D nD => ?_⟩
  refine lc_tup (K := K) (a := cA) (xs := cs.map V.int) (fun i H' => Same H H' ∧ H' D = some (.lst (((cs.take i).map (fun c => perOf cs / c)).map V.int))) ?_ ?_ ?_ ?_
  · exact ⟨same_new (.refl H) nD, upd_same⟩
  · rintro i H' hi ⟨sm, e⟩
    exact Same.seqT sm hC
  · rintro i y H' hi ⟨sm, e⟩
    obtain ⟨c, hc, rfl⟩ := get_map hi
    obtain ⟨c2, c20⟩ := hK.2.2 c (List.mem_of_getElem? hc)
    have hi' : i < cs.length := (List.getElem?_eq_some_iff.mp hc).1
    have h3 := hK.2.1
    refine ⟨rfl, _, rfl, _, rfl, _, _, rfl, rfl, ⟨by omega, by omega⟩, _, e, ?_, same_fresh sm nD, ?_⟩
    · rw [List.length_map, List.length_map, List.length_take]
      exact small1000 (by omega)
    · rw [upd_same, take_map _ hc, List.map_append]
      rfl
  · rintro H' ⟨sm, e⟩
    rw [List.length_map, List.take_length] at e
    refine ⟨D, _, rfl, SqL.of e, _, rfl, _, _, rfl, rfl, ?_⟩
    refine q _ H' sm ?_
    rw [pq_sum, decide_eq_true_eq]
set_option maxHeartbeats 4000000 in
theorem ok_p_full_cards {P : Program} {w : World} {K : PySem.W.Frag} {mg : Str → Option Value} {base : Heap} {f : Addr} {fd : FuncData} (F : Fun K "full_cards" "full_cards" s_p_full_cards f fd) (b_sum : mg "sum" = none) (b_zip : mg "zip" = none) :
    FnOk P w K mg base CX0 1 f fd ["cards", "stamps", "ridden"] (sp_p_full_cards K) := by
  refine F.ok sc_p_full_cards (fun vs H Q E h => ?_) (fun cdv A outer s H vs Q E hr h => ?_)
  · obtain ⟨cA, sA, cs, ss, n, rfl, hC, hS, hl, hK, q⟩ := h
    rfl
  obtain ⟨cA, sA, cs, ss, n, rfl, hC, hS, hl, hK, q⟩ := h
  refine ⟨_, (pss_one (ps_ret (pe_callB (cr_sum rfl) (by rfl) b_sum PyProof.Rows.boot_sum (pa_cons (pe_lc (own := [("full", 3), ("many", 4)]) (g := gTup K 2 (gCons (gName 3) (gCons (gName 4) gNil))) (tt := tYes) rfl sc_p_full_cards.nd (RZ.pi_zipA rfl b_zip (pa_cons (pv 0) (pa_cons (pv 1) pa_nil))) (blkOk_by (own := [("full", 3), ("many", 4)]) (N := ["cards", "stamps", "ridden", "full", "many"]) (sc := defScope s_p_full_cards) (by decide +kernel)) (fun _ _ _ _ _ => (pg_tup rfl (pgs_cons (pg_name (i := 3) sc_p_full_cards.nd rfl (Or.inl rfl)) (pgs_cons (pg_name (i := 4) sc_p_full_cards.nd rfl (Or.inl rfl)) pgs_nil)))) (fun _ _ _ _ _ => pts_nil) (fun _ _ _ _ _ => (pe_op op_fdiv (pe_op op_add (pv 4) (pv 2)) (pv 3)))) pa_nil)))), ?_⟩
  refine ⟨_, rfl, _, rfl, cA, sA, _, _, rfl, .inr ⟨hC, hS, fun D nD => ?_⟩⟩
  refine lc_zipT (K := K) (a := cA) (b := sA) (xs := cs.map V.int) (ys := ss.map V.int) (by rw [List.length_map, List.length_map, hl]) (fun i H' => Same H H' ∧ H' D = some (.lst (((fcl cs ss n).take i).map V.int))) ?_ ?_ ?_ ?_
  · exact ⟨same_new (.refl H) nD, upd_same⟩
  · rintro i H' ⟨sm, e⟩
    exact ⟨Same.seqT sm hC, Same.seqT sm hS⟩
  · rintro i x y T H' hx hy ⟨sm, e⟩ nT
    obtain ⟨c, hc, rfl⟩ := get_map hx
    obtain ⟨s', hs, rfl⟩ := get_map hy
    obtain ⟨c2, c20⟩ := hK.2.2 c (List.mem_of_getElem? hc)
    have hi : i < cs.length := (List.getElem?_eq_some_iff.mp hc).1
    have h3 := hK.2.1
    have e' : (upd H' T (.tup [.int c, .int s'])) D = some (.lst (((fcl cs ss n).take i).map V.int)) := by
      rw [upd_ne (ne_of_none e nT)]
      exact e
    refine ⟨T, _, rfl, SqT.of upd_same, rfl, _, _, rfl, _, _, rfl, rfl, rfl, _, rfl, _, rfl, _, _, rfl, rfl, _, rfl, _, _, rfl, rfl, ⟨by omega, by omega⟩, _, e', ?_, same_fresh (same_new sm nT) nD, ?_⟩
    · rw [List.length_map, List.length_take]
      exact small1000 (by omega)
    · rw [upd_same, List.take_add_one, fcl_get hc hs, List.map_append]
      rfl
  · rintro H' ⟨sm, e⟩
    rw [List.length_map, List.take_of_length_le (by rw [fcl_len hl]; exact Nat.le_refl _)] at e
    refine ⟨D, _, rfl, SqL.of e, ?_⟩
    rw [fcl_sum]
    exact q H' sm
set_option maxHeartbeats 4000000 in
theorem ok_p_rides_in_all {P : Program} {w : World} {K : PySem.W.Frag} {mg : Str → Option Value} {base : Heap} {f : Addr} {fd : FuncData} (F : Fun K "rides_in_all" "rides_in_all" s_p_rides_in_all f fd) (D_p_period_pays : Def P w K mg base "period_pays" 2 ["cards"] (sp_p_period_pays K)) (D_p_period_of : Def P w K mg base "period_of" 1 ["cards"] (sp_p_period_of K)) (D_p_full_cards : Def P w K mg base "full_cards" 1 ["cards", "stamps", "ridden"] (sp_p_full_cards K)) :
    FnOk P w K mg base CX0 3 f fd ["cards", "purse"] (sp_p_rides_in_all K) := by
  refine F.ok sc_p_rides_in_all (fun vs H Q E h => ?_) (fun cdv A outer s H vs Q E hr h => ?_)
  · obtain ⟨cA, pA, cs, r, ss, rfl, hC, hP, hK, hS, hr0, q⟩ := h
    rfl
  obtain ⟨cA, pA, cs, r, ss, rfl, hC, hP, hK, hS, hr0, q⟩ := h
  refine ⟨_, (pss_cons (ps_asg (pv 1) (pg_tup rfl (pgs_cons (pg_name (i := 2) sc_p_rides_in_all.nd rfl (Or.inl rfl)) (pgs_cons (pg_name (i := 3) sc_p_rides_in_all.nd rfl (Or.inl rfl)) pgs_nil))))
        (pss_cons (ps_set (i := 4) sc_p_rides_in_all.nd rfl (Or.inl rfl) (pe_def D_p_period_pays hr (pa_cons (pv 0) pa_nil)))
        (pss_cons (ps_set (i := 5) sc_p_rides_in_all.nd rfl (Or.inl rfl) (pe_def D_p_period_of hr (pa_cons (pv 0) pa_nil)))
        (pss_cons (ps_set (i := 6) sc_p_rides_in_all.nd rfl (Or.inl rfl) pe_int)
        (pss_cons (ps_set (i := 7) sc_p_rides_in_all.nd rfl (Or.inl rfl) (pe_op op_add (pv 2) (pe_def D_p_full_cards hr (pa_cons (pv 0) (pa_cons (pv 3) (pa_cons (pv 6) pa_nil))))))
        (pss_cons (ps_while PassesOwn.never (pt_cmpR op_gt (pv 7) (pv 6) (nomark _)) (pss_cons (ps_if (PW.pt (pw_and (pt_val (pv 4)) (pw_and1 (pt_cmpR op_ge (pv 7) (pv 5) (nomark _))))) (pss_one (ps_ret pe_non)) pss_nil)
        (pss_cons (ps_set (i := 6) sc_p_rides_in_all.nd rfl (Or.inl rfl) (pv 7))
        (pss_one (ps_set (i := 7) sc_p_rides_in_all.nd rfl (Or.inl rfl) (pe_op op_add (pv 2) (pe_def D_p_full_cards hr (pa_cons (pv 0) (pa_cons (pv 3) (pa_cons (pv 6) pa_nil))))))))))
        (pss_one (ps_ret (pv 6))))))))), ?_⟩
  obtain ⟨sA, hP1, hP2⟩ := hP
  have hl : cs.length = ss.length := hS.1.symm
  obtain ⟨p1, p2, p3⟩ := perOf_ok hK
  refine ⟨_, rfl, pA, _, rfl, hP1, rfl, _, _, rfl, _, _, rfl, rfl, ?_⟩
  refine ⟨_, rfl, cA, cs, rfl, hC, hK, fun b H1 s1 hb => ?_⟩
  refine ⟨_, rfl, cA, cs, rfl, Same.seqT s1 hC, hK, ?_⟩
  refine ⟨_, rfl, _, rfl, _, rfl, _, rfl, cA, sA, cs, ss, _, rfl, Same.seqT s1 hC, Same.seqT s1 hP2, hl, hK, fun H2 s2 => ?_⟩
  refine ⟨_, _, rfl, rfl, ?_⟩
  have hf0 : 0 ≤ fc cs ss 0 := fc_nonneg cs ss (fun c hc => (hK.2.2 c hc).1) (fun x hx => hS.2 x hx) (by omega)
  have hB : b = false → 0 ≤ bound cs r ss ∧ r + fc cs ss (bound cs r ss) ≤ bound cs r ss := fun e => bound_ok hK hl (fun x hx => hS.2 x hx) hr0 (by
    have : ¬ perOf cs ≤ pq (perOf cs) cs := fun z => by rw [hb.mpr z] at e; cases e
    omega)
  refine while_by (fun σ H' => ∃ (had paid : Int), σ = [some (.ref cA), some (.ref pA), some (.int r), some (.ref sA), some (.bl b), some (.int (perOf cs)), some (.int had), some (.int paid)] ∧ Same H H' ∧ 0 ≤ had ∧ had ≤ paid ∧ paid = r + fc cs ss had ∧ (∀ m, 0 ≤ m → m < had → m < r + fc cs ss m) ∧ had ≤ (if b then perOf cs else bound cs r ss)) (fun (σ : L2.St) (_ : Hp) => match σ[6]? with | some (some (V.int k)) => ((if b then perOf cs else bound cs r ss) - k).toNat | _ => 0) ?_ ?_ ?_
  · refine ⟨0, _, rfl, s1.trans s2, by omega, by omega, rfl, fun m h0 h1 => by omega, ?_⟩
    cases b with
    | true => show 0 ≤ perOf cs; omega
    | false => exact (hB rfl).1
  · rintro σ H' ⟨had, paid, rfl, sm, h0, h1, hpd, hm, hbd⟩
    refine ⟨_, rfl, _, rfl, _, _, rfl, rfl, _, rfl, ite2 (fun c => ?_) (fun c => ?_)⟩
    · have c' := of_decide_eq_true c
      have hst := least_step hK hm h0
      rw [← hpd] at hst
      have hmo : paid ≤ r + fc cs ss paid := by
        have := fc_mono cs ss (m := had) (n := paid) (fun c hc => (hK.2.2 c hc).1) (by omega)
        omega
      refine ⟨_, rfl, _, rfl, ite2 (fun cb => ?_) (fun cb => ?_)⟩
      · refine ⟨_, rfl, _, rfl, _, _, rfl, rfl, _, rfl, ite2 (fun c2 => ?_) (fun c2 => ?_)⟩
        · have c3 := of_decide_eq_true c2
          exact q .non H' sm (never_of hK hl (hb.mp cb) (fun m h0 h1 => hst m h0 (by omega)))
        · have c3 : ¬ perOf cs ≤ paid := fun z => c2 (decide_eq_true z)
          refine ⟨_, rfl, _, rfl, _, rfl, _, rfl, _, rfl, cA, sA, cs, ss, _, rfl, Same.seqT sm hC, Same.seqT sm hP2, hl, hK, fun H3 s3 => ?_⟩
          refine ⟨_, _, rfl, rfl, ⟨_, _, rfl, sm.trans s3, by omega, hmo, rfl, hst, ?_⟩, ?_⟩
          · rw [if_pos cb]
            omega
          · show ((if b then perOf cs else bound cs r ss) - paid).toNat < ((if b then perOf cs else bound cs r ss) - had).toNat
            rw [if_pos cb]
            omega
      · have cb' : b = false := Bool.eq_false_iff.mpr cb
        have hle : paid ≤ bound cs r ss := by
          obtain ⟨b0, b1⟩ := hB cb'
          by_cases z : paid ≤ bound cs r ss
          · exact z
          · have := hst (bound cs r ss) b0 (by omega)
            omega
        refine iteF ⟨_, rfl, _, rfl, _, rfl, _, rfl, _, rfl, cA, sA, cs, ss, _, rfl, Same.seqT sm hC, Same.seqT sm hP2, hl, hK, fun H3 s3 => ?_⟩
        refine ⟨_, _, rfl, rfl, ⟨_, _, rfl, sm.trans s3, by omega, hmo, rfl, hst, ?_⟩, ?_⟩
        · rw [if_neg cb]
          omega
        · show ((if b then perOf cs else bound cs r ss) - paid).toNat < ((if b then perOf cs else bound cs r ss) - had).toNat
          rw [if_neg cb]
          omega
    · have c' : ¬ had < paid := fun z => c (decide_eq_true z)
      have e : r + fc cs ss had = had := by omega
      exact ⟨_, rfl, q (.int had) H' sm ⟨h0, e, hm⟩⟩
  · rintro σ H' Q1 Q2 hq ⟨v, e, v2, e', i, j, e1, e2, k, e3, h⟩
    exact ⟨v, e, v2, e', i, j, e1, e2, k, e3, hq _ _ h⟩
set_option maxHeartbeats 4000000 in
theorem ok_m_still {P : Program} {w : World} {K : PySem.W.Frag} {mg : Str → Option Value} {base : Heap} {f : Addr} {fd : FuncData} (F : Fun K "still" "Kept.still" s_m_still f fd) {C : Addr} (T : KeptT K mg C) (D_p_rides_in_all : Def P w K mg base "rides_in_all" 3 ["cards", "purse"] (sp_p_rides_in_all K)) :
    FnOk P w K mg base CX0 4 f fd ["self"] (sp_m_still K C) := by
  refine F.ok sc_m_still (fun vs H Q E h => ?_) (fun cdv A outer s H vs Q E hr h => ?_)
  · obtain ⟨x, sA, cs, ks, k, rfl, hX, hK, hl, hs0, hr0, q⟩ := h
    rfl
  obtain ⟨x, sA, cs, ks, k, rfl, hX, hK, hl, hs0, hr0, q⟩ := h
  refine ⟨_, (pss_one (ps_ret (pe_def D_p_rides_in_all hr (pa_cons (pe_fld (pv 0) rfl) (pa_cons (pe_ix ix_tup (pe_ix ix_list (pe_fld (pv 0) rfl) (pe_un un_neg pe_int) (fun _ _ => rfl)) pe_int (fun _ _ => rfl)) pa_nil))))), ?_⟩
  obtain ⟨dx, cA, us, t, pA, h1, h2, hs, h4, h5, h6⟩ := hX.top
  refine ⟨_, rfl, x, C, dx, _, _, rfl, h1, T.cl, T.nC, kf_cards _ _, ?_⟩
  exact ⟨_, rfl, x, C, dx, _, _, rfl, h1, T.cl, T.nS, kf_states _ _, _, rfl, sA, _, _, _, rfl, rfl, SqL.of hs, atI_last _ _, t, _, _, _, rfl, rfl, h5, atI_nat (j := 0) rfl, cA, pA, cs, k.r, k.ss, rfl, h2, h6, hK, ⟨hl, hs0⟩, hr0, q⟩
set_option maxHeartbeats 4000000 in
theorem ok_l_paid {P : Program} {w : World} {K : PySem.W.Frag} {mg : Str → Option Value} {base : Heap} {f : Addr} {fd : FuncData} (F : Fun K "_law_paid" "_law_paid" s_l_paid f fd) (b_zip : mg "zip" = none) :
    FnOk P w K mg base CX0 1 f fd ["kinds", "had", "rides"] (sp_l_paid K) := by
  refine F.ok sc_l_paid (fun vs H Q E h => ?_) (fun cdv A outer s H vs Q E hr h => ?_)
  · obtain ⟨kA, pA, cs, r, ss, n, rfl, hC, ⟨sA, hP1, hP2⟩, hK, hl, q⟩ := h
    rfl
  obtain ⟨kA, pA, cs, r, ss, n, rfl, hC, ⟨sA, hP1, hP2⟩, hK, hl, q⟩ := h
  refine ⟨_, (pss_cons (ps_set (i := 3) sc_l_paid.nd rfl (Or.inl rfl) (pe_ix ix_tup (pv 1) pe_int (fun _ _ => rfl)))
        (pss_cons (ps_for PassesOwn.never rfl (RZ.pi_zipA rfl b_zip (pa_cons (pe_ix ix_tup (pv 1) pe_int (fun _ _ => rfl)) (pa_cons (pv 0) pa_nil))) (pg_tup rfl (pgs_cons (pg_name (i := 4) sc_l_paid.nd rfl (Or.inl rfl)) (pgs_cons (pg_name (i := 5) sc_l_paid.nd rfl (Or.inl rfl)) pgs_nil))) (pss_one (ps_set (i := 3) sc_l_paid.nd rfl (Or.inl rfl) (pe_op op_add (pv 3) (pe_op op_fdiv (pe_op op_add (pv 4) (pv 2)) (pv 5))))))
        (pss_one (ps_ret (pv 3))))), ?_⟩
  refine ⟨_, rfl, pA, _, _, _, rfl, rfl, hP1, atI_nat (j := 0) rfl, ?_⟩
  refine ⟨_, rfl, pA, _, _, _, rfl, rfl, hP1, atI_nat (j := 1) rfl, _, rfl, sA, kA, _, _, rfl, .inr ⟨hP2, hC, ?_⟩⟩
  refine RZ.for_zipT (K := K) (a := sA) (b := kA) (xs := ss.map V.int) (ys := cs.map V.int) (by rw [List.length_map, List.length_map, hl]) (fun i σ H' => ∃ y4 y5, σ = [some (.ref kA), some (.ref pA), some (.int n), some (.int (r + ((fcl cs ss n).take i).sum)), y4, y5] ∧ Same H H') ?_ ?_ ?_ ?_
  · refine ⟨none, none, ?_, .refl H⟩
    show [some (V.ref kA), some (.ref pA), some (.int n), some (.int r), none, none] = [some (V.ref kA), some (.ref pA), some (.int n), some (.int (r + 0)), none, none]
    rw [Int.add_zero]
  · rintro i σ H' ⟨y4, y5, rfl, sm⟩
    exact ⟨Same.seqT sm hP2, Same.seqT sm hC⟩
  · rintro i x y T σ H' hx hy ⟨y4, y5, rfl, sm⟩ nT
    obtain ⟨s', hs, rfl⟩ := get_map hx
    obtain ⟨c, hc, rfl⟩ := get_map hy
    obtain ⟨c2, c20⟩ := hK.2.2 c (List.mem_of_getElem? hc)
    refine ⟨T, _, rfl, SqT.of upd_same, rfl, _, _, rfl, _, _, rfl, rfl, _, rfl, _, rfl, _, rfl, _, _, rfl, rfl, _, rfl, _, _, rfl, rfl, ⟨by omega, by omega⟩, _, _, rfl, rfl, some (.int s'), some (.int c), ?_, same_new sm nT⟩
    rw [L2.sum_take (fcl_get hc hs), ← Int.add_assoc]
    rfl
  · rintro σ H' ⟨y4, y5, rfl, sm⟩
    refine ⟨_, rfl, ?_⟩
    rw [List.length_map, List.take_of_length_le (by rw [fcl_len hl.symm, hl]; exact Nat.le_refl _), fcl_sum]
    exact q H' sm
set_option maxHeartbeats 4000000 in
theorem ok_l_common {P : Program} {w : World} {K : PySem.W.Frag} {mg : Str → Option Value} {base : Heap} {f : Addr} {fd : FuncData} (F : Fun K "_law_common" "_law_common" s_l_common f fd) :
    FnOk P w K mg base CX0 1 f fd ["one", "other"] (sp_l_common K) := by
  refine F.ok sc_l_common (fun vs H Q E h => ?_) (fun cdv A outer s H vs Q E hr h => ?_)
  · obtain ⟨x, y, rfl, x0, y0, q⟩ := h
    rfl
  obtain ⟨x, y, rfl, x0, y0, q⟩ := h
  refine ⟨_, (pss_cons (ps_while PassesOwn.never (pt_cmpR op_ne (pv 1) pe_int (nomark _)) (pss_one (ps_par (i := 0) (j := 1) rfl sc_l_common.nd rfl rfl (by decide) rfl rfl (pa_cons (pv 1) (pa_cons (pe_op op_mod (pv 0) (pv 1)) pa_nil)) (by rfl))))
        (pss_one (ps_ret (pv 0)))), ?_⟩
  refine while_by (fun σ H' => ∃ (a b : Int), σ = [some (.int a), some (.int b)] ∧ H' = H ∧ 0 < a ∧ 0 ≤ b ∧ ∀ d, d ∣ a → d ∣ b → d ∣ x ∧ d ∣ y) (fun (σ : L2.St) (_ : Hp) => match σ[1]? with | some (some (V.int k)) => k.toNat | _ => 0) ?_ ?_ ?_
  · exact ⟨x, y, rfl, rfl, x0, by omega, fun d h1 h2 => ⟨h1, h2⟩⟩
  · rintro σ H' ⟨a, b, rfl, rfl, a0, b0, hd⟩
    refine ⟨_, rfl, rfl, _, rfl, ?_⟩
    by_cases z : b = 0
    · refine iteNS (c := V.int b = V.int 0) (by rw [z]) ?_
      have h1 := hd a (Int.dvd_refl a) (by rw [z]; exact Int.dvd_zero a)
      exact ⟨_, rfl, q a a0 h1.1 h1.2⟩
    · refine iteP (by rw [decide_eq_false (fun e => z (V.int.inj e))]; rfl) ?_
      have hb : 0 < b := by omega
      refine ⟨_, rfl, _, rfl, _, rfl, _, _, rfl, rfl, hb, _, _, rfl, ⟨_, _, rfl, rfl, hb, Int.emod_nonneg _ z, fun d h1 h2 => ?_⟩, ?_⟩
      · refine hd d ?_ h1
        rw [← Int.emod_add_mul_ediv a b]
        exact Int.dvd_add h2 (Int.dvd_trans h1 (Int.dvd_mul_right b _))
      · have := Int.emod_lt_of_pos a hb
        show (a % b).toNat < b.toNat
        omega
  · rintro σ H' Q1 Q2 hq ⟨v, e, hs, k, e3, h⟩
    exact ⟨v, e, hs, k, e3, hq _ _ h⟩
set_option maxHeartbeats 4000000 in
theorem ok_l_whole {P : Program} {w : World} {K : PySem.W.Frag} {mg : Str → Option Value} {base : Heap} {f : Addr} {fd : FuncData} (F : Fun K "_law_whole" "_law_whole" s_l_whole f fd) (D_l_common : Def P w K mg base "_law_common" 1 ["one", "other"] (sp_l_common K)) :
    FnOk P w K mg base CX0 2 f fd ["kinds"] (sp_l_whole K) := by
  refine F.ok sc_l_whole (fun vs H Q E h => ?_) (fun cdv A outer s H vs Q E hr h => ?_)
  · obtain ⟨kA, cs, rfl, hC, hK, q⟩ := h
    rfl
  obtain ⟨kA, cs, rfl, hC, hK, q⟩ := h
  refine ⟨_, (pss_cons (ps_set (i := 1) sc_l_whole.nd rfl (Or.inl rfl) pe_int)
        (pss_cons (ps_for PassesOwn.never rfl (pi_tup (pv 0)) (pg_name (i := 2) sc_l_whole.nd rfl (Or.inl rfl)) (pss_one (ps_set (i := 1) sc_l_whole.nd rfl (Or.inl rfl) (pe_op op_fdiv (pe_op op_mul (pv 1) (pv 2)) (pe_def D_l_common hr (pa_cons (pv 1) (pa_cons (pv 2) pa_nil)))))))
        (pss_one (ps_ret (pv 1))))), ?_⟩
  refine ⟨_, rfl, kA, rfl, ⟨_, hC⟩, ?_⟩
  refine for_tup (K := K) (a := kA) (xs := cs.map V.int) (fun i σ H' => ∃ (f' : Int) (y : Option V), σ = [some (.ref kA), some (.int f'), y] ∧ H' = H ∧ 1 ≤ f' ∧ f' ≤ 20 ^ i ∧ ∀ c ∈ cs.take i, c ∣ f') ?_ ?_ ?_ ?_
  · exact ⟨1, _, rfl, rfl, by omega, by decide, fun c hc => nomatch hc⟩
  · rintro i σ H' hi ⟨f', y, rfl, rfl, _⟩
    exact hC
  · rintro i x σ H' hi ⟨f', y, rfl, rfl, f1, f2, hd⟩
    obtain ⟨c, hc, rfl⟩ := get_map hi
    obtain ⟨c2, c20⟩ := hK.2.2 c (List.mem_of_getElem? hc)
    have hi' : i < cs.length := (List.getElem?_eq_some_iff.mp hc).1
    have h8 := pow20 (i := i) (by have := hK.2.1; omega)
    refine ⟨_, rfl, _, rfl, _, _, rfl, rfl, .inl ⟨by omega, by omega⟩, _, rfl, _, rfl, f', c, rfl, by omega, by omega, fun g g0 gf gc => ?_⟩
    have gle := Int.le_of_dvd (by omega) gc
    obtain ⟨s1, s2, s3, s4⟩ := whole_step f1 c2 g0 gf gc
    refine ⟨_, _, rfl, rfl, ⟨g0, by omega⟩, _, _, rfl, rfl, s1, ?_, fun z hz => ?_⟩
    · have h9 : f' * c ≤ 20 ^ i * 20 := Int.mul_le_mul f2 c20 (by omega) (Int.le_of_lt (Int.pow_pos (by omega)))
      rw [Int.pow_succ]
      omega
    · rw [List.take_add_one, hc] at hz
      rcases List.mem_append.mp hz with g | g
      · exact Int.dvd_trans (hd z g) s3
      · rw [List.mem_singleton.mp g]
        exact s4
  · rintro σ H' ⟨f', y, rfl, rfl, f1, f2, hd⟩
    rw [List.length_map, List.take_length] at hd
    rw [List.length_map] at f2
    have h8 := pow20 hK.2.1
    exact ⟨_, rfl, q f' f1 (by omega) hd⟩
set_option maxHeartbeats 4000000 in
theorem ok_l_wears {P : Program} {w : World} {K : PySem.W.Frag} {mg : Str → Option Value} {base : Heap} {f : Addr} {fd : FuncData} (F : Fun K "_law_wears" "_law_wears" s_l_wears f fd) (D_l_whole : Def P w K mg base "_law_whole" 2 ["kinds"] (sp_l_whole K)) (b_sum : mg "sum" = none) :
    FnOk P w K mg base CX0 3 f fd ["kinds"] (sp_l_wears K) := by
  refine F.ok sc_l_wears (fun vs H Q E h => ?_) (fun cdv A outer s H vs Q E hr h => ?_)
  · obtain ⟨kA, cs, rfl, hC, hK, q⟩ := h
    rfl
  obtain ⟨kA, cs, rfl, hC, hK, q⟩ := h
  refine ⟨_, (pss_cons (ps_set (i := 1) sc_l_wears.nd rfl (Or.inr rfl) (pe_def D_l_whole hr (pa_cons (pv 0) pa_nil)))
        (pss_one (ps_ret (pe_cmpR op_lt (pe_callB (cr_sum rfl) (by rfl) b_sum PyProof.Rows.boot_sum (pa_cons (pe_lc (own := [("many", 2)]) (g := gName 2) (tt := tYes) rfl sc_l_wears.nd (pi_tup (pv 0)) (blkOk_by (own := [("many", 2)]) (N := ["kinds", "whole", "many"]) (sc := defScope s_l_wears) (by decide +kernel)) (fun _ _ _ _ _ => (pg_name (i := 2) sc_l_wears.nd rfl (Or.inl rfl))) (fun _ _ _ _ _ => pts_nil) (fun _ _ _ _ _ => (pe_op op_fdiv (pv 1) (pv 2)))) pa_nil)) (pv 1) (nomark _))))), ?_⟩
  refine ⟨_, rfl, kA, cs, rfl, hC, hK, fun W w1 w8 hd => ?_⟩
  refine ⟨_, rfl, kA, rfl, ⟨_, hC⟩, fun D nD => ?_⟩
  refine lc_tup (K := K) (a := kA) (xs := cs.map V.int) (fun i H' => Same H H' ∧ H' D = some (.lst (((cs.take i).map (fun c => W / c)).map V.int))) ?_ ?_ ?_ ?_
  · exact ⟨same_new (.refl H) nD, upd_same⟩
  · rintro i H' hi ⟨sm, e⟩
    exact Same.seqT sm hC
  · rintro i y H' hi ⟨sm, e⟩
    obtain ⟨c, hc, rfl⟩ := get_map hi
    obtain ⟨c2, c20⟩ := hK.2.2 c (List.mem_of_getElem? hc)
    have hi' : i < cs.length := (List.getElem?_eq_some_iff.mp hc).1
    have h3 := hK.2.1
    refine ⟨rfl, _, rfl, _, rfl, _, _, rfl, rfl, ⟨by omega, by omega⟩, _, e, ?_, same_fresh sm nD, ?_⟩
    · rw [List.length_map, List.length_map, List.length_take]
      exact small1000 (by omega)
    · rw [upd_same, take_map _ hc, List.map_append]
      rfl
  · rintro H' ⟨sm, e⟩
    rw [List.length_map, List.take_length] at e
    refine ⟨D, _, rfl, SqL.of e, _, rfl, _, _, rfl, rfl, ?_⟩
    refine q _ H' sm ?_
    obtain ⟨p1, _, p3⟩ := perOf_ok hK
    have := pays_any (fun c hc => (hK.2.2 c hc).1) p3 hd p1 w1
    rw [pq_sum, decide_eq_true_eq]
    omega
set_option maxHeartbeats 4000000 in
theorem ok_l_rest {P : Program} {w : World} {K : PySem.W.Frag} {mg : Str → Option Value} {base : Heap} {f : Addr} {fd : FuncData} (F : Fun K "_law_rest" "_law_rest" s_l_rest f fd) (D_l_paid : Def P w K mg base "_law_paid" 1 ["kinds", "had", "rides"] (sp_l_paid K)) (D_l_whole : Def P w K mg base "_law_whole" 2 ["kinds"] (sp_l_whole K)) (D_l_wears : Def P w K mg base "_law_wears" 3 ["kinds"] (sp_l_wears K)) :
    FnOk P w K mg base CX0 4 f fd ["kinds", "had"] (sp_l_rest K) := by
  refine F.ok sc_l_rest (fun vs H Q E h => ?_) (fun cdv A outer s H vs Q E hr h => ?_)
  · obtain ⟨kA, pA, cs, r, ss, rfl, hC, hP, hK, hl, hs0, hr0, q⟩ := h
    rfl
  obtain ⟨kA, pA, cs, r, ss, rfl, hC, hP, hK, hl, hs0, hr0, q⟩ := h
  refine ⟨_, (pss_cons (ps_par (i := 2) (j := 3) rfl sc_l_rest.nd rfl rfl (by decide) rfl rfl (pa_cons pe_int (pa_cons (pe_def D_l_paid hr (pa_cons (pv 0) (pa_cons (pv 1) (pa_cons pe_int pa_nil)))) pa_nil)) (by rfl))
        (pss_cons (ps_while PassesOwn.never (pt_cmpR op_gt (pv 3) (pv 2) (nomark _)) (pss_cons (ps_if (PW.pt (pw_and (pt_not (pt_val (pe_def D_l_wears hr (pa_cons (pv 0) pa_nil)))) (pw_and1 (pt_cmpR op_ge (pv 3) (pe_def D_l_whole hr (pa_cons (pv 0) pa_nil)) (nomark _))))) (pss_one (ps_ret pe_non)) pss_nil)
        (pss_one (ps_par (i := 2) (j := 3) rfl sc_l_rest.nd rfl rfl (by decide) rfl rfl (pa_cons (pv 3) (pa_cons (pe_def D_l_paid hr (pa_cons (pv 0) (pa_cons (pv 1) (pa_cons (pv 3) pa_nil)))) pa_nil)) (by rfl)))))
        (pss_one (ps_ret (pv 2))))), ?_⟩
  have hll : cs.length = ss.length := hl.symm
  have c2 : ∀ c ∈ cs, (2 : Int) ≤ c := fun c h => (hK.2.2 c h).1
  have hf0 : 0 ≤ fc cs ss 0 := fc_nonneg cs ss c2 hs0 (by omega)
  obtain ⟨p1, p2, p3⟩ := perOf_ok hK
  have hB : pq (perOf cs) cs < perOf cs → 0 ≤ bound cs r ss ∧ r + fc cs ss (bound cs r ss) ≤ bound cs r ss := fun e => bound_ok hK hll hs0 hr0 e
  refine ⟨_, rfl, _, rfl, kA, pA, cs, r, ss, 0, rfl, hC, hP, hK, hl, fun H1 s1 => ?_⟩
  refine ⟨_, _, rfl, ?_⟩
  refine while_m (fun n σ H' => ∃ had paid : Int, σ = [some (.ref kA), some (.ref pA), some (.int had), some (.int paid)] ∧ Same H H' ∧ 0 ≤ had ∧ had ≤ paid ∧ paid = r + fc cs ss had ∧ (∀ m, 0 ≤ m → m < had → m < r + fc cs ss m) ∧ had ≤ (if pq (perOf cs) cs < perOf cs then bound cs r ss else 8000) ∧ n = ((if pq (perOf cs) cs < perOf cs then bound cs r ss else 8000) - had).toNat) _ ⟨0, _, rfl, s1, by omega, by omega, rfl, fun m h0 h1 => by omega, ?_, rfl⟩ ?_ ?_
  · split
    · rename_i z
      exact (hB z).1
    · omega
  · rintro n σ H' ⟨had, paid, rfl, sm, h0, h1, hpd, hm, hbd, rfl⟩
    refine ⟨_, rfl, _, rfl, _, _, rfl, rfl, _, rfl, ite2 (fun c => ?_) (fun c => ?_)⟩
    · have c' : had < paid := of_decide_eq_true c
      have hst := least_step hK hm h0
      rw [← hpd] at hst
      have hmo : paid ≤ r + fc cs ss paid := by
        have := fc_mono cs ss (m := had) (n := paid) c2 (by omega)
        omega
      refine ⟨_, rfl, kA, cs, rfl, Same.seqT sm hC, hK, fun b H2 s2 hb => ⟨_, rfl, ?_⟩⟩
      have sm2 := sm.trans s2
      have go : ∀ H3, Same H H3 → paid ≤ (if pq (perOf cs) cs < perOf cs then bound cs r ss else 8000) → ∀ H4, Same H3 H4 → ∃ m', m' < ((if pq (perOf cs) cs < perOf cs then bound cs r ss else 8000) - had).toNat ∧ ∃ had' paid' : Int, ([some (.ref kA), some (.ref pA), some (.int paid), some (.int (r + fc cs ss paid))] : L2.St) = [some (.ref kA), some (.ref pA), some (.int had'), some (.int paid')] ∧ Same H H4 ∧ 0 ≤ had' ∧ had' ≤ paid' ∧ paid' = r + fc cs ss had' ∧ (∀ m, 0 ≤ m → m < had' → m < r + fc cs ss m) ∧ had' ≤ (if pq (perOf cs) cs < perOf cs then bound cs r ss else 8000) ∧ m' = ((if pq (perOf cs) cs < perOf cs then bound cs r ss else 8000) - had').toNat := fun H3 s3 hle H4 s4 =>
        ⟨_, by omega, paid, _, rfl, s3.trans s4, by omega, hmo, rfl, hst, hle, rfl⟩
      cases b with
      | true =>
        have z := hb.mp rfl
        have hle : paid ≤ (if pq (perOf cs) cs < perOf cs then bound cs r ss else 8000) := by
          rw [if_pos z]
          obtain ⟨b0, b1⟩ := hB z
          by_cases y : paid ≤ bound cs r ss
          · exact y
          · have := hst (bound cs r ss) b0 (by omega)
            omega
        refine iteF ⟨_, rfl, _, rfl, _, rfl, _, rfl, kA, pA, cs, r, ss, paid, rfl, Same.seqT sm2 hC, hP.same sm2, hK, hl, fun H4 s4 => ?_⟩
        exact ⟨_, _, rfl, go H2 sm2 hle H4 s4⟩
      | false =>
        have z : ¬ pq (perOf cs) cs < perOf cs := fun y => by have := hb.mpr y; cases this
        refine iteP rfl ⟨_, rfl, _, rfl, kA, cs, rfl, Same.seqT sm2 hC, hK, fun W w1 w2 hW => ?_⟩
        refine ⟨_, _, rfl, rfl, _, rfl, ite2 (fun c2' => ?_) (fun c2' => ?_)⟩
        · have c3 : W ≤ paid := of_decide_eq_true c2'
          exact q .non H2 sm2 (never_any hK hll w1 hW ((pays_any c2 p3 hW p1 w1).mp (by omega)) (fun m h0 h1 => hst m h0 (by omega)))
        · have c3 : ¬ W ≤ paid := fun y => c2' (decide_eq_true y)
          have hle : paid ≤ (if pq (perOf cs) cs < perOf cs then bound cs r ss else 8000) := by
            rw [if_neg z]
            omega
          refine ⟨_, rfl, _, rfl, _, rfl, _, rfl, kA, pA, cs, r, ss, paid, rfl, Same.seqT sm2 hC, hP.same sm2, hK, hl, fun H4 s4 => ?_⟩
          exact ⟨_, _, rfl, go H2 sm2 hle H4 s4⟩
    · have c' : ¬ had < paid := fun z => c (decide_eq_true z)
      have e : r + fc cs ss had = had := by omega
      exact ⟨_, rfl, q (.int had) H' sm ⟨h0, e, hm⟩⟩
  · rintro σ H' Q1 Q2 hq ⟨v, e, v2, e', i, j, e1, e2, k, e3, h⟩
    exact ⟨v, e, v2, e', i, j, e1, e2, k, e3, hq _ _ h⟩
set_option maxHeartbeats 4000000 in
theorem ok_l_law {P : Program} {w : World} {K : PySem.W.Frag} {mg : Str → Option Value} {base : Heap} {f : Addr} {fd : FuncData} (F : Fun K "law" "law" s_l_law f fd) {C : Addr} (T : KeptT K mg C) {c0 P0 : Addr} (TB : LamX.TabB base mg c0 P0) (hcode : fd.code = .ref c0) (D_l_bags : Def P w K mg base "_law_bags" 3 ["script", "limit"] (sp_l_bags K)) (D_l_kinds : Def P w K mg base "_law_kinds" 2 ["bag", "far"] (sp_l_kinds K)) (D_l_take : Def P w K mg base "_law_take" 1 ["bag", "many"] (sp_l_take K)) (D_l_had : Def P w K mg base "_law_had" 4 ["bag", "kinds", "far"] (sp_l_had K)) (D_m_init : KMk P w K mg base C 5 ["self", "cards", "purse"] (sp_m_init K C)) (D_l_after : Def P w K mg base "_law_after" 2 ["kinds", "state", "deed"] (sp_l_after K)) (D_l_refused : Def P w K mg base "_law_refused" 13 ["call", "one", "two", "three"] (sp_l_refused P w K mg base)) (D_l_do : DefX P w K mg base "_law_do" 6 ["kept", "deed"] (sp_l_do mg K C)) (D_m_len : MDef P w K mg base C "__len__" 1 ["self"] (sp_m_len K C)) (D_m_lent : MDef P w K mg base C "lent" 1 ["self"] (sp_m_lent K C)) (D_m_ridden : MDef P w K mg base C "ridden" 1 ["self"] (sp_m_ridden K C)) (D_m_purse : MDef P w K mg base C "purse" 1 ["self"] (sp_m_purse K C)) (D_m_eq : MDef P w K mg base C "__eq__" 1 ["self", "other"] (sp_m_eq K C)) (D_m_still : MDef P w K mg base C "still" 4 ["self"] (sp_m_still K C)) (D_l_rest : Def P w K mg base "_law_rest" 4 ["kinds", "had"] (sp_l_rest K)) (D_m_back : MDefX P w K mg base C "back" 1 ["self"] (sp_m_back mg K C)) (b_range : mg "range" = none) (b_len : mg "len" = none) (b_isinstance : mg "isinstance" = none) (b_list : mg "list" = none) {CC : Nat → Addr} {tf rd : Addr} (KT : Kin K mg CC tf rd) (TX : TfX K tf) (KE : KeptE K C) (KO4 : KinOf K CC tf rd 4) (KO7 : KinOf K CC tf rd 7) (KO8 : KinOf K CC tf rd 8) (KO9 : KinOf K CC tf rd 9) (KO10 : KinOf K CC tf rd 10) :
    FnOk P w K mg base CX0 14 f fd ["script"] (sp_l_law K P0) := by
  refine okC F sc_l_law (fun vs H Q E h => ?_) (fun A outer s H vs Q E hr h => ?_)
  · obtain ⟨a, ns, rfl, hS, h63, tb, q⟩ := h
    rfl
  obtain ⟨a, ns, rfl, hS, h63, tb, q⟩ := h
  refine ⟨_, (pss_cons (ps_for PassesOwn.never rfl (pi_list (pe_def D_l_bags hr (pa_cons (pv 0) (pa_cons pe_int pa_nil)))) (pg_name (i := 1) sc_l_law.nd rfl (Or.inl rfl)) (pss_cons (ps_set (i := 2) sc_l_law.nd rfl (Or.inl rfl) (pe_def D_l_kinds hr (pa_cons (pv 1) (pa_cons (pe_ix ix_list (pe_lst (pa_cons pe_int (pa_cons pe_int pa_nil))) (pe_def D_l_take hr (pa_cons (pv 1) (pa_cons pe_int pa_nil))) (fun _ _ => rfl)) pa_nil))))
        (pss_cons (ps_set (i := 3) sc_l_law.nd rfl (Or.inl rfl) (pe_def D_l_had hr (pa_cons (pv 1) (pa_cons (pv 2) (pa_cons pe_int pa_nil)))))
        (pss_cons (ps_par3 (i := 4) (j := 5) (l := 6) rfl sc_l_law.nd rfl rfl rfl (by decide) (by decide) (by decide) rfl rfl rfl (pa_cons (pe_mkdef T D_m_init hr (pa_cons (pv 2) (pa_cons (pv 3) pa_nil))) (pa_cons (pe_mkdef T D_m_init hr (pa_cons (pv 2) (pa_cons (pv 3) pa_nil))) (pa_cons (pe_lst (pa_cons (pe_tup (pa_cons (pv 3) (pa_cons pe_int (pa_cons pe_int pa_nil)))) pa_nil)) pa_nil))) (by rfl))
        (pss_cons (ps_for PassesOwn.never rfl (pi_range1 rfl b_range (pa_cons (pe_def D_l_take hr (pa_cons (pv 1) (pa_cons pe_int pa_nil))) pa_nil)) (pg_name (i := 7) sc_l_law.nd rfl (Or.inl rfl)) (pss_cons (ps_set (i := 8) sc_l_law.nd rfl (Or.inl rfl) (pe_ix ix_list (pe_lst (pa_cons pe_str (pa_cons pe_str (pa_cons pe_str (pa_cons pe_str (pa_cons pe_str (pa_cons pe_str (pa_cons pe_str (pa_cons pe_str pa_nil))))))))) (pe_def D_l_take hr (pa_cons (pv 1) (pa_cons pe_int pa_nil))) (fun _ _ => rfl)))
        (pss_cons (ps_set (i := 9) sc_l_law.nd rfl (Or.inl rfl) (pe_lst (pa_cons (pe_def D_l_take hr (pa_cons (pv 1) (pa_cons pe_int pa_nil))) (pa_cons (pe_def D_l_take hr (pa_cons (pv 1) (pa_cons pe_int pa_nil))) (pa_cons (pe_def D_l_take hr (pa_cons (pv 1) (pa_cons pe_int pa_nil))) (pa_cons pe_int (pa_cons pe_non (pa_cons pe_bl (pa_cons (pe_un un_neg pe_int) (pa_cons (pe_callB call_len_seq (by rfl) b_len PySem.boot_len (pa_cons (pv 2) pa_nil)) pa_nil))))))))))
        (pss_cons (ps_set (i := 10) sc_l_law.nd rfl (Or.inl rfl) (pe_ix ix_list (pv 9) (pe_def D_l_take hr (pa_cons (pv 1) (pa_cons pe_int pa_nil))) (fun _ _ => rfl)))
        (pss_cons (ps_par (i := 11) (j := 12) rfl sc_l_law.nd rfl rfl (by decide) rfl rfl (pa_cons (pe_tup (pa_cons (pv 8) (pa_cons (pv 10) pa_nil))) (pa_cons (pe_lst (pa_cons pe_str (pa_cons pe_bl pa_nil))) pa_nil)) (by rfl))
        (pss_cons (ps_if (pt_cmpR op_ne (pv 8) pe_str (nomark _)) (pss_one (ps_set (i := 12) sc_l_law.nd rfl (Or.inl rfl) (pe_def D_l_after hr (pa_cons (pv 2) (pa_cons (pe_ix ix_list (pv 6) (pe_un un_neg pe_int) (fun _ _ => rfl)) (pa_cons (pv 11) pa_nil)))))) (pss_one (ps_if (pt_cmpR op_gt (pe_callB call_len_seq (by rfl) b_len PySem.boot_len (pa_cons (pv 6) pa_nil)) pe_int (nomark _)) (pss_one (ps_set (i := 12) sc_l_law.nd rfl (Or.inl rfl) (pe_ix ix_list (pv 6) (pe_un un_neg pe_int) (fun _ _ => rfl)))) pss_nil)))
        (pss_cons (ps_set (i := 13) sc_l_law.nd rfl (Or.inl rfl) (pe_def D_l_refused hr (pa_cons (pe_lamV (T := T_l_law P0) TB hcode (List.mem_singleton.mpr rfl) (fun p hp _ => by rw [List.mem_singleton.mp hp]; rfl) rfl (by decide +kernel)) (pa_cons (pv 4) (pa_cons (pv 11) (pa_cons pe_int pa_nil))))))
        (pss_cons (ps_if (pt_cmpR (op_neD hr.units) (pv 13) (pe_ifExp (pt_val (pe_callB call_isi (by rfl) b_isinstance PyProof.Rows.boot_isinstance (pa_cons (pv 12) (pa_cons (pe_bltn (v := .ty "list") rfl b_list PyProof.Rows.boot_list rfl) pa_nil)))) (pv 12) (pe_lst pa_nil)) (nomark _)) (pss_one (ps_ret pe_bl)) pss_nil)
        (pss_cons (ps_if (pt_cmpR (op_eqD hr.units) (pv 13) (pe_lst pa_nil) (nomark _)) (pss_cons (ps_set (i := 6) sc_l_law.nd rfl (Or.inl rfl) (pe_ifExp (pt_cmpR op_eq (pv 8) pe_str (nomark _)) (pe_slice sl_list (pv 6) po_none (po_some (pe_un un_neg pe_int))) (pe_op op_cat (pv 6) (pe_lst (pa_cons (pv 12) pa_nil)))))
        (pss_one (ps_expr (pe_defX0 D_l_do hr (pa_cons (pv 5) (pa_cons (pv 11) pa_nil)))))) pss_nil)
        (pss_cons (ps_if (PW.pt (pw_or (pt_cmpR (op_neD hr.units) (pe_tup (pa_cons (pe_mdef0 T D_m_purse hr (pv 4)) (pa_cons (pe_mdef0 T D_m_ridden hr (pv 4)) (pa_cons (pe_mdef0 T D_m_lent hr (pv 4)) pa_nil)))) (pe_ix ix_list (pv 6) (pe_un un_neg pe_int) (fun _ _ => rfl)) (nomark _)) (pw_or1 (pt_cmpR op_ne (pe_callB (call_lenO D_m_len hr) (by rfl) b_len PySem.boot_len (pa_cons (pv 4) pa_nil)) (pe_callB call_len_seq (by rfl) b_len PySem.boot_len (pa_cons (pv 2) pa_nil)) (nomark _))))) (pss_one (ps_ret pe_bl)) pss_nil)
        (pss_one (ps_if (PW.pt (pw_or (pt_cmpR op_ne (pe_mdef0 T D_m_still hr (pv 4)) (pe_def D_l_rest hr (pa_cons (pv 2) (pa_cons (pe_ix ix_tup (pe_ix ix_list (pv 6) (pe_un un_neg pe_int) (fun _ _ => rfl)) pe_int (fun _ _ => rfl)) pa_nil))) (nomark _)) (pw_or (pt_not (pt_cmpR (op_eqO D_m_eq hr) (pv 4) (pv 5) (nomark _))) (pw_or1 (pt_cmpR (op_eqO D_m_eq hr) (pv 4) (pv 3) (nomark _)))))) (pss_one (ps_ret pe_bl)) pss_nil))))))))))))
        (pss_cons (ps_for PassesOwn.never rfl (pi_range1 rfl b_range (pa_cons (pe_op op_sub (pe_callB call_len_seq (by rfl) b_len PySem.boot_len (pa_cons (pv 6) pa_nil)) pe_int) pa_nil)) (pg_name (i := 7) sc_l_law.nd rfl (Or.inl rfl)) (pss_one (ps_expr (pe_mdefN0 T D_m_back hr (pv 4)))))
        (pss_cons (ps_if (PW.pt (pw_or (pt_not (pt_cmpR (op_eqO D_m_eq hr) (pv 4) (pe_mkdef T D_m_init hr (pa_cons (pv 2) (pa_cons (pv 3) pa_nil))) (nomark _))) (pw_or1 (pt_cmpR op_ne (pe_cmpR (op_eqO D_m_eq hr) (pv 4) (pv 5) (nomark _)) (pe_cmpR (op_eqD hr.units) (pe_ix ix_list (pv 6) pe_int (fun _ _ => rfl)) (pe_ix ix_list (pv 6) (pe_un un_neg pe_int) (fun _ _ => rfl)) (nomark _)) (nomark _))))) (pss_one (ps_ret pe_bl)) pss_nil)
        (pss_one (ps_if (pt_cmpR (op_neD hr.units) (pe_def D_l_refused hr (pa_cons (pe_lamV (T := T_l_law P0) TB hcode (List.mem_singleton.mpr rfl) (fun p hp _ => by rw [List.mem_singleton.mp hp]; rfl) rfl (by decide +kernel)) (pa_cons (pv 4) (pa_cons pe_int (pa_cons pe_int pa_nil))))) (pe_lst (pa_cons pe_str (pa_cons pe_bl pa_nil))) (nomark _)) (pss_one (ps_ret pe_bl)) pss_nil)))))))))
        (pss_one (ps_ret pe_bl))), ?_⟩
  refine ⟨_, rfl, a, ns, 6, rfl, hS, h63, by omega, by omega, fun p bs H1 k1 np ep hl hb => ?_⟩
  refine ⟨p, rfl, ⟨_, SqL.of ep⟩, ?_⟩
  refine for_list (K := K) (a := p) (xs := bs.map V.ref) (fun i σ H' => ∃ y1 y2 y3 y4 y5 y6 y7 y8 y9 y10 y11 y12 y13, σ = [some (.ref a), y1, y2, y3, y4, y5, y6, y7, y8, y9, y10, y11, y12, y13] ∧ Kq H1 H' ∧ LamX.Tabs (T_l_law P0) H') ?_ ?_ ?_ ?_
  · exact ⟨_, _, _, _, _, _, _, _, _, _, _, _, _, rfl, .of (.refl H1), k1.tabs tb⟩
  · rintro i σ H' hi ⟨y1, y2, y3, y4, y5, y6, y7, y8, y9, y10, y11, y12, y13, rfl, kk, _⟩
    exact SqL.of (kk.keep _ _ ep nrefs ntbl_lst)
  · rintro i x σ Hb hx ⟨y1, y2, y3, y4, y5, y6, y7, y8, y9, y10, y11, y12, y13, rfl, kk, tb0⟩
    obtain ⟨b, hbm, rfl⟩ := get_ref hx
    have hB0 : Bag Hb b := kk.bags (hb b hbm)
    -- kinds
    refine ⟨_, rfl, (by show 2 ≤ sizeLine; decide), fun l nl => ?_⟩
    have kl := (Kp.refl Hb).new (o := .lst (([4, 20] : List Int).map V.int)) nl
    refine ⟨_, rfl, b, _, rfl, kl.bags hB0, p0, fun r0 H2 r00 r01 k2 => ?_⟩
    obtain ⟨v, hv, _, ha⟩ := at_int (ns := [4, 20]) (k := r0) r00 r01
    have hv2 : 2 ≤ v ∧ v ≤ 20 := by
      simp only [List.mem_cons, List.not_mem_nil, or_false] at hv
      omega
    refine ⟨l, _, _, _, rfl, rfl, SqL.of (k2.keep _ _ upd_same (nint (ns := [4, 20]))), ha, b, v, rfl, (kl.trans k2).bags hB0, hv2.1, fun kA cs H3 k3 e3 c1 c3 hc => ?_⟩
    have hK : Cards cs := ⟨c1, c3, fun c h => ⟨(hc c h).1, by have := (hc c h).2; omega⟩⟩
    have kt3 := (kl.trans k2).trans k3
    -- had
    refine ⟨_, rfl, _, rfl, b, kA, cs, 20, rfl, kt3.bags hB0, SqT.of e3, c3, by decide, fun pA zA r ss H5 k5 e5 e5' r0 rv hsl hss => ?_⟩
    have kt5 := kt3.trans k5
    have hB5 : Bag H5 b := kt5.bags hB0
    have eK5 : H5 kA = some (.tup (cs.map V.int)) := k5.keep _ _ e3 ntup
    have hP5 : Purse K H5 pA r ss := ⟨zA, SqT.of e5, SqT.of e5'⟩
    have hSt : Stamps cs.length ss := ⟨hsl, fun x hx => ⟨(hss x hx).1, by have := (hss x hx).2; omega⟩⟩
    have hr1 : r ≤ 1000000000000000000 := by omega
    have tb5 := kt5.tabs tb0
    have kk5 : Kq H1 H5 := kk.trans (.of kt5)
    have gk0 : GoodK cs ⟨r, ss, 0, 0⟩ := ⟨hsl, fun s hs => (hss s hs).1, r0⟩
    clear hv hv2 hc hss rv kt3 kt5 k5 k3 kl k2 e3 ha hB0 tb0 kk
    -- kept, other, states
    refine ⟨_, rfl, _, rfl, fun x dx nx ndx nxd => ?_⟩
    have sm := same_made (C := C) nx ndx
    refine ⟨x, dx, kA, pA, cs, r, ss, rfl, upd_same, Same.seqT sm (SqT.of eK5), hP5.same sm, hK, hSt, r0, hr1, fun sA H6 nsA hX6 hk6 => ⟨rfl, ?_⟩⟩
    have s6 : Same H5 H6 := Same.made nx ndx hk6
    have nsA5 : H5 sA = none := sm.free nsA
    refine ⟨_, rfl, _, rfl, fun x2 dx2 nx2 ndx2 nxd2 => ?_⟩
    have sm2 := same_made (C := C) nx2 ndx2
    refine ⟨x2, dx2, kA, pA, cs, r, ss, rfl, upd_same, Same.seqT sm2 (SqT.of (s6 _ _ eK5)), (hP5.same s6).same sm2, hK, hSt, r0, hr1, fun sB H7 nsB hY7 hk7 => ⟨rfl, ?_⟩⟩
    have s7 : Same H6 H7 := Same.made nx2 ndx2 hk7
    have nsB6 : H6 sB = none := sm2.free nsB
    have nAB : sA ≠ sB := by
      obtain ⟨ys, ey⟩ := hX6.lst
      exact ne_of_none ey nsB6
    refine ⟨_, rfl, (by show 3 ≤ sizeLine; decide), fun t nt => ⟨(by show 1 ≤ sizeLine; decide), fun tS0 ntS => ?_⟩⟩
    have s8 := same_upd (o := .tup [.ref pA, .int 0, .int 0]) nt
    have s9 := same_upd (o := .lst [.ref t]) ntS
    have s79 := s8.trans s9
    have TR0 : Turn C K (T_l_law P0) H5 (upd (upd H7 t (.tup [.ref pA, .int 0, .int 0])) tS0 (.lst [.ref t])) x sA x2 sB tS0 cs [⟨r, ss, 0, 0⟩] [⟨r, ss, 0, 0⟩] [⟨r, ss, 0, 0⟩] := by
      have s59 := (s6.trans s7).trans s79
      obtain ⟨ya, ea⟩ := hX6.lst
      obtain ⟨yb, eb⟩ := hY7.lst
      refine ⟨.of (.of s59), same_tabs s59 tb5, hX6.same (s7.trans s79), hY7.same s79, ⟨[t], upd_same, .cons (k := ⟨r, ss, 0, 0⟩) (Same.seqT s9 (SqT.of upd_same)) (hP5.same s59) .nil⟩, nsA5, s6.free nsB6, nAB, ?_, ?_⟩
      · exact Ne.symm (ne_of_none ((s7.trans s8) _ _ ea) ntS)
      · exact Ne.symm (ne_of_none (s8 _ _ eb) ntS)
    obtain ⟨H9, hH9⟩ : ∃ H9, H9 = upd (upd H7 t (.tup [.ref pA, .int 0, .int 0])) tS0 (.lst [.ref t]) := ⟨_, rfl⟩
    rw [← hH9] at TR0 ⊢
    clear hH9 s79 s8 s9 nt ntS hX6 hY7 hk6 hk7 sm sm2 nx ndx nx2 ndx2 nxd nxd2 nsA nsB
    refine ⟨_, _, _, rfl, ?_⟩
    -- the turns
    have hBq : ∀ {H' : Hp}, Kq H5 H' → Bag H' b := fun {H'} k => k.bags hB5
    have hKq : ∀ {H' : Hp}, Kq H5 H' → SqT K H' kA (cs.map V.int) := fun {H'} k => SqT.of (k.keep _ _ eK5 ntup ntbl_tup)
    have hPq : ∀ {H' : Hp}, Kq H5 H' → Purse K H' pA r ss := fun {H'} k => ⟨zA, SqT.of (k.keep _ _ e5 ntup ntbl_tup), SqT.of (k.keep _ _ e5' ntup ntbl_tup)⟩
    refine ⟨_, rfl, b, _, rfl, hBq TR0.kq, p0, fun n H10 n0 n1 k10 => ?_⟩
    refine ⟨_, rfl, by omega, by omega, ?_⟩
    refine for_range (lo := 0) (n := n.toNat) (fun i σ H' => ∃ (tS : Addr) (ks : List KS) (k : KS) (z7 z8 z9 z10 z11 z12 z13 : Option V), σ = [some (.ref a), some (.ref b), some (.ref kA), some (.ref pA), some (.ref x), some (.ref x2), some (.ref tS), z7, z8, z9, z10, z11, z12, z13] ∧ Turn C K (T_l_law P0) H5 H' x sA x2 sB tS cs (ks ++ [k]) (ks ++ [k]) (ks ++ [k]) ∧ (∀ s ∈ ks ++ [k], GoodK cs s) ∧ ks.length ≤ i ∧ (ks ++ [k]).head? = some ⟨r, ss, 0, 0⟩) ?_ ?_ ?_
    · exact ⟨tS0, [], ⟨r, ss, 0, 0⟩, _, _, _, _, _, _, _, rfl, TR0.kp k10, fun s hs => by rw [List.mem_singleton.mp hs]; exact gk0, Nat.le_refl _, rfl⟩
    · rintro i σ Hc hi ⟨tS, ks, k, z7, z8, z9, z10, z11, z12, z13, rfl, TR, hg, hlen, hhd⟩
      have hi' : i < 41 := by omega
      -- word
      refine ⟨(by show 8 ≤ sizeLine; decide), fun lw nlw => ?_⟩
      have sw := same_upd (o := .lst wordsL) nlw
      have TR := TR.same sw
      refine ⟨_, rfl, b, _, rfl, hBq TR.kq, p0, fun j1 Hd j10 j11 kd => ?_⟩
      obtain ⟨wv, hwv, hat⟩ := at_any (xs := wordsL) j10 j11
      obtain ⟨w, rfl⟩ := words_wd hwv
      have elw : Hd lw = some (.lst wordsL) := kd.keep _ _ (upd_at nlw) (fun ⟨_, _, z⟩ => nomatch z)
      refine ⟨lw, _, _, _, rfl, rfl, SqL.of elw, hat, ?_⟩
      have TR := TR.kp kd
      clear elw hat hwv sw nlw kd
      -- some
      refine ⟨_, rfl, b, _, rfl, hBq TR.kq, p0, fun m1 He _ _ ke => ?_⟩
      have TR := TR.kp ke
      refine ⟨_, rfl, b, _, rfl, hBq TR.kq, p0, fun m2 Hf _ _ kf => ?_⟩
      have TR := TR.kp kf
      refine ⟨_, rfl, b, _, rfl, hBq TR.kq, p0, fun m3 Hg _ _ kg => ?_⟩
      have TR := TR.kp kg
      refine ⟨_, rfl, _, rfl, kA, _, rfl, .inr (hKq TR.kq), (by show 8 ≤ sizeLine; decide), fun ls nls => ?_⟩
      rw [List.length_map]
      have TR := TR.same (same_upd (o := .lst (someL m1 m2 m3 cs.length)) nls)
      -- number
      refine ⟨_, rfl, _, rfl, b, _, rfl, hBq TR.kq, p0, fun j2 Hh j20 j21 kh => ?_⟩
      obtain ⟨nv, hnv, hat⟩ := at_any (xs := someL m1 m2 m3 cs.length) j20 j21
      have hy := some_num hnv
      have els : Hh ls = some (.lst (someL m1 m2 m3 cs.length)) := kh.keep _ _ (upd_at nls) (fun ⟨_, _, z⟩ => nomatch z)
      refine ⟨ls, _, _, _, rfl, rfl, SqL.of els, hat, ?_⟩
      have TR := TR.kp kh
      clear els hat hnv nls kh ke kf kg
      -- deed, due
      refine ⟨_, rfl, _, rfl, (by show 2 ≤ sizeLine; decide), fun dA ndA => ?_⟩
      refine ⟨(by show 2 ≤ sizeLine; decide), fun uA nuA => ?_⟩
      have sd := (same_upd (o := .tup [.str w.str, nv]) ndA).trans (same_upd (o := .lst [.str "NothingLeft", .bl true]) nuA)
      have hD : SqT K (upd (upd Hh dA (.tup [.str w.str, nv])) uA (.lst [.str "NothingLeft", .bl true])) dA [.str w.str, nv] := Same.seqT (same_upd nuA) (SqT.of upd_same)
      have hU : (upd (upd Hh dA (.tup [.str w.str, nv])) uA (.lst [.str "NothingLeft", .bl true])) uA = some (.lst [.str "NothingLeft", .bl true]) := upd_same
      have TR := TR.same sd
      obtain ⟨Hi, hHi⟩ : ∃ Hi, Hi = upd (upd Hh dA (.tup [.str w.str, nv])) uA (.lst [.str "NothingLeft", .bl true]) := ⟨_, rfl⟩
      rw [← hHi] at TR hD hU ⊢
      clear hHi sd ndA nuA
      refine ⟨_, _, rfl, ?_⟩
      have hgk : GoodK cs k := hg k (List.mem_append_right _ List.mem_cons_self)
      obtain ⟨ts, ets, hts⟩ := TR.st
      obtain ⟨us, t, pT, rfl, hus, hT1, hT2⟩ := hts.last
      rw [List.map_append] at ets
      -- what is due
      apply viaD (H0 := Hi) (fun v H' => DueV K H' (outK cs ks k w nv) v)
      case main =>
        intro tail
        by_cases hw : w = .back
        case neg =>
          refine ⟨_, rfl, rfl, _, rfl, iteP (by rw [decide_eq_false (Wd.ne_back hw)]; rfl) ?_⟩
          refine ⟨_, rfl, _, rfl, _, rfl, tS, _, _, _, rfl, rfl, SqL.of ets, atI_last _ _, _, rfl, kA, t, dA, pT, cs, k, w, nv, rfl, hKq TR.kq, hT1, hT2, hD, hw, hy, hgk, c3, fun v H' s h => ?_⟩
          rw [← outK_other (ks := ks) hw] at h
          exact tail v H' s h
        case pos =>
          refine ⟨_, rfl, rfl, _, rfl, iteNS (Wd.is_back hw) ?_⟩
          refine ⟨_, rfl, tS, _, rfl, .inl (SqL.of ets), _, _, rfl, rfl, _, rfl, ite2 (fun c => ?_) (fun c => ?_)⟩
          · have c' : (1 : Int) < ((us.map V.ref ++ [V.ref t]).length : Nat) := of_decide_eq_true c
            rw [List.length_append, List.length_map, List.length_singleton, hus.len] at c'
            rcases List.eq_nil_or_concat ks with rfl | ⟨l, z, rfl⟩
            · simp at c'
            · rw [List.concat_eq_append] at hus
              obtain ⟨us2, t2, pT2, rfl, hus2, hT3, hT4⟩ := hus.last
              rw [List.map_append] at ets
              refine ⟨_, rfl, _, rfl, tS, _, _, _, rfl, rfl, SqL.of ets, atI_two, ?_⟩
              refine tail (.ref t2) Hi (.refl Hi) ?_
              rw [List.concat_eq_append, outK_snoc hw]
              exact ⟨t2, pT2, rfl, hT3, hT4⟩
          · have c' : ¬ (1 : Int) < ((us.map V.ref ++ [V.ref t]).length : Nat) := fun z => c (decide_eq_true z)
            rw [List.length_append, List.length_map, List.length_singleton, hus.len] at c'
            have e0 : ks = [] := List.eq_nil_of_length_eq_zero (by omega)
            refine tail (.ref uA) Hi (.refl Hi) ?_
            rw [e0, outK_nil hw]
            exact ⟨uA, rfl, hU⟩
      case rest =>
        clear hU ets hT1 hT2 hus
        intro dv Hj sj hdue
        have TR := TR.same sj
        have hD := Same.seqT sj hD
        -- kin
        refine ⟨TR.tb, fun fl cl Hk exk tbk nk ef ec => ?_⟩
        have TR := TR.ext exk tbk
        have hD := ext_seqT exk hD
        have hdue := hdue.ext exk
        refine ⟨_, rfl, _, rfl, ?_⟩
        obtain ⟨ks', k', est, hg', hlen', hhd', hz⟩ := nst_ok (w := w) (y := nv) hg
        obtain ⟨ys, eys⟩ := TR.k1.lst
        have okr : ∀ i, outK cs ks k w nv = .ref i → KinOf K CC tf rd i ∧ mg (kinN i) = some (.ref (CC i)) := fun i e => by
          rcases outK_ref e with rfl | rfl | rfl | rfl | rfl
          · exact ⟨KO4, KT.w 4 (by decide)⟩
          · exact ⟨KO7, KT.w 7 (by decide)⟩
          · exact ⟨KO8, KT.w 8 (by decide)⟩
          · exact ⟨KO9, KT.w 9 (by decide)⟩
          · exact ⟨KO10, KT.w 10 (by decide)⟩
        apply viaR (fun p H' => But sA Hk H' ∧ H' p = some (.lst (outL (outK cs ks k w nv))) ∧ KeptAt C K H' x sA cs (nst w ks k (outK cs ks k w nv)))
        case main =>
          intro tail
          refine ⟨fl, .ref x, .ref dA, .int 0, sp_lamD mg K C, CC, tf, rd, sA, ys, rfl, KT, TX, .inr ⟨_, _, (lok_of (k := 11) (N := ["a", "b", "c"]) (ps := ["a", "b", "c"]) (NdefX.nscope_by (by dsimp only; decide +kernel)) rfl (fun pm ctv us hl => match us, hl with | [_, _, _], _ => rfl) (fun vs H Q E h => by obtain ⟨_, _, _, _, _, _, _, _, _, rfl, _⟩ := h; rfl) (fun A outer s H vs Q E hr2 h => ?_)), ef, ec⟩, mono_lamD, eys, fun Hl sl => ⟨x, sA, dA, cs, ks, k, w, nv, .int 0, rfl, ⟨TR.k1.same sl, hgk, c3, by omega⟩, Same.seqT sl hD, hy, ?_⟩⟩
          · obtain ⟨x', sA', dA', cs', ks', k', w', y', c', rfl, h1, h2, h3, h4⟩ := h
            exact ⟨_, pe_defX D_l_do hr2 (L2N.takes_of rfl rfl rfl rfl) (pa_cons (pv 0) (pa_cons (pv 1) pa_nil)), _, rfl, _, rfl, x', sA', dA', cs', ks', k', w', y', rfl, h1, h2, h3, h4⟩
          · cases ho : outK cs ks k w nv with
            | ok z =>
              rw [ho] at tail
              refine fun H' bt hX' => ⟨bt, fun pk Hm sm em => ?_⟩
              exact tail pk Hm ⟨((But.of sl).trans bt).trans (.of sm), em, hX'.same sm⟩
            | ref i =>
              obtain ⟨ko, gm⟩ := okr i ho
              rw [ho] at tail
              refine fun H' C' s' g' => ?_
              rw [gm] at g'
              cases g'
              refine ⟨s', .inl ⟨i, rfl, rfl, ko, fun pk Hm sm em => ?_⟩⟩
              exact tail pk Hm ⟨.of ((sl.trans s').trans sm), em, TR.k1.same ((sl.trans s').trans sm)⟩
            | few n =>
              rw [ho] at tail
              refine fun dd H' C' s' g' ed => ?_
              rw [KT.tf] at g'
              cases g'
              refine ⟨s', .inr ⟨n, dd, rfl, rfl, ed, fun pk Hm sm em => ?_⟩⟩
              exact tail pk Hm ⟨.of ((sl.trans s').trans sm), em, TR.k1.same ((sl.trans s').trans sm)⟩
        case rest =>
          rintro pk Hm ⟨bt, ek, hXm⟩
          have hdm := hdue.butK bt TR.k1
          have hDm := but_tup bt eys _ _ hD
          have TRm := TR.but1 bt hXm
          clear hdue eys TR hXm bt ef ec exk tbk nk tb5 hD
          apply viaP (fun H' => Same Hm H')
          case main =>
            intro tail
            cases ho : outK cs ks k w nv with
            | ref i =>
              rw [ho] at hdm ek
              obtain ⟨p', edv, h1'⟩ := hdm
              refine ⟨_, rfl, _, rfl, dv, .ty "list", .type "list", .type "list", true, rfl, .ty "list", (by rw [edv]; exact tyL (SqL.of h1')), kit_ty (by decide +kernel), _, rfl, ?_⟩
              refine iteP rfl ⟨_, rfl, _, _, out_dp (o := .ref i) ek, (by rw [edv]; exact out_dp (o := .ref i) h1'), out_shaped _, out_shaped _, _, rfl, ?_⟩
              rw [out_eqv]
              exact iteF (tail Hm (.refl Hm))
            | few n =>
              rw [ho] at hdm ek
              obtain ⟨p', edv, h1'⟩ := hdm
              refine ⟨_, rfl, _, rfl, dv, .ty "list", .type "list", .type "list", true, rfl, .ty "list", (by rw [edv]; exact tyL (SqL.of h1')), kit_ty (by decide +kernel), _, rfl, ?_⟩
              refine iteP rfl ⟨_, rfl, _, _, out_dp (o := .few n) ek, (by rw [edv]; exact out_dp (o := .few n) h1'), out_shaped _, out_shaped _, _, rfl, ?_⟩
              rw [out_eqv]
              exact iteF (tail Hm (.refl Hm))
            | ok z =>
              rw [ho] at hdm ek
              obtain ⟨t', p', edv, h1', h2'⟩ := hdm
              refine ⟨_, rfl, _, rfl, dv, .ty "list", .type "tuple", .type "list", false, rfl, .ty "list", (by rw [edv]; exact tyT h1'), kit_ty (by decide +kernel), _, rfl, ?_⟩
              refine iteF ⟨Nat.zero_le _, fun l0 n0 => ?_⟩
              refine ⟨_, _, out_dp (o := .ok z) (same_upd n0 _ _ ek), .lst (SqL.of upd_same) .nil, out_shaped _, shaped_nil, _, rfl, ?_⟩
              rw [show PyData.eqv (outD (.ok z)) (.list []) = true from nil_eqv]
              exact iteF (tail _ (same_upd n0))
          case rest =>
          intro Hn sn
          have TRn := TRm.same sn
          have hdn := hdm.same sn
          have hDn := Same.seqT sn hDm
          have ekn := sn _ _ ek
          clear hdm hDm ek TRm
          -- is it done?
          refine ⟨_, rfl, Nat.zero_le _, fun l5 n5 => ?_⟩
          have so := same_upd (o := .lst []) n5
          have e5 : (upd Hn l5 (.lst [])) l5 = some (.lst []) := upd_same
          obtain ⟨Ho, hHo⟩ : ∃ Ho, Ho = upd Hn l5 (.lst []) := ⟨_, rfl⟩
          rw [← hHo] at so e5 ⊢
          have TRo := TRn.same so
          have hdo := hdn.same so
          have hDo := Same.seqT so hDn
          refine ⟨_, _, out_dp (so _ _ ekn), .lst (SqL.of e5) .nil, out_shaped _, shaped_nil, _, rfl, ?_⟩
          clear hdn hDn TRn hHo sn ekn so e5 n5
          apply viaR (fun tN H' => Turn C K (T_l_law P0) H5 H' x sA x2 sB tN cs (ks' ++ [k']) (ks' ++ [k']) (ks' ++ [k']))
          case main =>
            intro tail
            rw [← est] at tail
            cases ho : outK cs ks k w nv with
            | ok z =>
              rw [ho] at tail TRo hdo
              rw [show PyData.eqv (outD (.ok z)) (.list []) = true from nil_eqv]
              obtain ⟨t', p', edv, h1', h2'⟩ := hdo
              obtain ⟨ts, ets, hts⟩ := TRo.st
              refine iteP rfl ?_
              by_cases hw : w = .back
              case neg =>
                refine ⟨_, rfl, rfl, _, rfl, iteN (fun e => Wd.ne_back hw (of_decide_eq_true e)) ?_⟩
                refine ⟨_, rfl, _, rfl, (by show 1 ≤ sizeLine; decide), fun l6 n6 => ?_⟩
                have s6' := same_upd (o := .lst [dv]) n6
                refine ⟨tS, l6, _, _, rfl, rfl, s6' _ _ ets, upd_same, ?_, fun tN nN => ?_⟩
                · rw [List.length_map, hts.len, List.length_append]
                  show ks.length + 1 + 1 ≤ sizeLine
                  exact Nat.le_trans (show ks.length + 1 + 1 ≤ 100 by omega) (by decide)
                have s7' := same_upd (o := .lst (ts.map V.ref ++ [dv])) nN
                have sx := s6'.trans s7'
                have TRp : Turn C K (T_l_law P0) H5 _ x sA x2 sB tN cs (newS w ks k z) (ks ++ [k]) (newS w ks k z) := TRo.news (ts := ts ++ [t']) sx (s6'.free nN) (by rw [upd_same, edv, List.map_append]; rfl) (by
                  rw [newS_other hw]
                  exact (hts.same sx).app (.cons (Same.seqT sx h1') (h2'.same sx) .nil))
                refine ⟨_, rfl, _, rfl, x2, sB, dA, cs, ks, k, w, nv, rfl, ⟨TRp.k2, hgk, c3, by omega⟩, Same.seqT sx hDo, hy, ?_⟩
                rw [ho]
                exact fun H' bt hX' => tail tN H' (TRp.but2 bt hX')
              case pos =>
                obtain ⟨us, t, pT, rfl, hus, hT1, hT2⟩ := hts.last
                rw [List.map_append] at ets
                refine ⟨_, rfl, rfl, _, rfl, iteP (decide_eq_true (Wd.is_back hw)) ?_⟩
                refine ⟨_, rfl, _, rfl, _, rfl, tS, _, rfl, SqL.of ets, fun tN nN => ?_⟩
                have sx := same_upd (o := .lst (cutV (us.map V.ref ++ [t].map V.ref) none (some (-1)))) nN
                have TRp : Turn C K (T_l_law P0) H5 _ x sA x2 sB tN cs (newS w ks k z) (ks ++ [k]) (newS w ks k z) := TRo.news (ts := us) sx nN (by rw [upd_same]; exact congrArg (fun l => some (HO.lst l)) cut_init) (by
                  rw [hw]
                  exact hus.same sx)
                refine ⟨_, rfl, _, rfl, x2, sB, dA, cs, ks, k, w, nv, rfl, ⟨TRp.k2, hgk, c3, by omega⟩, Same.seqT sx hDo, hy, ?_⟩
                rw [ho]
                exact fun H' bt hX' => tail tN H' (TRp.but2 bt hX')
            | ref i =>
              rw [ho] at tail TRo
              rw [out_no (o := .ref i) (fun z e => nomatch e)]
              exact iteF (tail tS Ho TRo)
            | few n =>
              rw [ho] at tail TRo
              rw [out_no (o := .few n) (fun z e => nomatch e)]
              exact iteF (tail tS Ho TRo)
          case rest =>
          intro tN Hq TR
          clear hdo hDo TRo
          obtain ⟨dx', cA', us', t1', pA', g1, _⟩ := TR.k1.top
          have hgk' : GoodK cs k' := hg' k' (List.mem_append_right _ List.mem_cons_self)
          obtain ⟨ts, ets, hts⟩ := TR.st
          obtain ⟨us, t, pT, rfl, hus, hT1, hT2⟩ := hts.last
          rw [List.map_append] at ets
          -- what is told
          refine ⟨_, rfl, x, dx', _, rfl, g1, kf_no _ _ (by decide +kernel) (by decide +kernel), x, sA, cs, ks', k', rfl, TR.k1, fun pB hPB => ?_⟩
          refine ⟨_, rfl, x, dx', _, rfl, g1, kf_no _ _ (by decide +kernel) (by decide +kernel), x, sA, cs, ks', k', rfl, TR.k1, ?_⟩
          refine ⟨_, rfl, x, dx', _, rfl, g1, kf_no _ _ (by decide +kernel) (by decide +kernel), x, sA, cs, ks', k', rfl, TR.k1, ?_⟩
          refine ⟨(by show 3 ≤ sizeLine; decide), fun tT ntT => ?_⟩
          have st := same_upd (o := .tup [.ref pB, .int k'.rd, .int k'.ln]) ntT
          have eT : (upd Hq tT (.tup [.ref pB, .int k'.rd, .int k'.ln])) tT = some (.tup [.ref pB, .int k'.rd, .int k'.ln]) := upd_same
          obtain ⟨Hr, hHr⟩ : ∃ Hr, Hr = upd Hq tT (.tup [.ref pB, .int k'.rd, .int k'.ln]) := ⟨_, rfl⟩
          rw [← hHr] at st eT ⊢
          have TR := TR.same st
          have ets := st _ _ ets
          have hT1 := Same.seqT st hT1
          have hT2 := hT2.same st
          have g1 := st _ _ g1
          refine ⟨_, rfl, _, rfl, tN, _, _, _, rfl, rfl, SqL.of ets, atI_last _ _, ?_⟩
          refine ⟨_, _, ks_dp (SqT.of eT) (hPB.same st), ks_dp hT1 hT2, ks_shaped _, ks_shaped _, _, rfl, ?_⟩
          rw [ks_eqv]
          refine iteF ?_
          refine ⟨_, rfl, x, dx', _, rfl, g1, x, sA, cs, _, rfl, TR.k1, _, rfl, ⟨by omega, by omega⟩, _, rfl, kA, _, rfl, .inr (hKq TR.kq), ?_⟩
          rw [List.length_map]
          refine ⟨rfl, _, rfl, iteNS rfl ?_⟩
          -- what is still to come
          refine ⟨_, rfl, x, dx', _, rfl, g1, kf_no _ _ (by decide +kernel) (by decide +kernel), x, sA, cs, ks', k', rfl, TR.k1, hK, hgk'.len, hgk'.nn, hgk'.r0, fun v1 Hs ss1 hv1 => ?_⟩
          have TR := TR.same ss1
          refine ⟨_, rfl, _, rfl, _, rfl, tN, _, _, _, rfl, rfl, SqL.of (ss1 _ _ ets), atI_last _ _, t, _, _, _, rfl, rfl, Same.seqT ss1 hT1, atI_nat (j := 0) rfl, ?_⟩
          refine ⟨kA, pT, cs, k'.r, k'.ss, rfl, hKq TR.kq, hT2.same ss1, hK, hgk'.len, hgk'.nn, hgk'.r0, fun v2 Hu ss2 hv2 => ?_⟩
          obtain rfl := told_unique hv1 hv2
          have TR := TR.same ss2
          refine ⟨?_, _, rfl, iteNS rfl ?_⟩
          · rcases told_cases hv1 with ⟨rfl, _⟩ | ⟨t9, rfl, _⟩ <;> rfl
          obtain ⟨dy', cB', vs', t2', pB', g2, _⟩ := TR.k2.top
          refine ⟨_, rfl, _, rfl, x, dx', _, .ref C, rfl, ss2 _ _ (ss1 _ _ g1), .ins g2, KE.n2, x, .ref x2, rfl, KE, .inr ⟨x2, sA, sB, cs, ks', k', ks', k', rfl, TR.k1, TR.k2, _, rfl, _, rfl, ?_⟩⟩
          rw [ks_eqv]
          refine iteF ?_
          obtain ⟨zP, hp1, hp2⟩ := hPq TR.kq
          refine ⟨_, rfl, _, rfl, x, dx', _, .type "tuple", rfl, ss2 _ _ (ss1 _ _ g1), .kit (tyT hp1), KE.n1, x, .ref pA, rfl, KE, .inl ⟨pA, _, rfl, hp1, _, rfl, _, rfl, ?_⟩⟩
          refine iteF ?_
          exact ⟨tN, ks', k', _, _, _, _, _, _, _, rfl, TR, hg', by omega, hhd'.trans hhd⟩
    · rintro σ Hv ⟨tS, ks, k, z7, z8, z9, z10, z11, z12, z13, rfl, TR, hg, hlen, hhd⟩
      obtain ⟨ts, ets, hts⟩ := TR.st
      have htl := hts.len
      rw [List.length_append, List.length_singleton] at htl
      refine ⟨_, rfl, tS, _, rfl, .inl (SqL.of ets), _, _, rfl, rfl, _, rfl, ?_, ?_, ?_⟩
      · rw [List.length_map]; omega
      · rw [List.length_map]; omega
      refine for_range (lo := 0) (n := (((ts.map V.ref).length : Int) - 1).toNat) (fun i σ H' => ∃ z7, σ = [some (.ref a), some (.ref b), some (.ref kA), some (.ref pA), some (.ref x), some (.ref x2), some (.ref tS), z7, z8, z9, z10, z11, z12, z13] ∧ Turn C K (T_l_law P0) H5 H' x sA x2 sB tS cs ((ks ++ [k]).take (ks.length + 1 - i)) (ks ++ [k]) (ks ++ [k])) ?_ ?_ ?_
      · refine ⟨_, rfl, ?_⟩
        rw [Nat.sub_zero, show ks.length + 1 = (ks ++ [k]).length by simp, List.take_length]
        exact TR
      · rintro i σ Hw hi ⟨z7', rfl, TRw⟩
        rw [List.length_map, htl] at hi
        have hi' : i < ks.length := by omega
        obtain ⟨y1, y2, y3, y4, y5⟩ : ∃ l z, (ks ++ [k]).take (ks.length + 1 - i) = l ++ [z] ∧ l ≠ [] ∧ l = (ks ++ [k]).take (ks.length + 1 - (i + 1)) := by
          refine ⟨(ks ++ [k]).take (ks.length + 1 - (i + 1)), (ks ++ [k])[ks.length + 1 - (i + 1)]'(by simp; omega), ?_, ?_, rfl⟩
          · rw [List.take_append_getElem]
            congr 1
            omega
          · intro z
            have := congrArg List.length z
            rw [List.length_take] at this
            simp at this
            omega
        have kX := TRw.k1
        rw [y3] at kX
        obtain ⟨dx', cA', us', t1', pA', g1, _⟩ := kX.top
        refine ⟨_, rfl, x, dx', _, rfl, g1, kf_no _ _ (by decide +kernel) (by decide +kernel), x, sA, cs, y1, y2, rfl, kX, fun z => absurd z y4, fun _ H' bt hX' => ?_⟩
        refine ⟨_, rfl, ?_⟩
        rw [← y5]
        exact TRw.but1 bt hX'
      · rintro σ Hw ⟨z7', rfl, TRw⟩
        rw [List.length_map, htl] at TRw
        have e1 : (ks ++ [k]).take (ks.length + 1 - (((ks.length + 1 : Nat) : Int) - 1).toNat) = [] ++ [⟨r, ss, 0, 0⟩] := by
          rw [show ks.length + 1 - (((ks.length + 1 : Nat) : Int) - 1).toNat = 1 by omega]
          cases ks with
          | nil =>
            cases hhd
            rfl
          | cons c l =>
            cases hhd
            rfl
        rw [e1] at TRw
        obtain ⟨dx', cA', us', t1', pA', g1, _⟩ := TRw.k1.top
        -- kept == Kept(kinds, had)
        refine ⟨_, rfl, _, rfl, _, rfl, fun x3 dx3 nx3 ndx3 nxd3 => ?_⟩
        have sm3 := same_made (C := C) nx3 ndx3
        refine ⟨x3, dx3, kA, pA, cs, r, ss, rfl, upd_same, Same.seqT sm3 (hKq TRw.kq), (hPq TRw.kq).same sm3, hK, hSt, r0, hr1, fun sC Hx nsC hZ hk => ⟨rfl, ?_⟩⟩
        have sx : Same Hw Hx := Same.made nx3 ndx3 hk
        have TRx := TRw.same sx
        have hZ' : KeptAt C K Hx x3 sC cs ([] ++ [⟨r, ss, 0, 0⟩]) := hZ
        obtain ⟨dz, cZ, uZ, tZ, pZ, gZ, _⟩ := hZ'.top
        refine ⟨x, dx', _, .ref C, rfl, sx _ _ g1, .ins gZ, KE.n2, x, .ref x3, rfl, KE, .inr ⟨x3, sA, sC, cs, [], _, [], _, rfl, TRx.k1, hZ', _, rfl, _, rfl, ?_⟩⟩
        rw [ks_eqv]
        refine iteF ?_
        obtain ⟨dy, cB, vB, tB, pB, g2, _⟩ := TRx.k2.top
        refine ⟨_, rfl, _, rfl, x, dx', _, .ref C, rfl, sx _ _ g1, .ins g2, KE.n2, x, .ref x2, rfl, KE, .inr ⟨x2, sA, sB, cs, [], _, ks, k, rfl, TRx.k1, TRx.k2, _, rfl, ?_⟩⟩
        obtain ⟨ts2, ets2, hts2⟩ := TRx.st
        obtain ⟨tf0, pf0, ef0, hf1, hf2⟩ := hts2.first hhd
        obtain ⟨us2, t2, pT2, rfl, hus2, hT3, hT4⟩ := hts2.last
        have ets3 := ets2
        rw [List.map_append] at ets3
        refine ⟨_, rfl, tS, _, _, _, rfl, rfl, SqL.of ets2, atI_nat (j := 0) ef0, _, rfl, _, rfl, tS, _, _, _, rfl, rfl, SqL.of ets3, atI_last _ _, ?_⟩
        refine ⟨_, _, ks_dp hf1 hf2, ks_dp hT3 hT4, ks_shaped _, ks_shaped _, rfl, _, rfl, iteNS rfl ?_⟩
        -- the last refusal
        refine ⟨TRx.tb, fun fl cl Hy ex tby ny ef ec => ?_⟩
        have TRy := TRx.ext ex tby
        obtain ⟨ys, eys⟩ := TRy.k1.lst
        refine ⟨_, rfl, ?_⟩
        refine ⟨fl, .ref x, .int 0, .int 0, sp_lamB mg K C, CC, tf, rd, sA, ys, rfl, KT, TX, .inr ⟨_, _, (lok_of (k := 11) (N := ["a", "b", "c"]) (ps := ["a", "b", "c"]) (NdefX.nscope_by (by dsimp only; decide +kernel)) rfl (fun pm ctv us hl => match us, hl with | [_, _, _], _ => rfl) (fun vs H Q E h => by obtain ⟨_, _, _, _, _, _, rfl, _⟩ := h; rfl) (fun A outer s H vs Q E hr2 h => ?_)), ef, ec⟩, mono_lamB, eys, fun Hl sl => ⟨x, sA, cs, _, .int 0, .int 0, rfl, TRy.k1.same sl, fun H' C' s' g' => ?_⟩⟩
        · obtain ⟨x', sA', cs', k', b', c', rfl, h1, h2⟩ := h
          have h1' : KeptAt C K H x' sA' cs' ([] ++ [k']) := h1
          obtain ⟨dx9, _, _, _, _, g9, _⟩ := h1'.top
          exact ⟨_, pe_mdefX0 T D_m_back hr2 (L2N.takes_of rfl rfl rfl rfl) (pv 0), _, rfl, x', dx9, _, rfl, g9, kf_no _ _ (by decide +kernel) (by decide +kernel), x', sA', cs', [], k', rfl, h1', fun _ => h2, fun z => absurd rfl z⟩
        · have gm : mg "NothingLeft" = some (.ref (CC 10)) := KT.w 10 (by decide)
          rw [gm] at g'
          cases g'
          refine ⟨s', .inl ⟨10, rfl, rfl, KO10, fun pk Hm sm em => ?_⟩⟩
          have TRm := TRy.same ((sl.trans s').trans sm)
          refine ⟨(by show 2 ≤ sizeLine; decide), fun l0 nl0 => ?_⟩
          have s3 := same_upd (o := .lst [.str "NothingLeft", .bl true]) nl0
          refine ⟨_, _, out_dp (o := .ref 10) (s3 _ _ em), out_dp (o := .ref 10) upd_same, out_shaped _, out_shaped _, _, rfl, ?_⟩
          rw [out_eqv]
          have TRz := TRm.same s3
          exact iteF ⟨_, _, _, _, _, _, _, _, _, _, _, _, _, rfl, kk5.trans TRz.kq, TRz.tb⟩
  · rintro σ H2 ⟨y1, y2, y3, y4, y5, y6, y7, y8, y9, y10, y11, y12, y13, rfl, kk, _⟩
    exact q H2
set_option maxHeartbeats 4000000 in
theorem all_ok {l : PySem.W.OpenLaw} {w : World} {K : PySem.W.Frag} {mg : Str → Option Value} {fa : Addr} (hfa : mg "law" = some (.ref fa)) {h : Heap}
    (F_l_draws : FunAt K mg "_law_draws" s_l_draws)
    (F_l_cell_at : FunAt K mg "_law_cell_at" s_l_cell_at)
    (F_l_bag : FunAt K mg "_law_bag" s_l_bag)
    (F_l_bags : FunAt K mg "_law_bags" s_l_bags)
    (F_l_take : FunAt K mg "_law_take" s_l_take)
    (F_l_kinds : FunAt K mg "_law_kinds" s_l_kinds)
    (F_l_far_draw : FunAt K mg "_law_far_draw" s_l_far_draw)
    (F_l_stamps_for : FunAt K mg "_law_stamps_for" s_l_stamps_for)
    (F_l_had : FunAt K mg "_law_had" s_l_had)
    (F_p_is_within : FunAt K mg "is_within" s_p_is_within)
    (F_p_are_cards : FunAt K mg "are_cards" s_p_are_cards)
    (F_p_refuse_no_cards : FunAt K mg "refuse_no_cards" s_p_refuse_no_cards)
    (F_p_are_stamps : FunAt K mg "are_stamps" s_p_are_stamps)
    (F_p_purse_fits : FunAt K mg "purse_fits" s_p_purse_fits)
    (F_p_refuse_no_purse : FunAt K mg "refuse_no_purse" s_p_refuse_no_purse)
    (F_l_step : FunAt K mg "_law_step" s_l_step)
    (F_l_from : FunAt K mg "_law_from" s_l_from)
    (F_l_after : FunAt K mg "_law_after" s_l_after)
    (F_l_refused : FunAt K mg "_law_refused" s_l_refused)
    (F_p_after_ride : FunAt K mg "after_ride" s_p_after_ride)
    (F_p_is_kind : FunAt K mg "is_kind" s_p_is_kind)
    (F_p_after_giving : FunAt K mg "after_giving" s_p_after_giving)
    (F_p_refuse_no_number : FunAt K mg "refuse_no_number" s_p_refuse_no_number)
    (F_l_do : FunAt K mg "_law_do" s_l_do)
    (F_p_period_of : FunAt K mg "period_of" s_p_period_of)
    (F_p_period_pays : FunAt K mg "period_pays" s_p_period_pays)
    (F_p_full_cards : FunAt K mg "full_cards" s_p_full_cards)
    (F_p_rides_in_all : FunAt K mg "rides_in_all" s_p_rides_in_all)
    (F_l_paid : FunAt K mg "_law_paid" s_l_paid)
    (F_l_common : FunAt K mg "_law_common" s_l_common)
    (F_l_whole : FunAt K mg "_law_whole" s_l_whole)
    (F_l_wears : FunAt K mg "_law_wears" s_l_wears)
    (F_l_rest : FunAt K mg "_law_rest" s_l_rest)
    {c_l_law P_l_law : Addr}
    (F_l_law : TabAt K mg h "law" s_l_law c_l_law P_l_law)
    {C : Addr} (T : KeptT K mg C) (mkC : PySem.W.makesIn K C = true) (kcC : PySem.W.keepIn K (.ref C) = true)
    (F_m_init : ∃ f fd, Fun K "__init__" "Kept.__init__" s_m_init f fd ∧ Meth K C "__init__" f)
    (F_m_ride : ∃ f fd, Fun K "ride" "Kept.ride" s_m_ride f fd ∧ Meth K C "ride" f)
    (F_m_give : ∃ f fd, Fun K "give" "Kept.give" s_m_give f fd ∧ Meth K C "give" f)
    (F_m_lend : ∃ f fd, Fun K "lend" "Kept.lend" s_m_lend f fd ∧ Meth K C "lend" f)
    (F_m_back : ∃ f fd, Fun K "back" "Kept.back" s_m_back f fd ∧ Meth K C "back" f)
    (F_m_pay : ∃ f fd, Fun K "pay" "Kept.pay" s_m_pay f fd ∧ Meth K C "pay" f)
    (F_m_len : ∃ f fd, Fun K "__len__" "Kept.__len__" s_m_len f fd ∧ Meth K C "__len__" f)
    (F_m_lent : ∃ f fd, Fun K "lent" "Kept.lent" s_m_lent f fd ∧ Meth K C "lent" f)
    (F_m_ridden : ∃ f fd, Fun K "ridden" "Kept.ridden" s_m_ridden f fd ∧ Meth K C "ridden" f)
    (F_m_purse : ∃ f fd, Fun K "purse" "Kept.purse" s_m_purse f fd ∧ Meth K C "purse" f)
    (F_m_eq : ∃ f fd, Fun K "__eq__" "Kept.__eq__" s_m_eq f fd ∧ Meth K C "__eq__" f)
    (F_m_still : ∃ f fd, Fun K "still" "Kept.still" s_m_still f fd ∧ Meth K C "still" f)
    (b_int : mg "int" = none)
    (b_range : mg "range" = none)
    (b_len : mg "len" = none)
    (b_max : mg "max" = none)
    (b_min : mg "min" = none)
    (b_tuple : mg "tuple" = none)
    (b_isinstance : mg "isinstance" = none)
    (b_bool : mg "bool" = none)
    (b_all : mg "all" = none)
    (b_list : mg "list" = none)
    (b_ValueError : mg "ValueError" = none)
    (b_sum : mg "sum" = none)
    (b_zip : mg "zip" = none)
    {t_MOST_KINDS : Tok} (g_MOST_KINDS : mg "MOST_KINDS" = some (.int 3 t_MOST_KINDS))
    {t_MOST_FULL : Tok} (g_MOST_FULL : mg "MOST_FULL" = some (.int 20 t_MOST_FULL))
    {t_LEAST_FULL : Tok} (g_LEAST_FULL : mg "LEAST_FULL" = some (.int 2 t_LEAST_FULL))
    {t_MOST : Tok} (g_MOST : mg "MOST" = some (.int 1000000000000000000 t_MOST))
    {C_NoRide : Addr} (T_NoRide : ExcT K mg "NoRide" C_NoRide)
    {C_NoKind : Addr} (T_NoKind : ExcT K mg "NoKind" C_NoKind)
    {C_NoNumber : Addr} (T_NoNumber : ExcT K mg "NoNumber" C_NoNumber)
    {C_NothingLeft : Addr} (T_NothingLeft : ExcT K mg "NothingLeft" C_NothingLeft)
    {C_NoLoan : Addr} (T_NoLoan : ExcT K mg "NoLoan" C_NoLoan)
    {CC : Nat → Addr} {tf rd : Addr} (KT : Kin K mg CC tf rd) (KO4 : KinOf K CC tf rd 4) (KO7 : KinOf K CC tf rd 7) (KO8 : KinOf K CC tf rd 8) (KO9 : KinOf K CC tf rd 9) (KO10 : KinOf K CC tf rd 10)
    {Ct ft cda cc : Addr} {fdt : FuncData} (TFC : TfC l.prog K Ct ft cda cc "TooFew.__init__" (defArgs s_tf) (defBody s_tf) (defScope s_tf) fdt) (gT : mg "TooFew" = some (.ref Ct)) (iT : PySem.W.findIn K (.ref Ct) "__init__" = some (some (.ref ft))) (tT : PySem.W.typeIn K (.ref ft) = some (.type "function")) (TXC : TfX K Ct) (b_super : mg "super" = none) (KE : KeptE K C) :
    LamX.LawAtS l w K CX0 14 63 "script" mg fa h := by
  obtain ⟨f0, fd0, F0, m0, hc0⟩ := F_l_law.fn
  have e := hfa.symm.trans m0
  cases e
  refine ⟨fd0, [(c_l_law, P_l_law)], sp_l_law K P_l_law, (List.forall_mem_cons.mpr ⟨F_l_law.tab, (List.forall_mem_nil _)⟩), (List.forall_mem_cons.mpr ⟨F_l_law.out, (List.forall_mem_nil _)⟩), (List.forall_mem_cons.mpr ⟨F_l_law.hd, (List.forall_mem_nil _)⟩), ?_, fun H a ns hl hz hT hS => ?_, fun base _ _ TB => ?_⟩
  · obtain ⟨oc, od, kV, doc, pm, an, cdv, ct, osl, rfl, lk, hcd⟩ := F0.ex
    exact fun s v => .of_eq rfl
  · exact ⟨a, ns, rfl, hS, hl, List.forall_mem_cons.mpr ⟨LamX.TabS.nil (hT _ List.mem_cons_self), List.forall_mem_nil _⟩, fun _ => rfl⟩
  have TT := tfT_of (w := w) (base := base) TFC b_super gT iT tT
  have TX : TfX K tf := by
    have e := gT.symm.trans KT.tf
    cases e
    exact TXC
  have D_l_draws := F_l_draws.def (P := l.prog) (w := w) (base := base) (fun f fd F => ok_l_draws F b_int b_range) (ps := ["cell", "many", "size"]) (fun _ _ _ _ _ _ us hl => match us, hl with | [_, _, _], _ => rfl)
  have D_l_cell_at := F_l_cell_at.def (P := l.prog) (w := w) (base := base) (fun f fd F => ok_l_cell_at F b_len) (ps := ["script", "k"]) (fun _ _ _ _ _ _ us hl => match us, hl with | [_, _], _ => rfl)
  have D_l_bag := F_l_bag.def (P := l.prog) (w := w) (base := base) (fun f fd F => ok_l_bag F D_l_draws D_l_cell_at) (ps := ["script", "k"]) (fun _ _ _ _ _ _ us hl => match us, hl with | [_, _], _ => rfl)
  have D_l_bags := F_l_bags.def (P := l.prog) (w := w) (base := base) (fun f fd F => ok_l_bags F D_l_bag b_range b_max b_min b_len) (ps := ["script", "limit"]) (fun _ _ _ _ _ _ us hl => match us, hl with | [_, _], _ => rfl)
  have D_l_take := F_l_take.def (P := l.prog) (w := w) (base := base) (fun f fd F => ok_l_take F b_len) (ps := ["bag", "many"]) (fun _ _ _ _ _ _ us hl => match us, hl with | [_, _], _ => rfl)
  have D_l_kinds := F_l_kinds.def (P := l.prog) (w := w) (base := base) (fun f fd F => ok_l_kinds F D_l_take b_range b_min b_tuple) (ps := ["bag", "far"]) (fun _ _ _ _ _ _ us hl => match us, hl with | [_, _], _ => rfl)
  have D_l_far_draw := F_l_far_draw.def (P := l.prog) (w := w) (base := base) (fun f fd F => ok_l_far_draw F D_l_take) (ps := ["bag", "many"]) (fun _ _ _ _ _ _ us hl => match us, hl with | [_, _], _ => rfl)
  have D_l_stamps_for := F_l_stamps_for.def (P := l.prog) (w := w) (base := base) (fun f fd F => ok_l_stamps_for F D_l_far_draw D_l_take b_tuple) (ps := ["bag", "kinds", "far"]) (fun _ _ _ _ _ _ us hl => match us, hl with | [_, _, _], _ => rfl)
  have D_l_had := F_l_had.def (P := l.prog) (w := w) (base := base) (fun f fd F => ok_l_had F D_l_stamps_for D_l_far_draw) (ps := ["bag", "kinds", "far"]) (fun _ _ _ _ _ _ us hl => match us, hl with | [_, _, _], _ => rfl)
  have D_p_is_within := F_p_is_within.def (P := l.prog) (w := w) (base := base) (fun f fd F => ok_p_is_within F b_isinstance b_int b_bool) (ps := ["thing", "least", "most"]) (fun _ _ _ _ _ _ us hl => match us, hl with | [_, _, _], _ => rfl)
  have D_p_are_cards := F_p_are_cards.def (P := l.prog) (w := w) (base := base) (fun f fd F => ok_p_are_cards F D_p_is_within b_len b_isinstance b_tuple b_all g_MOST_KINDS g_MOST_FULL g_LEAST_FULL) (ps := ["thing"]) (fun _ _ _ _ _ _ us hl => match us, hl with | [_], _ => rfl)
  have D_p_refuse_no_cards := F_p_refuse_no_cards.def (P := l.prog) (w := w) (base := base) (fun f fd F => ok_p_refuse_no_cards F D_p_are_cards) (ps := ["thing"]) (fun _ _ _ _ _ _ us hl => match us, hl with | [_], _ => rfl)
  have D_p_are_stamps := F_p_are_stamps.def (P := l.prog) (w := w) (base := base) (fun f fd F => ok_p_are_stamps F D_p_is_within b_len b_isinstance b_tuple b_all g_MOST) (ps := ["cards", "thing"]) (fun _ _ _ _ _ _ us hl => match us, hl with | [_, _], _ => rfl)
  have D_p_purse_fits := F_p_purse_fits.def (P := l.prog) (w := w) (base := base) (fun f fd F => ok_p_purse_fits F D_p_are_stamps D_p_is_within b_len b_isinstance b_tuple g_MOST) (ps := ["cards", "thing"]) (fun _ _ _ _ _ _ us hl => match us, hl with | [_, _], _ => rfl)
  have D_p_refuse_no_purse := F_p_refuse_no_purse.def (P := l.prog) (w := w) (base := base) (fun f fd F => ok_p_refuse_no_purse F D_p_purse_fits) (ps := ["cards", "thing"]) (fun _ _ _ _ _ _ us hl => match us, hl with | [_, _], _ => rfl)
  have D_m_init := kmk_mk mkC kcC F_m_init (P := l.prog) (w := w) (mg := mg) (base := base) (fun f fd F => ok_m_init F T D_p_refuse_no_cards D_p_refuse_no_purse) (ps := ["self", "cards", "purse"]) (fun _ _ _ _ _ _ us hl => match us, hl with | [_, _, _], _ => rfl)
  have D_l_step := F_l_step.def (P := l.prog) (w := w) (base := base) (fun f fd F => ok_l_step F b_list b_tuple) (ps := ["kinds", "had", "deed"]) (fun _ _ _ _ _ _ us hl => match us, hl with | [_, _, _], _ => rfl)
  have D_l_from := F_l_from.def (P := l.prog) (w := w) (base := base) (fun f fd F => ok_l_from F b_isinstance b_bool b_int) (ps := ["thing", "least", "top"]) (fun _ _ _ _ _ _ us hl => match us, hl with | [_, _, _], _ => rfl)
  have D_l_after := F_l_after.def (P := l.prog) (w := w) (base := base) (fun f fd F => ok_l_after F D_l_step D_l_from b_len) (ps := ["kinds", "state", "deed"]) (fun _ _ _ _ _ _ us hl => match us, hl with | [_, _, _], _ => rfl)
  have D_l_refused := F_l_refused.def (P := l.prog) (w := w) (base := base) (fun f fd F => ok_l_refused F b_isinstance b_ValueError) (ps := ["call", "one", "two", "three"]) (fun _ _ _ _ _ _ us hl => match us, hl with | [_, _, _, _], _ => rfl)
  have D_p_after_ride := F_p_after_ride.def (P := l.prog) (w := w) (base := base) (fun f fd F => ok_p_after_ride F b_tuple) (ps := ["purse"]) (fun _ _ _ _ _ _ us hl => match us, hl with | [_], _ => rfl)
  have D_m_ride := mdefX_mk F_m_ride (P := l.prog) (w := w) (mg := mg) (base := base) (fun f fd F => ok_m_ride F T D_p_after_ride T_NoRide) (ps := ["self"]) (fun _ _ _ _ _ _ us hl => match us, hl with | [_], _ => rfl)
  have D_p_is_kind := F_p_is_kind.def (P := l.prog) (w := w) (base := base) (fun f fd F => ok_p_is_kind F D_p_is_within b_len) (ps := ["cards", "thing"]) (fun _ _ _ _ _ _ us hl => match us, hl with | [_, _], _ => rfl)
  have D_p_after_giving := F_p_after_giving.def (P := l.prog) (w := w) (base := base) (fun f fd F => ok_p_after_giving F b_list b_tuple) (ps := ["cards", "purse", "kind"]) (fun _ _ _ _ _ _ us hl => match us, hl with | [_, _, _], _ => rfl)
  have D_m_give := mdefX_mk F_m_give (P := l.prog) (w := w) (mg := mg) (base := base) (fun f fd F => ok_m_give F T D_p_is_kind D_p_after_giving T_NoKind TT) (ps := ["self", "kind"]) (fun _ _ _ _ _ _ us hl => match us, hl with | [_, _], _ => rfl)
  have D_p_refuse_no_number := F_p_refuse_no_number.defX (P := l.prog) (w := w) (base := base) (fun f fd F => ok_p_refuse_no_number F D_p_is_within g_MOST T_NoNumber) (ps := ["thing", "least"]) (fun _ _ _ _ _ _ us hl => match us, hl with | [_, _], _ => rfl)
  have D_m_lend := mdefX_mk F_m_lend (P := l.prog) (w := w) (mg := mg) (base := base) (fun f fd F => ok_m_lend F T D_p_refuse_no_number) (ps := ["self", "number"]) (fun _ _ _ _ _ _ us hl => match us, hl with | [_, _], _ => rfl)
  have D_m_back := mdefX_mk F_m_back (P := l.prog) (w := w) (mg := mg) (base := base) (fun f fd F => ok_m_back F T b_len T_NothingLeft) (ps := ["self"]) (fun _ _ _ _ _ _ us hl => match us, hl with | [_], _ => rfl)
  have D_m_pay := mdefX_mk F_m_pay (P := l.prog) (w := w) (mg := mg) (base := base) (fun f fd F => ok_m_pay F T D_p_refuse_no_number T_NoLoan T_NoRide) (ps := ["self", "number"]) (fun _ _ _ _ _ _ us hl => match us, hl with | [_, _], _ => rfl)
  have D_l_do := F_l_do.defX (P := l.prog) (w := w) (base := base) (fun f fd F => ok_l_do F T D_m_ride D_m_give D_m_lend D_m_back D_m_pay) (ps := ["kept", "deed"]) (fun _ _ _ _ _ _ us hl => match us, hl with | [_, _], _ => rfl)
  have D_m_len := mdef_mk F_m_len (P := l.prog) (w := w) (mg := mg) (base := base) (fun f fd F => ok_m_len F T b_len) (ps := ["self"]) (fun _ _ _ _ _ _ us hl => match us, hl with | [_], _ => rfl)
  have D_m_lent := mdef_mk F_m_lent (P := l.prog) (w := w) (mg := mg) (base := base) (fun f fd F => ok_m_lent F T) (ps := ["self"]) (fun _ _ _ _ _ _ us hl => match us, hl with | [_], _ => rfl)
  have D_m_ridden := mdef_mk F_m_ridden (P := l.prog) (w := w) (mg := mg) (base := base) (fun f fd F => ok_m_ridden F T) (ps := ["self"]) (fun _ _ _ _ _ _ us hl => match us, hl with | [_], _ => rfl)
  have D_m_purse := mdef_mk F_m_purse (P := l.prog) (w := w) (mg := mg) (base := base) (fun f fd F => ok_m_purse F T) (ps := ["self"]) (fun _ _ _ _ _ _ us hl => match us, hl with | [_], _ => rfl)
  have D_m_eq := mdef_mk F_m_eq (P := l.prog) (w := w) (mg := mg) (base := base) (fun f fd F => ok_m_eq F T b_isinstance) (ps := ["self", "other"]) (fun _ _ _ _ _ _ us hl => match us, hl with | [_, _], _ => rfl)
  have D_p_period_of := F_p_period_of.def (P := l.prog) (w := w) (base := base) (fun f fd F => ok_p_period_of F ) (ps := ["cards"]) (fun _ _ _ _ _ _ us hl => match us, hl with | [_], _ => rfl)
  have D_p_period_pays := F_p_period_pays.def (P := l.prog) (w := w) (base := base) (fun f fd F => ok_p_period_pays F D_p_period_of b_sum) (ps := ["cards"]) (fun _ _ _ _ _ _ us hl => match us, hl with | [_], _ => rfl)
  have D_p_full_cards := F_p_full_cards.def (P := l.prog) (w := w) (base := base) (fun f fd F => ok_p_full_cards F b_sum b_zip) (ps := ["cards", "stamps", "ridden"]) (fun _ _ _ _ _ _ us hl => match us, hl with | [_, _, _], _ => rfl)
  have D_p_rides_in_all := F_p_rides_in_all.def (P := l.prog) (w := w) (base := base) (fun f fd F => ok_p_rides_in_all F D_p_period_pays D_p_period_of D_p_full_cards) (ps := ["cards", "purse"]) (fun _ _ _ _ _ _ us hl => match us, hl with | [_, _], _ => rfl)
  have D_m_still := mdef_mk F_m_still (P := l.prog) (w := w) (mg := mg) (base := base) (fun f fd F => ok_m_still F T D_p_rides_in_all) (ps := ["self"]) (fun _ _ _ _ _ _ us hl => match us, hl with | [_], _ => rfl)
  have D_l_paid := F_l_paid.def (P := l.prog) (w := w) (base := base) (fun f fd F => ok_l_paid F b_zip) (ps := ["kinds", "had", "rides"]) (fun _ _ _ _ _ _ us hl => match us, hl with | [_, _, _], _ => rfl)
  have D_l_common := F_l_common.def (P := l.prog) (w := w) (base := base) (fun f fd F => ok_l_common F ) (ps := ["one", "other"]) (fun _ _ _ _ _ _ us hl => match us, hl with | [_, _], _ => rfl)
  have D_l_whole := F_l_whole.def (P := l.prog) (w := w) (base := base) (fun f fd F => ok_l_whole F D_l_common) (ps := ["kinds"]) (fun _ _ _ _ _ _ us hl => match us, hl with | [_], _ => rfl)
  have D_l_wears := F_l_wears.def (P := l.prog) (w := w) (base := base) (fun f fd F => ok_l_wears F D_l_whole b_sum) (ps := ["kinds"]) (fun _ _ _ _ _ _ us hl => match us, hl with | [_], _ => rfl)
  have D_l_rest := F_l_rest.def (P := l.prog) (w := w) (base := base) (fun f fd F => ok_l_rest F D_l_paid D_l_whole D_l_wears) (ps := ["kinds", "had"]) (fun _ _ _ _ _ _ us hl => match us, hl with | [_, _], _ => rfl)
  exact ok_l_law F0 T (TB _ List.mem_cons_self) hc0 D_l_bags D_l_kinds D_l_take D_l_had D_m_init D_l_after D_l_refused D_l_do D_m_len D_m_lent D_m_ridden D_m_purse D_m_eq D_m_still D_l_rest D_m_back b_range b_len b_isinstance b_list KT TX KE KO4 KO7 KO8 KO9 KO10
end FR
open PySem PySem.W PyProof.Rows
set_option maxRecDepth 100000 in
set_option maxHeartbeats 0 in
theorem PySem.Challenge.cw_freerides_k12_whole_a_purse_kept_deed_by_holds : PySem.Challenge.rw_freerides_k12_whole_a_purse_kept_deed_by.Holds := by
  w_on; o_law; k_head; (case hw => w_witness2)
  k_fill
  refine LamX.walk_ofTs (l := PySem.Challenge.rw_freerides_k12_whole_a_purse_kept_deed_by) (n := 63) (k := 14) (x := "script") (CX := fun _ => L2.CX0) rfl (by decide) rfl ⟨rfl, by decide, by decide⟩ (fun w h Y => PySem.W.km_in_of Y) ?F (fun _ _ _ _ _ h => h)
  case F =>
    intro w mg fa h Y KX G hmg
    have KK : FR.KeptAllE KX mg [("__init__", "Kept.__init__", FR.s_m_init), ("ride", "Kept.ride", FR.s_m_ride), ("give", "Kept.give", FR.s_m_give), ("lend", "Kept.lend", FR.s_m_lend), ("back", "Kept.back", FR.s_m_back), ("pay", "Kept.pay", FR.s_m_pay), ("__len__", "Kept.__len__", FR.s_m_len), ("lent", "Kept.lent", FR.s_m_lent), ("ridden", "Kept.ridden", FR.s_m_ridden), ("purse", "Kept.purse", FR.s_m_purse), ("__eq__", "Kept.__eq__", FR.s_m_eq), ("still", "Kept.still", FR.s_m_still)] := by
      refine' FR.keptAllE_mk KX G ?zaC ?zpg ?zhd ?zpo ?zsa ?zmk ?zkc ?znC ?znS ?zxa ?zxn ?zxt ?zxm ?zxy ?zxu ?zx1 ?zx2 (FR.methL_cons ?za_0 ?zi_0 ?zl_0 ?zc_0 ?zk_0 (FR.methL_cons ?za_1 ?zi_1 ?zl_1 ?zc_1 ?zk_1 (FR.methL_cons ?za_2 ?zi_2 ?zl_2 ?zc_2 ?zk_2 (FR.methL_cons ?za_3 ?zi_3 ?zl_3 ?zc_3 ?zk_3 (FR.methL_cons ?za_4 ?zi_4 ?zl_4 ?zc_4 ?zk_4 (FR.methL_cons ?za_5 ?zi_5 ?zl_5 ?zc_5 ?zk_5 (FR.methL_cons ?za_6 ?zi_6 ?zl_6 ?zc_6 ?zk_6 (FR.methL_cons ?za_7 ?zi_7 ?zl_7 ?zc_7 ?zk_7 (FR.methL_cons ?za_8 ?zi_8 ?zl_8 ?zc_8 ?zk_8 (FR.methL_cons ?za_9 ?zi_9 ?zl_9 ?zc_9 ?zk_9 (FR.methL_cons ?za_10 ?zi_10 ?zl_10 ?zc_10 ?zk_10 (FR.methL_cons ?za_11 ?zi_11 ?zl_11 ?zc_11 ?zk_11 trivial))))))))))))
      (case zaC => k_is); (case zpg => k_is); (case zhd => k_is); (case zpo => k_is); (case zsa => k_is); (case zmk => k_is); (case zkc => k_is); (case znC => k_is); (case znS => k_is); (case zxa => k_is); (case zxn => k_is); (case zxt => k_is); (case zxm => k_is); (case zxy => k_is); (case zxu => k_is); (case zx1 => k_is); (case zx2 => k_is)
      (case za_0 => k_is); (case zi_0 => k_is); (case zl_0 => k_is); (case zc_0 => k_is); (case zk_0 => k_is)
      (case za_1 => k_is); (case zi_1 => k_is); (case zl_1 => k_is); (case zc_1 => k_is); (case zk_1 => k_is)
      (case za_2 => k_is); (case zi_2 => k_is); (case zl_2 => k_is); (case zc_2 => k_is); (case zk_2 => k_is)
      (case za_3 => k_is); (case zi_3 => k_is); (case zl_3 => k_is); (case zc_3 => k_is); (case zk_3 => k_is)
      (case za_4 => k_is); (case zi_4 => k_is); (case zl_4 => k_is); (case zc_4 => k_is); (case zk_4 => k_is)
      (case za_5 => k_is); (case zi_5 => k_is); (case zl_5 => k_is); (case zc_5 => k_is); (case zk_5 => k_is)
      (case za_6 => k_is); (case zi_6 => k_is); (case zl_6 => k_is); (case zc_6 => k_is); (case zk_6 => k_is)
      (case za_7 => k_is); (case zi_7 => k_is); (case zl_7 => k_is); (case zc_7 => k_is); (case zk_7 => k_is)
      (case za_8 => k_is); (case zi_8 => k_is); (case zl_8 => k_is); (case zc_8 => k_is); (case zk_8 => k_is)
      (case za_9 => k_is); (case zi_9 => k_is); (case zl_9 => k_is); (case zc_9 => k_is); (case zk_9 => k_is)
      (case za_10 => k_is); (case zi_10 => k_is); (case zl_10 => k_is); (case zc_10 => k_is); (case zk_10 => k_is)
      (case za_11 => k_is); (case zi_11 => k_is); (case zl_11 => k_is); (case zc_11 => k_is); (case zk_11 => k_is)
    obtain ⟨C, T, mkC, kcC, KE, F_m_init, F_m_ride, F_m_give, F_m_lend, F_m_back, F_m_pay, F_m_len, F_m_lent, F_m_ridden, F_m_purse, F_m_eq, F_m_still, _⟩ := KK
    have TA : FR.TfAll KX mg (PySem.Challenge.rw_freerides_k12_whole_a_purse_kept_deed_by).prog FR.s_tf := by
      refine' FR.tfAll_mk KX G ?zt0 ?zt1 ?zt2 ?zt3 ?zt4 ?zt5 ?zt6 ?zt7 ?zt8 ?zt9 ?zta ?ztb ?ztc ?ztd ?zte ?ztf ?ztg ?zth0 ?zth1 ?zth2 ?zth3 ?zth4 ?zth5 ?zth6 ?zth7 ?zth8 ?zth9 ?zth10 ?zth11 ?zth12
      (case zt0 => k_is)
      (case zt1 => k_is)
      (case zt2 => k_is)
      (case zt3 => k_is)
      (case zt4 => k_is)
      (case zt5 => k_is)
      (case zt6 => exact rfl)
      (case zt7 => kernel_rfl)
      (case zt8 => k_is)
      (case zt9 => k_is)
      (case zta => kernel_rfl)
      (case ztb => k_is)
      (case ztc => k_is)
      (case ztd => k_is)
      (case zte => kernel_rfl)
      (case ztf => k_is)
      (case ztg => exact rfl)
      (case zth0 => k_is)
      (case zth1 => k_is)
      (case zth2 => k_is)
      (case zth3 => k_is)
      (case zth4 => k_is)
      (case zth5 => k_is)
      (case zth6 => k_is)
      (case zth7 => k_is)
      (case zth8 => k_is)
      (case zth9 => k_is)
      (case zth10 => k_is)
      (case zth11 => k_is)
      (case zth12 => k_is)
    have b_super : mg "super" = none := by
      refine' PySem.W.mg_none_of KX G ?z
      (case z => k_is)
    have F_l_draws : FR.FunAtX KX mg "_law_draws" FR.s_l_draws := by
      refine' FR.funAt_mk KX G ?a ?l ?c ?k
      (case a => k_is); (case l => k_is); (case c => k_is); (case k => k_is)
    have F_l_cell_at : FR.FunAtX KX mg "_law_cell_at" FR.s_l_cell_at := by
      refine' FR.funAt_mk KX G ?a ?l ?c ?k
      (case a => k_is); (case l => k_is); (case c => k_is); (case k => k_is)
    have F_l_bag : FR.FunAtX KX mg "_law_bag" FR.s_l_bag := by
      refine' FR.funAt_mk KX G ?a ?l ?c ?k
      (case a => k_is); (case l => k_is); (case c => k_is); (case k => k_is)
    have F_l_bags : FR.FunAtX KX mg "_law_bags" FR.s_l_bags := by
      refine' FR.funAt_mk KX G ?a ?l ?c ?k
      (case a => k_is); (case l => k_is); (case c => k_is); (case k => k_is)
    have F_l_take : FR.FunAtX KX mg "_law_take" FR.s_l_take := by
      refine' FR.funAt_mk KX G ?a ?l ?c ?k
      (case a => k_is); (case l => k_is); (case c => k_is); (case k => k_is)
    have F_l_kinds : FR.FunAtX KX mg "_law_kinds" FR.s_l_kinds := by
      refine' FR.funAt_mk KX G ?a ?l ?c ?k
      (case a => k_is); (case l => k_is); (case c => k_is); (case k => k_is)
    have F_l_far_draw : FR.FunAtX KX mg "_law_far_draw" FR.s_l_far_draw := by
      refine' FR.funAt_mk KX G ?a ?l ?c ?k
      (case a => k_is); (case l => k_is); (case c => k_is); (case k => k_is)
    have F_l_stamps_for : FR.FunAtX KX mg "_law_stamps_for" FR.s_l_stamps_for := by
      refine' FR.funAt_mk KX G ?a ?l ?c ?k
      (case a => k_is); (case l => k_is); (case c => k_is); (case k => k_is)
    have F_l_had : FR.FunAtX KX mg "_law_had" FR.s_l_had := by
      refine' FR.funAt_mk KX G ?a ?l ?c ?k
      (case a => k_is); (case l => k_is); (case c => k_is); (case k => k_is)
    have F_p_is_within : FR.FunAtX KX mg "is_within" FR.s_p_is_within := by
      refine' FR.funAt_mk KX G ?a ?l ?c ?k
      (case a => k_is); (case l => k_is); (case c => k_is); (case k => k_is)
    have F_p_are_cards : FR.FunAtX KX mg "are_cards" FR.s_p_are_cards := by
      refine' FR.funAt_mk KX G ?a ?l ?c ?k
      (case a => k_is); (case l => k_is); (case c => k_is); (case k => k_is)
    have F_p_refuse_no_cards : FR.FunAtX KX mg "refuse_no_cards" FR.s_p_refuse_no_cards := by
      refine' FR.funAt_mk KX G ?a ?l ?c ?k
      (case a => k_is); (case l => k_is); (case c => k_is); (case k => k_is)
    have F_p_are_stamps : FR.FunAtX KX mg "are_stamps" FR.s_p_are_stamps := by
      refine' FR.funAt_mk KX G ?a ?l ?c ?k
      (case a => k_is); (case l => k_is); (case c => k_is); (case k => k_is)
    have F_p_purse_fits : FR.FunAtX KX mg "purse_fits" FR.s_p_purse_fits := by
      refine' FR.funAt_mk KX G ?a ?l ?c ?k
      (case a => k_is); (case l => k_is); (case c => k_is); (case k => k_is)
    have F_p_refuse_no_purse : FR.FunAtX KX mg "refuse_no_purse" FR.s_p_refuse_no_purse := by
      refine' FR.funAt_mk KX G ?a ?l ?c ?k
      (case a => k_is); (case l => k_is); (case c => k_is); (case k => k_is)
    have F_l_step : FR.FunAtX KX mg "_law_step" FR.s_l_step := by
      refine' FR.funAt_mk KX G ?a ?l ?c ?k
      (case a => k_is); (case l => k_is); (case c => k_is); (case k => k_is)
    have F_l_from : FR.FunAtX KX mg "_law_from" FR.s_l_from := by
      refine' FR.funAt_mk KX G ?a ?l ?c ?k
      (case a => k_is); (case l => k_is); (case c => k_is); (case k => k_is)
    have F_l_after : FR.FunAtX KX mg "_law_after" FR.s_l_after := by
      refine' FR.funAt_mk KX G ?a ?l ?c ?k
      (case a => k_is); (case l => k_is); (case c => k_is); (case k => k_is)
    have F_l_refused : FR.FunAtX KX mg "_law_refused" FR.s_l_refused := by
      refine' FR.funAt_mk KX G ?a ?l ?c ?k
      (case a => k_is); (case l => k_is); (case c => k_is); (case k => k_is)
    have F_p_after_ride : FR.FunAtX KX mg "after_ride" FR.s_p_after_ride := by
      refine' FR.funAt_mk KX G ?a ?l ?c ?k
      (case a => k_is); (case l => k_is); (case c => k_is); (case k => k_is)
    have F_p_is_kind : FR.FunAtX KX mg "is_kind" FR.s_p_is_kind := by
      refine' FR.funAt_mk KX G ?a ?l ?c ?k
      (case a => k_is); (case l => k_is); (case c => k_is); (case k => k_is)
    have F_p_after_giving : FR.FunAtX KX mg "after_giving" FR.s_p_after_giving := by
      refine' FR.funAt_mk KX G ?a ?l ?c ?k
      (case a => k_is); (case l => k_is); (case c => k_is); (case k => k_is)
    have F_p_refuse_no_number : FR.FunAtX KX mg "refuse_no_number" FR.s_p_refuse_no_number := by
      refine' FR.funAt_mk KX G ?a ?l ?c ?k
      (case a => k_is); (case l => k_is); (case c => k_is); (case k => k_is)
    have F_l_do : FR.FunAtX KX mg "_law_do" FR.s_l_do := by
      refine' FR.funAt_mk KX G ?a ?l ?c ?k
      (case a => k_is); (case l => k_is); (case c => k_is); (case k => k_is)
    have F_p_period_of : FR.FunAtX KX mg "period_of" FR.s_p_period_of := by
      refine' FR.funAt_mk KX G ?a ?l ?c ?k
      (case a => k_is); (case l => k_is); (case c => k_is); (case k => k_is)
    have F_p_period_pays : FR.FunAtX KX mg "period_pays" FR.s_p_period_pays := by
      refine' FR.funAt_mk KX G ?a ?l ?c ?k
      (case a => k_is); (case l => k_is); (case c => k_is); (case k => k_is)
    have F_p_full_cards : FR.FunAtX KX mg "full_cards" FR.s_p_full_cards := by
      refine' FR.funAt_mk KX G ?a ?l ?c ?k
      (case a => k_is); (case l => k_is); (case c => k_is); (case k => k_is)
    have F_p_rides_in_all : FR.FunAtX KX mg "rides_in_all" FR.s_p_rides_in_all := by
      refine' FR.funAt_mk KX G ?a ?l ?c ?k
      (case a => k_is); (case l => k_is); (case c => k_is); (case k => k_is)
    have F_l_paid : FR.FunAtX KX mg "_law_paid" FR.s_l_paid := by
      refine' FR.funAt_mk KX G ?a ?l ?c ?k
      (case a => k_is); (case l => k_is); (case c => k_is); (case k => k_is)
    have F_l_common : FR.FunAtX KX mg "_law_common" FR.s_l_common := by
      refine' FR.funAt_mk KX G ?a ?l ?c ?k
      (case a => k_is); (case l => k_is); (case c => k_is); (case k => k_is)
    have F_l_whole : FR.FunAtX KX mg "_law_whole" FR.s_l_whole := by
      refine' FR.funAt_mk KX G ?a ?l ?c ?k
      (case a => k_is); (case l => k_is); (case c => k_is); (case k => k_is)
    have F_l_wears : FR.FunAtX KX mg "_law_wears" FR.s_l_wears := by
      refine' FR.funAt_mk KX G ?a ?l ?c ?k
      (case a => k_is); (case l => k_is); (case c => k_is); (case k => k_is)
    have F_l_rest : FR.FunAtX KX mg "_law_rest" FR.s_l_rest := by
      refine' FR.funAt_mk KX G ?a ?l ?c ?k
      (case a => k_is); (case l => k_is); (case c => k_is); (case k => k_is)
    have F_l_law : FR.TabAtX KX mg "law" FR.s_l_law := by
      refine' FR.tabAt_mk KX G (PySem.W.km_tabs_of Y) ?a ?l ?c ?k ?zlc ?zvp ?zhc ?zhn ?zmem
      (case a => k_is); (case l => k_is); (case c => k_is); (case k => k_is); (case zlc => k_is); (case zvp => exact rfl); (case zhc => kernel_rfl); (case zhn => kernel_rfl); (case zmem => k_mem)
    have b_int : mg "int" = none := by
      refine' PySem.W.mg_none_of KX G ?z
      (case z => k_is)
    have b_range : mg "range" = none := by
      refine' PySem.W.mg_none_of KX G ?z
      (case z => k_is)
    have b_len : mg "len" = none := by
      refine' PySem.W.mg_none_of KX G ?z
      (case z => k_is)
    have b_max : mg "max" = none := by
      refine' PySem.W.mg_none_of KX G ?z
      (case z => k_is)
    have b_min : mg "min" = none := by
      refine' PySem.W.mg_none_of KX G ?z
      (case z => k_is)
    have b_tuple : mg "tuple" = none := by
      refine' PySem.W.mg_none_of KX G ?z
      (case z => k_is)
    have b_isinstance : mg "isinstance" = none := by
      refine' PySem.W.mg_none_of KX G ?z
      (case z => k_is)
    have b_bool : mg "bool" = none := by
      refine' PySem.W.mg_none_of KX G ?z
      (case z => k_is)
    have b_all : mg "all" = none := by
      refine' PySem.W.mg_none_of KX G ?z
      (case z => k_is)
    have b_list : mg "list" = none := by
      refine' PySem.W.mg_none_of KX G ?z
      (case z => k_is)
    have b_ValueError : mg "ValueError" = none := by
      refine' PySem.W.mg_none_of KX G ?z
      (case z => k_is)
    have b_sum : mg "sum" = none := by
      refine' PySem.W.mg_none_of KX G ?z
      (case z => k_is)
    have b_zip : mg "zip" = none := by
      refine' PySem.W.mg_none_of KX G ?z
      (case z => k_is)
    have g_MOST_KINDS : ∃ t, mg "MOST_KINDS" = some (.int 3 t) := by
      refine' FR.glob_mk KX G ?z ?e
      (case z => k_is); (case e => exact ⟨_, rfl⟩)
    have g_MOST_FULL : ∃ t, mg "MOST_FULL" = some (.int 20 t) := by
      refine' FR.glob_mk KX G ?z ?e
      (case z => k_is); (case e => exact ⟨_, rfl⟩)
    have g_LEAST_FULL : ∃ t, mg "LEAST_FULL" = some (.int 2 t) := by
      refine' FR.glob_mk KX G ?z ?e
      (case z => k_is); (case e => exact ⟨_, rfl⟩)
    have g_MOST : ∃ t, mg "MOST" = some (.int 1000000000000000000 t) := by
      refine' FR.glob_mk KX G ?z ?e
      (case z => k_is); (case e => exact ⟨_, rfl⟩)
    have T_NoRide : FR.ExcAtX KX mg "NoRide" := by
      refine' FR.excT_mk KX G ?a ?x ?k ?s ?t
      (case a => k_is); (case x => k_exc); (case k => k_is); (case s => k_is); (case t => k_is)
    have T_NoKind : FR.ExcAtX KX mg "NoKind" := by
      refine' FR.excT_mk KX G ?a ?x ?k ?s ?t
      (case a => k_is); (case x => k_exc); (case k => k_is); (case s => k_is); (case t => k_is)
    have T_NoNumber : FR.ExcAtX KX mg "NoNumber" := by
      refine' FR.excT_mk KX G ?a ?x ?k ?s ?t
      (case a => k_is); (case x => k_exc); (case k => k_is); (case s => k_is); (case t => k_is)
    have T_NothingLeft : FR.ExcAtX KX mg "NothingLeft" := by
      refine' FR.excT_mk KX G ?a ?x ?k ?s ?t
      (case a => k_is); (case x => k_exc); (case k => k_is); (case s => k_is); (case t => k_is)
    have T_NoLoan : FR.ExcAtX KX mg "NoLoan" := by
      refine' FR.excT_mk KX G ?a ?x ?k ?s ?t
      (case a => k_is); (case x => k_exc); (case k => k_is); (case s => k_is); (case t => k_is)
    have KA : FR.KinAtX KX mg [4, 7, 8, 9, 10] := by
      refine' FR.kinAt_mk KX (FR.kin_mk KX G ?a0 ?a1 ?a2 ?a3 ?a4 ?a5 ?a6 ?a7 ?a8 ?a9 ?a10 ?atf ?ard) (FR.kinL_cons (FR.kinOf_mk (i := 4) (by decide) ?hc_4 ?hg_4 ?hk_4 ?hs_4 ?hd_4 ?ha_4 ?hn_4 ?ht_4 ?hm_4 ?me_4 ?sv_4 ?d0_4 ?t0_4 ?s0_4 ?d1_4 ?t1_4 ?s1_4 ?d2_4 ?t2_4 ?s2_4 ?d3_4 ?t3_4 ?s3_4 ?d4_4 ?t4_4 ?s4_4 ?d5_4 ?t5_4 ?s5_4 ?d6_4 ?t6_4 ?s6_4 ?d7_4 ?t7_4 ?s7_4 ?d8_4 ?t8_4 ?s8_4 ?d9_4 ?t9_4 ?s9_4 ?d10_4 ?t10_4 ?s10_4 ?dtf_4 ?ttf_4 ?btf_4 ?stf_4 ?drd_4 ?trd_4 ?brd_4 ?srd_4) (FR.kinL_cons (FR.kinOf_mk (i := 7) (by decide) ?hc_7 ?hg_7 ?hk_7 ?hs_7 ?hd_7 ?ha_7 ?hn_7 ?ht_7 ?hm_7 ?me_7 ?sv_7 ?d0_7 ?t0_7 ?s0_7 ?d1_7 ?t1_7 ?s1_7 ?d2_7 ?t2_7 ?s2_7 ?d3_7 ?t3_7 ?s3_7 ?d4_7 ?t4_7 ?s4_7 ?d5_7 ?t5_7 ?s5_7 ?d6_7 ?t6_7 ?s6_7 ?d7_7 ?t7_7 ?s7_7 ?d8_7 ?t8_7 ?s8_7 ?d9_7 ?t9_7 ?s9_7 ?d10_7 ?t10_7 ?s10_7 ?dtf_7 ?ttf_7 ?btf_7 ?stf_7 ?drd_7 ?trd_7 ?brd_7 ?srd_7) (FR.kinL_cons (FR.kinOf_mk (i := 8) (by decide) ?hc_8 ?hg_8 ?hk_8 ?hs_8 ?hd_8 ?ha_8 ?hn_8 ?ht_8 ?hm_8 ?me_8 ?sv_8 ?d0_8 ?t0_8 ?s0_8 ?d1_8 ?t1_8 ?s1_8 ?d2_8 ?t2_8 ?s2_8 ?d3_8 ?t3_8 ?s3_8 ?d4_8 ?t4_8 ?s4_8 ?d5_8 ?t5_8 ?s5_8 ?d6_8 ?t6_8 ?s6_8 ?d7_8 ?t7_8 ?s7_8 ?d8_8 ?t8_8 ?s8_8 ?d9_8 ?t9_8 ?s9_8 ?d10_8 ?t10_8 ?s10_8 ?dtf_8 ?ttf_8 ?btf_8 ?stf_8 ?drd_8 ?trd_8 ?brd_8 ?srd_8) (FR.kinL_cons (FR.kinOf_mk (i := 9) (by decide) ?hc_9 ?hg_9 ?hk_9 ?hs_9 ?hd_9 ?ha_9 ?hn_9 ?ht_9 ?hm_9 ?me_9 ?sv_9 ?d0_9 ?t0_9 ?s0_9 ?d1_9 ?t1_9 ?s1_9 ?d2_9 ?t2_9 ?s2_9 ?d3_9 ?t3_9 ?s3_9 ?d4_9 ?t4_9 ?s4_9 ?d5_9 ?t5_9 ?s5_9 ?d6_9 ?t6_9 ?s6_9 ?d7_9 ?t7_9 ?s7_9 ?d8_9 ?t8_9 ?s8_9 ?d9_9 ?t9_9 ?s9_9 ?d10_9 ?t10_9 ?s10_9 ?dtf_9 ?ttf_9 ?btf_9 ?stf_9 ?drd_9 ?trd_9 ?brd_9 ?srd_9) (FR.kinL_cons (FR.kinOf_mk (i := 10) (by decide) ?hc_10 ?hg_10 ?hk_10 ?hs_10 ?hd_10 ?ha_10 ?hn_10 ?ht_10 ?hm_10 ?me_10 ?sv_10 ?d0_10 ?t0_10 ?s0_10 ?d1_10 ?t1_10 ?s1_10 ?d2_10 ?t2_10 ?s2_10 ?d3_10 ?t3_10 ?s3_10 ?d4_10 ?t4_10 ?s4_10 ?d5_10 ?t5_10 ?s5_10 ?d6_10 ?t6_10 ?s6_10 ?d7_10 ?t7_10 ?s7_10 ?d8_10 ?t8_10 ?s8_10 ?d9_10 ?t9_10 ?s9_10 ?d10_10 ?t10_10 ?s10_10 ?dtf_10 ?ttf_10 ?btf_10 ?stf_10 ?drd_10 ?trd_10 ?brd_10 ?srd_10) FR.kinL_nil)))))
      (case a0 => k_is); (case a1 => k_is); (case a2 => k_is); (case a3 => k_is); (case a4 => k_is); (case a5 => k_is); (case a6 => k_is); (case a7 => k_is); (case a8 => k_is); (case a9 => k_is); (case a10 => k_is); (case atf => k_is); (case ard => k_is)
      (case hc_4 => exact rfl)
      (case hg_4 => k_is); (case hk_4 => k_is); (case hs_4 => k_is); (case hd_4 => k_is); (case ha_4 => k_is); (case hn_4 => k_is); (case ht_4 => k_is); (case hm_4 => k_is); (case me_4 => k_is); (case sv_4 => k_is); (case d0_4 => k_is); (case t0_4 => k_is); (case s0_4 => k_is); (case d1_4 => k_is); (case t1_4 => k_is); (case s1_4 => k_is); (case d2_4 => k_is); (case t2_4 => k_is); (case s2_4 => k_is); (case d3_4 => k_is); (case t3_4 => k_is); (case s3_4 => k_is); (case d4_4 => k_is); (case t4_4 => k_is); (case s4_4 => k_is); (case d5_4 => k_is); (case t5_4 => k_is); (case s5_4 => k_is); (case d6_4 => k_is); (case t6_4 => k_is); (case s6_4 => k_is); (case d7_4 => k_is); (case t7_4 => k_is); (case s7_4 => k_is); (case d8_4 => k_is); (case t8_4 => k_is); (case s8_4 => k_is); (case d9_4 => k_is); (case t9_4 => k_is); (case s9_4 => k_is); (case d10_4 => k_is); (case t10_4 => k_is); (case s10_4 => k_is); (case dtf_4 => k_is); (case ttf_4 => k_is); (case btf_4 => k_is); (case stf_4 => k_is); (case drd_4 => k_is); (case trd_4 => k_is); (case brd_4 => k_is); (case srd_4 => k_is)
      (case hc_7 => exact rfl)
      (case hg_7 => k_is); (case hk_7 => k_is); (case hs_7 => k_is); (case hd_7 => k_is); (case ha_7 => k_is); (case hn_7 => k_is); (case ht_7 => k_is); (case hm_7 => k_is); (case me_7 => k_is); (case sv_7 => k_is); (case d0_7 => k_is); (case t0_7 => k_is); (case s0_7 => k_is); (case d1_7 => k_is); (case t1_7 => k_is); (case s1_7 => k_is); (case d2_7 => k_is); (case t2_7 => k_is); (case s2_7 => k_is); (case d3_7 => k_is); (case t3_7 => k_is); (case s3_7 => k_is); (case d4_7 => k_is); (case t4_7 => k_is); (case s4_7 => k_is); (case d5_7 => k_is); (case t5_7 => k_is); (case s5_7 => k_is); (case d6_7 => k_is); (case t6_7 => k_is); (case s6_7 => k_is); (case d7_7 => k_is); (case t7_7 => k_is); (case s7_7 => k_is); (case d8_7 => k_is); (case t8_7 => k_is); (case s8_7 => k_is); (case d9_7 => k_is); (case t9_7 => k_is); (case s9_7 => k_is); (case d10_7 => k_is); (case t10_7 => k_is); (case s10_7 => k_is); (case dtf_7 => k_is); (case ttf_7 => k_is); (case btf_7 => k_is); (case stf_7 => k_is); (case drd_7 => k_is); (case trd_7 => k_is); (case brd_7 => k_is); (case srd_7 => k_is)
      (case hc_8 => exact rfl)
      (case hg_8 => k_is); (case hk_8 => k_is); (case hs_8 => k_is); (case hd_8 => k_is); (case ha_8 => k_is); (case hn_8 => k_is); (case ht_8 => k_is); (case hm_8 => k_is); (case me_8 => k_is); (case sv_8 => k_is); (case d0_8 => k_is); (case t0_8 => k_is); (case s0_8 => k_is); (case d1_8 => k_is); (case t1_8 => k_is); (case s1_8 => k_is); (case d2_8 => k_is); (case t2_8 => k_is); (case s2_8 => k_is); (case d3_8 => k_is); (case t3_8 => k_is); (case s3_8 => k_is); (case d4_8 => k_is); (case t4_8 => k_is); (case s4_8 => k_is); (case d5_8 => k_is); (case t5_8 => k_is); (case s5_8 => k_is); (case d6_8 => k_is); (case t6_8 => k_is); (case s6_8 => k_is); (case d7_8 => k_is); (case t7_8 => k_is); (case s7_8 => k_is); (case d8_8 => k_is); (case t8_8 => k_is); (case s8_8 => k_is); (case d9_8 => k_is); (case t9_8 => k_is); (case s9_8 => k_is); (case d10_8 => k_is); (case t10_8 => k_is); (case s10_8 => k_is); (case dtf_8 => k_is); (case ttf_8 => k_is); (case btf_8 => k_is); (case stf_8 => k_is); (case drd_8 => k_is); (case trd_8 => k_is); (case brd_8 => k_is); (case srd_8 => k_is)
      (case hc_9 => exact rfl)
      (case hg_9 => k_is); (case hk_9 => k_is); (case hs_9 => k_is); (case hd_9 => k_is); (case ha_9 => k_is); (case hn_9 => k_is); (case ht_9 => k_is); (case hm_9 => k_is); (case me_9 => k_is); (case sv_9 => k_is); (case d0_9 => k_is); (case t0_9 => k_is); (case s0_9 => k_is); (case d1_9 => k_is); (case t1_9 => k_is); (case s1_9 => k_is); (case d2_9 => k_is); (case t2_9 => k_is); (case s2_9 => k_is); (case d3_9 => k_is); (case t3_9 => k_is); (case s3_9 => k_is); (case d4_9 => k_is); (case t4_9 => k_is); (case s4_9 => k_is); (case d5_9 => k_is); (case t5_9 => k_is); (case s5_9 => k_is); (case d6_9 => k_is); (case t6_9 => k_is); (case s6_9 => k_is); (case d7_9 => k_is); (case t7_9 => k_is); (case s7_9 => k_is); (case d8_9 => k_is); (case t8_9 => k_is); (case s8_9 => k_is); (case d9_9 => k_is); (case t9_9 => k_is); (case s9_9 => k_is); (case d10_9 => k_is); (case t10_9 => k_is); (case s10_9 => k_is); (case dtf_9 => k_is); (case ttf_9 => k_is); (case btf_9 => k_is); (case stf_9 => k_is); (case drd_9 => k_is); (case trd_9 => k_is); (case brd_9 => k_is); (case srd_9 => k_is)
      (case hc_10 => exact rfl)
      (case hg_10 => k_is); (case hk_10 => k_is); (case hs_10 => k_is); (case hd_10 => k_is); (case ha_10 => k_is); (case hn_10 => k_is); (case ht_10 => k_is); (case hm_10 => k_is); (case me_10 => k_is); (case sv_10 => k_is); (case d0_10 => k_is); (case t0_10 => k_is); (case s0_10 => k_is); (case d1_10 => k_is); (case t1_10 => k_is); (case s1_10 => k_is); (case d2_10 => k_is); (case t2_10 => k_is); (case s2_10 => k_is); (case d3_10 => k_is); (case t3_10 => k_is); (case s3_10 => k_is); (case d4_10 => k_is); (case t4_10 => k_is); (case s4_10 => k_is); (case d5_10 => k_is); (case t5_10 => k_is); (case s5_10 => k_is); (case d6_10 => k_is); (case t6_10 => k_is); (case s6_10 => k_is); (case d7_10 => k_is); (case t7_10 => k_is); (case s7_10 => k_is); (case d8_10 => k_is); (case t8_10 => k_is); (case s8_10 => k_is); (case d9_10 => k_is); (case t9_10 => k_is); (case s9_10 => k_is); (case d10_10 => k_is); (case t10_10 => k_is); (case s10_10 => k_is); (case dtf_10 => k_is); (case ttf_10 => k_is); (case btf_10 => k_is); (case stf_10 => k_is); (case drd_10 => k_is); (case trd_10 => k_is); (case brd_10 => k_is); (case srd_10 => k_is)
    obtain ⟨CC, tf, rd, KT, KO4, KO7, KO8, KO9, KO10, _⟩ := KA
    obtain ⟨c_l_law, P_l_law, F_l_law⟩ := F_l_law
    obtain ⟨Ct, ft, cda, cc, fdt, TFC, gT, iT, tT, TXC⟩ := TA
    obtain ⟨t_MOST_KINDS, g_MOST_KINDS⟩ := g_MOST_KINDS
    obtain ⟨t_MOST_FULL, g_MOST_FULL⟩ := g_MOST_FULL
    obtain ⟨t_LEAST_FULL, g_LEAST_FULL⟩ := g_LEAST_FULL
    obtain ⟨t_MOST, g_MOST⟩ := g_MOST
    obtain ⟨C_NoRide, T_NoRide⟩ := T_NoRide
    obtain ⟨C_NoKind, T_NoKind⟩ := T_NoKind
    obtain ⟨C_NoNumber, T_NoNumber⟩ := T_NoNumber
    obtain ⟨C_NothingLeft, T_NothingLeft⟩ := T_NothingLeft
    obtain ⟨C_NoLoan, T_NoLoan⟩ := T_NoLoan
    exact FR.all_ok hmg F_l_draws F_l_cell_at F_l_bag F_l_bags F_l_take F_l_kinds F_l_far_draw F_l_stamps_for F_l_had F_p_is_within F_p_are_cards F_p_refuse_no_cards F_p_are_stamps F_p_purse_fits F_p_refuse_no_purse F_l_step F_l_from F_l_after F_l_refused F_p_after_ride F_p_is_kind F_p_after_giving F_p_refuse_no_number F_l_do F_p_period_of F_p_period_pays F_p_full_cards F_p_rides_in_all F_l_paid F_l_common F_l_whole F_l_wears F_l_rest F_l_law T mkC kcC F_m_init F_m_ride F_m_give F_m_lend F_m_back F_m_pay F_m_len F_m_lent F_m_ridden F_m_purse F_m_eq F_m_still b_int b_range b_len b_max b_min b_tuple b_isinstance b_bool b_all b_list b_ValueError b_sum b_zip g_MOST_KINDS g_MOST_FULL g_LEAST_FULL g_MOST T_NoRide T_NoKind T_NoNumber T_NothingLeft T_NoLoan KT KO4 KO7 KO8 KO9 KO10 TFC gT iT tT TXC b_super KE
