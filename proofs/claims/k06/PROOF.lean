import PyProof.Rows.All
import Wide.All
import OpenK.AllK
import Wide.FinOn
import HandS.ForMost
import HandS.ForExc
import HandS.ExcIs
import HandS.IsInst
import HandS.Evl
import HandS.Walk
import HandS.Zip
import HandS.More
import HandS.Star
import PySem.Challenge.RW_paritypool_k06_solution_or_refutation
set_option Elab.async false
set_option linter.all false
set_option maxRecDepth 100000
set_option maxHeartbeats 2000000
namespace PP
open PySem L2
def top (i : Nat) : Stmt := (PySem.Challenge.pw_paritypool_k06_solution_or_refutation).main.body.getD i (.Pass ⟨0, 0, 0, 0⟩)
abbrev s_inverse : Stmt := top 5
abbrev s_check_system : Stmt := top 7
abbrev s_combination : Stmt := top 8
abbrev s_pivot_index : Stmt := top 9
abbrev s_without : Stmt := top 10
abbrev s_eliminate : Stmt := top 11
abbrev s_reduce_lines : Stmt := top 12
abbrev s_solve : Stmt := top 13
abbrev s_law_pot : Stmt := top 15
abbrev s_law_next : Stmt := top 16
abbrev s_law_word : Stmt := top 17
abbrev s_law_words : Stmt := top 18
abbrev s_law_is_words : Stmt := top 19
abbrev s_law_refused : Stmt := top 20
abbrev s_law_dot : Stmt := top 21
abbrev s_law_rows : Stmt := top 22
abbrev s_law : Stmt := top 23
/-! small rules of one's own -/
section
variable {X : Cx}
theorem pe_const {x : Str} {v : V} {pos : Pos} (h : ∃ u, X.mg x = some u ∧ RelV v u) (hg : Gl X x := by rfl) (hd : (x == ("__debug__" : Str)) = false := by decide) : PE X (.Name x pos) (tC v) := by
  obtain ⟨u, h1, h2⟩ := h
  exact pe_glob hg h1 h2 hd
/-- isinstance of a caught error, whatever class the clause has caught -/
theorem call_isE' {a : Addr} {cls : Value} {d : Option Addr} {oe : Obj} {pn : List (Addr × Obj)} (hz : Zc cls d oe) (hf : ∃ vs, oe.data = .fields vs) :
    CallR (X.suite a ((a, oe) :: pn)) (.builtin "isinstance") (fun xs H Q => ∃ D, cls = .ref D ∧ d = none ∧ ExcC X.K D ∧ rIsE X.K D a xs H Q) := by
  intro pins s σ H xs us Q I r h
  obtain ⟨D, rfl, rfl, C, h⟩ := h
  exact call_isE C hz hf pins s σ H xs us Q I r h
end
/-- all but p is as it was, what is free too -/
def Only (p : Addr) (H H' : Hp) : Prop := ∀ b, b ≠ p → H' b = H b
theorem Only.upd {p : Addr} {H : Hp} {o : HO} : Only p H (upd H p o) := fun _ h => upd_ne h
theorem Only.refl {p : Addr} {H : Hp} : Only p H H := fun _ _ => rfl
theorem Only.trans {p : Addr} {H H1 H2 : Hp} (x : Only p H H1) (y : Only p H1 H2) : Only p H H2 := fun b h => (y b h).trans (x b h)
/-! which class is asked of a caught error -/
theorem kit_self {K : PySem.W.Frag} {c : Value} : PySem.W.kitOne K c c = some true := by
  unfold PySem.W.kitOne
  rw [if_pos (by simp)]
theorem kit_type {K : PySem.W.Frag} {D : Addr} {n : String} {b : Bool} (m : PySem.W.kitMeta n = true) (h : PySem.W.subIn K (.ref D) (.type n) = some b) : PySem.W.kitOne K (.ref D) (.type n) = some b := by
  unfold PySem.W.kitOne
  rw [if_neg (by intro z; cases (beq_iff_eq.mp z))]
  show (if PySem.W.kitMeta n = true then PySem.W.subIn K (.ref D) (.type n) else none) = some b
  rw [if_pos m]
  exact h
theorem kit_cls_of {K : PySem.W.Frag} {C : Addr} {t : Value} {b : Bool} (hd : PySem.W.hasDictIn K C = true) (ht : PySem.W.typeIn K (.ref C) = some (.type "type")) (h : PySem.W.subIn K t (.ref C) = some b) : PySem.W.kitCls K t (.ref C) = some b := by
  obtain ⟨cd, hc, _⟩ := PySem.W.any_some hd
  show (if ((PySem.W.clsIn K C).isSome && PySem.W.typeIn K (.ref C) == some (.type "type")) = true then PySem.W.subIn K t (.ref C) else none) = some b
  rw [if_pos (by rw [hc, ht]; rfl)]
  exact h
theorem kit_yes {K : PySem.W.Frag} {C D : Addr} (hd : PySem.W.hasDictIn K C = true) (ht : PySem.W.typeIn K (.ref C) = some (.type "type")) (h : PySem.W.subIn K (.ref D) (.ref C) = some true) : PySem.W.kitOne K (.ref D) (.ref C) = some true := by
  unfold PySem.W.kitOne
  split
  · rfl
  · exact kit_cls_of hd ht h
theorem kit_no {K : PySem.W.Frag} {C D : Addr} (hd : PySem.W.hasDictIn K C = true) (ht : PySem.W.typeIn K (.ref C) = some (.type "type")) (h : PySem.W.subIn K (.ref D) (.ref C) = some false) (hs : PySem.W.subIn K (.ref D) (.ref D) = some true) : PySem.W.kitOne K (.ref D) (.ref C) = some false := by
  unfold PySem.W.kitOne
  split
  · rename_i z
    have e : D = C := by
      have := beq_iff_eq.mp z
      injection this
    rw [← e] at h
    rw [h] at hs
    cases hs
  · exact kit_cls_of hd ht h
/-- len of a list or tuple; list of one -/
abbrev rLenS (K : PySem.W.Frag) := Evl.rLenS K
abbrev rListOf (K : PySem.W.Frag) := Evl.rListS K
/-! the prime, the inverse -/
theorem no_div (d : Nat) (h1 : 2 ≤ d) (h2 : d ≤ 255) : ¬ d ∣ 65521 := by
  intro h
  have e : 65521 % d = 0 := Nat.mod_eq_zero_of_dvd h
  have key : ∀ d : Fin 256, 2 ≤ d.val → ¬ 65521 % d.val = 0 := by decide +kernel
  exact key ⟨d, by omega⟩ h1 e
theorem prime_q (d : Nat) (h : d ∣ 65521) : d = 1 ∨ d = 65521 := by
  obtain ⟨e, he⟩ := h
  by_cases a : d ≤ 255
  · by_cases b : 2 ≤ d
    · exact absurd ⟨e, he⟩ (no_div d b a)
    · have : d ≠ 0 := by rintro rfl; omega
      omega
  · by_cases b : 2 ≤ e
    · by_cases c : e ≤ 255
      · exact absurd ⟨d, by rw [Nat.mul_comm]; exact he⟩ (no_div e b c)
      · have h1 : 256 * 256 ≤ d * e := Nat.mul_le_mul (by omega) (by omega)
        omega
    · have : e ≠ 0 := by rintro rfl; omega
      have e1 : e = 1 := by omega
      subst e1
      omega
theorem gcd_q (x : Int) (h : x % 65521 ≠ 0) : Int.gcd 65521 (x % 65521) = 1 := by
  have d1 : (Int.gcd 65521 (x % 65521) : Nat) ∣ 65521 := by
    have := Int.gcd_dvd_left (65521 : Int) (x % 65521)
    have h2 : ((Int.gcd 65521 (x % 65521) : Nat) : Int) ∣ ((65521 : Nat) : Int) := this
    exact Int.natCast_dvd_natCast.mp h2
  rcases prime_q _ d1 with e | e
  · exact e
  · exfalso
    have d2 := Int.gcd_dvd_right (65521 : Int) (x % 65521)
    rw [e] at d2
    obtain ⟨c, hc⟩ := d2
    have e2 : ((65521 : Nat) : Int) = 65521 := rfl
    rw [e2] at hc
    have p1 := Int.emod_nonneg x (show (65521 : Int) ≠ 0 by decide)
    have p2 := Int.emod_lt_of_pos x (show (0 : Int) < 65521 by decide)
    omega
theorem gcd_turn {n m : Int} (h : Int.gcd n m = 1) : Int.gcd m (n - n / m * m) = 1 := by
  rw [Int.gcd_sub_mul_right_right, Int.gcd_comm]
  exact h
/-- the inverse of a word, by what it is -/
noncomputable def invP (x : Int) : Int := open Classical in if h : ∃ b : Int, 0 ≤ b ∧ b < 65521 ∧ x * b % 65521 = 1 then h.choose else 0
theorem inv_unique {x b c : Int} (hb : 0 ≤ b ∧ b < 65521 ∧ x * b % 65521 = 1) (hc : 0 ≤ c ∧ c < 65521 ∧ x * c % 65521 = 1) : b = c := by
  have e1 : b * (x * c) % 65521 = b := by
    rw [Int.mul_emod, hc.2.2, Int.mul_one, Int.emod_emod_of_dvd _ (Int.dvd_refl _), Int.emod_eq_of_lt hb.1 hb.2.1]
  have e2 : c * (x * b) % 65521 = c := by
    rw [Int.mul_emod, hb.2.2, Int.mul_one, Int.emod_emod_of_dvd _ (Int.dvd_refl _), Int.emod_eq_of_lt hc.1 hc.2.1]
  have e3 : b * (x * c) = c * (x * b) := by grind
  rw [← e1, e3, e2]
theorem invP_eq {x b : Int} (h : 0 ≤ b ∧ b < 65521 ∧ x * b % 65521 = 1) : invP x = b := by
  have hx : ∃ b : Int, 0 ≤ b ∧ b < 65521 ∧ x * b % 65521 = 1 := ⟨b, h⟩
  unfold invP
  rw [dif_pos hx]
  exact inv_unique hx.choose_spec h
/-- one turn of Euclid's algorithm -/
theorem euclid_turn {x n m f g : Int} (h1 : (x * f - n) % 65521 = 0) (h2 : (x * g - m) % 65521 = 0) : (x * (f - n / m * g) - (n - n / m * m)) % 65521 = 0 := by
  have e : x * (f - n / m * g) - (n - n / m * m) = (x * f - n) - n / m * (x * g - m) := by grind
  rw [e, Int.sub_emod, h1, Int.mul_emod, h2, Int.mul_zero]
  rfl
theorem euclid_end {x f : Int} (h : (x * f - 1) % 65521 = 0) : 0 ≤ f % 65521 ∧ f % 65521 < 65521 ∧ x * (f % 65521) % 65521 = 1 := by
  refine ⟨Int.emod_nonneg _ (by decide), Int.emod_lt_of_pos _ (by decide), ?_⟩
  have e : x * (f % 65521) % 65521 = x * f % 65521 := by rw [Int.mul_emod, Int.emod_emod_of_dvd _ (Int.dvd_refl _), ← Int.mul_emod]
  rw [e]
  omega
/-- the inverse exists (Euclid, run in the mathematics) -/
theorem inv_ex : ∀ (k : Nat) (x n m f g : Int), m.toNat ≤ k → 0 ≤ m → 0 < n → (x * f - n) % 65521 = 0 → (x * g - m) % 65521 = 0 → Int.gcd n m = 1 → ∃ b : Int, 0 ≤ b ∧ b < 65521 ∧ x * b % 65521 = 1
  | k, x, n, m, f, g, hk, hm, hn, h1, h2, hg => by
    by_cases e : m = 0
    · subst e
      have : n = 1 := by
        rw [Int.gcd_zero_right] at hg
        omega
      subst this
      exact ⟨_, euclid_end h1⟩
    · have hm' : 0 < m := by omega
      match k, hk with
      | 0, hk => omega
      | k + 1, hk =>
        have r : n - n / m * m = n % m := by
          have := Int.mul_ediv_add_emod n m
          rw [Int.mul_comm] at this
          omega
        have r1 := Int.emod_nonneg n (show m ≠ 0 by omega)
        have r2 := Int.emod_lt_of_pos n hm'
        exact inv_ex k x m (n - n / m * m) g (f - n / m * g) (by omega) (by omega) hm' h2 (euclid_turn h1 h2) (gcd_turn hg)
theorem invP_spec {x : Int} (h : x % 65521 ≠ 0) : 0 ≤ invP x ∧ invP x < 65521 ∧ x * invP x % 65521 = 1 := by
  have p1 := Int.emod_nonneg x (show (65521 : Int) ≠ 0 by decide)
  obtain ⟨b, hb⟩ := inv_ex (x % 65521).toNat x 65521 (x % 65521) 0 1 (Nat.le_refl _) p1 (by decide) (by omega) (by omega) (gcd_q x h)
  rw [invP_eq hb]
  exact hb
/-! the field of words -/
def Zp : Type := Fin 65521
instance : Lean.Grind.CommRing Zp := inferInstanceAs (Lean.Grind.CommRing (Fin 65521))
instance : Lean.Grind.IsCharP Zp 65521 := inferInstanceAs (Lean.Grind.IsCharP (Fin 65521) 65521)
instance : DecidableEq Zp := inferInstanceAs (DecidableEq (Fin 65521))
def z (n : Int) : Zp := Lean.Grind.Ring.intCast.intCast n
theorem z_eq {a b : Int} : z a = z b ↔ a % 65521 = b % 65521 := Lean.Grind.IsCharP.intCast_ext_iff (α := Zp) 65521
theorem z_mod (a : Int) : z (a % 65521) = z a := z_eq.mpr (Int.emod_emod_of_dvd _ (Int.dvd_refl _))
theorem z_add (a b : Int) : z (a + b) = z a + z b := Lean.Grind.Ring.intCast_add a b
theorem z_sub (a b : Int) : z (a - b) = z a - z b := Lean.Grind.Ring.intCast_sub a b
theorem z_mul (a b : Int) : z (a * b) = z a * z b := Lean.Grind.Ring.intCast_mul a b
theorem z_neg (a : Int) : z (-a) = -z a := Lean.Grind.Ring.intCast_neg a
theorem z_zero : z 0 = 0 := Lean.Grind.Ring.intCast_zero
theorem z_one : z 1 = 1 := Lean.Grind.Ring.intCast_one
theorem z_z (a : Int) : z a = 0 ↔ a % 65521 = 0 := by
  rw [← z_zero, z_eq]
  rfl
theorem z_inj {a b : Int} (ha : 0 ≤ a) (ha' : a < 65521) (hb : 0 ≤ b) (hb' : b < 65521) (h : z a = z b) : a = b := by
  have := z_eq.mp h
  rw [Int.emod_eq_of_lt ha ha', Int.emod_eq_of_lt hb hb'] at this
  exact this
theorem z_mod_eq {a b : Int} (h : z a = z b) : a % 65521 = b % 65521 := z_eq.mp h
theorem z_surj (x : Zp) : ∃ n : Int, 0 ≤ n ∧ n < 65521 ∧ z n = x := by
  refine ⟨((show Fin 65521 from x).val : Int), by omega, by omega, ?_⟩
  show (Fin.intCast ((show Fin 65521 from x).val : Int) : Fin 65521) = x
  unfold Fin.intCast
  rw [if_pos (by omega), Int.natAbs_natCast]
  exact Fin.ofNat_val_eq_self _
theorem z_invP {n : Int} (h : z n ≠ 0) : z n * z (invP n) = 1 := by
  have h' : n % 65521 ≠ 0 := fun e => h ((z_z n).mpr e)
  obtain ⟨b0, b1, b2⟩ := invP_spec h'
  rw [← z_mul, ← z_one, z_eq]
  exact b2
theorem zp_inv {a : Zp} (h : a ≠ 0) : ∃ b : Zp, a * b = 1 := by
  obtain ⟨n, _, _, rfl⟩ := z_surj a
  exact ⟨_, z_invP h⟩
theorem zp_div {a b : Zp} (h : a * b = 0) : a = 0 ∨ b = 0 := by
  by_cases ha : a = 0
  · exact .inl ha
  · obtain ⟨c, hc⟩ := zp_inv ha
    right
    have : b = c * (a * b) := by grind
    rw [this, h]
    grind
theorem zp_01 : (1 : Zp) ≠ 0 := by
  rw [← z_one, ← z_zero]
  intro h
  have := z_eq.mp h
  omega
theorem zp_mul_ne {a b : Zp} (ha : a ≠ 0) (hb : b ≠ 0) : a * b ≠ 0 := fun h => (zp_div h).elim ha hb
/-! ### functions that are polynomials with n coefficients -/
def Pol : Nat → (Zp → Zp) → Prop
  | 0, f => ∀ x, f x = 0
  | n + 1, f => ∃ (c : Zp) (g : Zp → Zp), Pol n g ∧ ∀ x, f x = c + x * g x
theorem Pol.ext : ∀ {n : Nat} {f g : Zp → Zp}, Pol n f → (∀ x, g x = f x) → Pol n g
  | 0, _, _, h, e => fun x => (e x).trans (h x)
  | _ + 1, _, _, ⟨c, g, h, q⟩, e => ⟨c, g, h, fun x => (e x).trans (q x)⟩
theorem pol_nil : ∀ n : Nat, Pol n fun _ => 0
  | 0 => fun _ => rfl
  | n + 1 => ⟨0, fun _ => 0, pol_nil n, fun x => by grind⟩
theorem Pol.up : ∀ {n : Nat} {f : Zp → Zp}, Pol n f → Pol (n + 1) f
  | 0, f, h => ⟨0, fun _ => 0, fun _ => rfl, fun x => by rw [h x]; grind⟩
  | n + 1, _, ⟨c, g, h, q⟩ => ⟨c, g, h.up, q⟩
theorem Pol.mono {n m : Nat} {f : Zp → Zp} (h : Pol n f) (l : n ≤ m) : Pol m f := by
  induction l with
  | refl => exact h
  | step _ ih => exact ih.up
theorem Pol.add : ∀ {n : Nat} {f g : Zp → Zp}, Pol n f → Pol n g → Pol n fun x => f x + g x
  | 0, f, g, h, k => fun x => by show f x + g x = 0; rw [h x, k x]; grind
  | n + 1, f, g, ⟨c, u, h, p⟩, ⟨d, v, k, q⟩ => ⟨c + d, fun x => u x + v x, Pol.add h k, fun x => by show f x + g x = _; rw [p x, q x]; grind⟩
theorem Pol.smul : ∀ {n : Nat} {f : Zp → Zp} (a : Zp), Pol n f → Pol n fun x => f x * a
  | 0, f, a, h => fun x => by show f x * a = 0; rw [h x]; grind
  | n + 1, f, a, ⟨c, u, h, p⟩ => ⟨c * a, fun x => u x * a, Pol.smul a h, fun x => by show f x * a = _; rw [p x]; grind⟩
theorem Pol.const (c : Zp) : Pol 1 fun _ => c := ⟨c, fun _ => 0, fun _ => rfl, fun x => by grind⟩
theorem Pol.xmul {n : Nat} {f : Zp → Zp} (h : Pol n f) : Pol (n + 1) fun x => x * f x := ⟨0, f, h, fun x => by grind⟩
theorem Pol.lin {n : Nat} {f : Zp → Zp} (a : Zp) (h : Pol n f) : Pol (n + 1) fun x => (x - a) * f x :=
  (h.xmul.add (h.up.smul (-a))).ext fun x => by grind
theorem Pol.sub {n : Nat} {f g : Zp → Zp} (h : Pol n f) (k : Pol n g) : Pol n fun x => f x - g x :=
  (h.add (k.smul (-1))).ext fun x => by grind
/-- a polynomial less its value at a is a multiple of x - a -/
theorem Pol.at : ∀ {n : Nat} {f : Zp → Zp} (a : Zp), Pol (n + 1) f → ∃ g, Pol n g ∧ ∀ x, f x = f a + (x - a) * g x
  | 0, f, a, ⟨c, g, h, q⟩ => ⟨fun _ => 0, fun _ => rfl, fun x => by rw [q x, q a, h x, h a]; grind⟩
  | n + 1, f, a, ⟨c, g, h, q⟩ => by
    obtain ⟨k, hk, e⟩ := Pol.at a h
    refine ⟨fun x => g a + x * k x, ⟨g a, k, hk, fun _ => rfl⟩, fun x => ?_⟩
    have e1 := e x
    rw [q x, q a]
    grind
/-- as many zeros as coefficients: it is zero -/
theorem Pol.roots : ∀ {n : Nat} {f : Zp → Zp} (xs : List Zp), Pol n f → xs.Nodup → n ≤ xs.length → (∀ a ∈ xs, f a = 0) → ∀ x, f x = 0
  | 0, _, _, h, _, _, _ => h
  | n + 1, f, [], _, _, hl, _ => absurd hl (by simp)
  | n + 1, f, a :: r, h, hn, hl, hz => by
    obtain ⟨g, hg, e⟩ := Pol.at a h
    have ha : f a = 0 := hz a (by simp)
    have hn' := List.nodup_cons.mp hn
    have g0 : ∀ x, g x = 0 := Pol.roots r hg hn'.2 (by simpa using hl) fun b hb => by
      have hb0 := hz b (List.mem_cons_of_mem _ hb)
      rw [e b, ha] at hb0
      have : (b - a) * g b = 0 := by grind
      rcases zp_div this with q | q
      · exfalso
        have : b = a := by grind
        exact hn'.1 (this ▸ hb)
      · exact q
    intro x
    rw [e x, ha, g0 x]
    grind
/-! ### products of differences -/
def prodZ : List Int → Zp → Zp
  | [], _ => 1
  | o :: os, x => (x - z o) * prodZ os x
theorem prodZ_pol : ∀ os : List Int, Pol (os.length + 1) (prodZ os)
  | [] => (Pol.const 1).ext fun _ => rfl
  | o :: os => (Pol.lin (z o) (prodZ_pol os)).ext fun _ => rfl
theorem prodZ_root {o : Int} {x : Zp} : ∀ {os : List Int}, o ∈ os → x = z o → prodZ os x = 0
  | [], h, _ => by simp at h
  | p :: os, h, e => by
    show (x - z p) * prodZ os x = 0
    rcases List.mem_cons.mp h with q | q
    · rw [e, q]
      grind
    · rw [prodZ_root q e]
      grind
theorem prodZ_ne {x : Zp} : ∀ {os : List Int}, (∀ o ∈ os, x ≠ z o) → prodZ os x ≠ 0
  | [], _ => zp_01
  | p :: os, h => by
    refine zp_mul_ne (fun e => h p (by simp) ?_) (prodZ_ne fun o ho => h o (List.mem_cons_of_mem _ ho))
    grind
/-- as the program multiplies -/
def prodM (os : List Int) (x acc : Int) : Int := os.foldl (fun acc o => acc * (x - o) % 65521) acc
theorem prodM_z : ∀ (os : List Int) (x acc : Int), z (prodM os x acc) = z acc * prodZ os (z x)
  | [], x, acc => by
    show z acc = z acc * 1
    grind
  | o :: os, x, acc => by
    show z (prodM os x (acc * (x - o) % 65521)) = z acc * ((z x - z o) * prodZ os (z x))
    rw [prodM_z os x, z_mod, z_mul, z_sub]
    grind
theorem prodM_word : ∀ (os : List Int) (x acc : Int), 0 ≤ acc → acc < 65521 → 0 ≤ prodM os x acc ∧ prodM os x acc < 65521
  | [], _, _, h0, h1 => ⟨h0, h1⟩
  | o :: os, x, acc, _, _ => prodM_word os x _ (Int.emod_nonneg _ (by decide)) (Int.emod_lt_of_pos _ (by decide))
theorem prodM_snoc (os : List Int) (o x acc : Int) : prodM (os ++ [o]) x acc = prodM os x acc * (x - o) % 65521 := by
  unfold prodM
  rw [List.foldl_append]
  rfl
/-- a place's factor -/
noncomputable def wgt (p : Int) (os : List Int) (x : Int) : Int := prodM os x 1 * invP (prodM os p 1) % 65521
theorem wgt_word (p : Int) (os : List Int) (x : Int) : 0 ≤ wgt p os x ∧ wgt p os x < 65521 := ⟨Int.emod_nonneg _ (by decide), Int.emod_lt_of_pos _ (by decide)⟩
theorem wgt_z (p : Int) (os : List Int) (x : Int) : z (wgt p os x) = prodZ os (z x) * z (invP (prodM os p 1)) := by
  unfold wgt
  rw [z_mod, z_mul, prodM_z, z_one]
  grind
theorem wgt_ok {p : Int} {os : List Int} (h : ∀ o ∈ os, z p ≠ z o) : prodM os p 1 % 65521 ≠ 0 := fun e => by
  have := (z_z _).mpr e
  rw [prodM_z, z_one] at this
  refine prodZ_ne h ?_
  grind
/-- all places but the i-th -/
def others (ws : List Int) (i : Nat) : List Int := ws.take i ++ ws.drop (i + 1)
noncomputable def weightsM (ws : List Int) (x : Int) : List Int := (List.range ws.length).map fun i => wgt (ws.getD i 0) (others ws i) x
theorem weightsM_length (ws : List Int) (x : Int) : (weightsM ws x).length = ws.length := by simp [weightsM]
theorem weightsM_get {ws : List Int} {x : Int} {i : Nat} (h : i < ws.length) : (weightsM ws x)[i]? = some (wgt (ws.getD i 0) (others ws i) x) := by
  unfold weightsM
  rw [List.getElem?_map, List.getElem?_range h]
  rfl
/-- no two places are equal modulo the prime -/
def Apart (ws : List Int) : Prop := (ws.map z).Nodup
theorem apart_ne {ws : List Int} (h : Apart ws) {i j : Nat} (hi : i < ws.length) (hj : j < ws.length) (n : i ≠ j) : z (ws.getD i 0) ≠ z (ws.getD j 0) := fun e => by
  refine n ((List.getElem_inj (xs := ws.map z) (h₀ := by simpa using hi) (h₁ := by simpa using hj) h).mp ?_)
  rw [List.getElem_map, List.getElem_map]
  simpa [List.getD_eq_getElem?_getD, hi, hj] using e
theorem mem_others {ws : List Int} {i : Nat} {o : Int} : o ∈ others ws i ↔ ∃ j, j < ws.length ∧ j ≠ i ∧ o = ws.getD j 0 := by
  unfold others
  rw [List.mem_append, List.mem_iff_getElem?, List.mem_iff_getElem?]
  constructor
  · rintro (⟨j, h⟩ | ⟨j, h⟩)
    · rw [List.getElem?_take] at h
      by_cases c : j < i
      · rw [if_pos c] at h
        obtain ⟨hl, e⟩ := List.getElem?_eq_some_iff.mp h
        exact ⟨j, hl, by omega, by simp [List.getD_eq_getElem?_getD, hl, e]⟩
      · rw [if_neg c] at h
        cases h
    · rw [List.getElem?_drop] at h
      obtain ⟨hl, e⟩ := List.getElem?_eq_some_iff.mp h
      exact ⟨_, hl, by omega, by simp [List.getD_eq_getElem?_getD, hl, e]⟩
  · rintro ⟨j, hl, n, rfl⟩
    by_cases c : j < i
    · exact .inl ⟨j, by rw [List.getElem?_take, if_pos c, List.getElem?_eq_getElem hl]; simp [List.getD_eq_getElem?_getD, hl]⟩
    · refine .inr ⟨j - (i + 1), ?_⟩
      rw [List.getElem?_drop, show i + 1 + (j - (i + 1)) = j by omega, List.getElem?_eq_getElem hl]
      simp [List.getD_eq_getElem?_getD, hl]
theorem others_length {ws : List Int} {i : Nat} (h : i < ws.length) : (others ws i).length + 1 = ws.length := by
  unfold others
  rw [List.length_append, List.length_take, List.length_drop]
  omega
theorem others_apart {ws : List Int} (h : Apart ws) {i : Nat} (hi : i < ws.length) : ∀ o ∈ others ws i, z (ws.getD i 0) ≠ z o := fun o ho => by
  obtain ⟨j, hl, n, rfl⟩ := mem_others.mp ho
  exact apart_ne h hi hl (Ne.symm n)
/-! ### sums -/
def sumR : Nat → (Nat → Zp) → Zp
  | 0, _ => 0
  | n + 1, g => sumR n g + g n
theorem sumR_ext : ∀ {n : Nat} {f g : Nat → Zp}, (∀ i, i < n → f i = g i) → sumR n f = sumR n g
  | 0, _, _, _ => rfl
  | n + 1, f, g, h => by
    show sumR n f + f n = sumR n g + g n
    rw [sumR_ext fun i hi => h i (by omega), h n (by omega)]
theorem sumR_zero : ∀ {n : Nat} {f : Nat → Zp}, (∀ i, i < n → f i = 0) → sumR n f = 0
  | 0, _, _ => rfl
  | n + 1, f, h => by
    show sumR n f + f n = 0
    rw [sumR_zero fun i hi => h i (by omega), h n (by omega)]
    grind
theorem sumR_one : ∀ {n : Nat} {f : Nat → Zp} {j : Nat}, j < n → (∀ i, i < n → i ≠ j → f i = 0) → sumR n f = f j
  | n + 1, f, j, hj, h => by
    show sumR n f + f n = f j
    by_cases c : j = n
    · subst c
      rw [sumR_zero fun i hi => h i (by omega) (by omega)]
      grind
    · rw [sumR_one (j := j) (by omega) fun i hi n' => h i (by omega) n', h n (by omega) (by omega)]
      grind
theorem sumR_pol {m : Nat} : ∀ {n : Nat} {F : Nat → Zp → Zp}, (∀ i, i < n → Pol m (F i)) → Pol m fun x => sumR n fun i => F i x
  | 0, _, _ => (pol_nil m).ext fun _ => rfl
  | n + 1, F, h => (Pol.add (sumR_pol (n := n) fun i hi => h i (by omega)) (h n (by omega))).ext fun _ => rfl
/-- the sum of factors times values -/
def dotR (us vs : List Int) : Int := ((List.range us.length).map fun i => us.getD i 0 * vs.getD i 0).sum
theorem sum_range_z : ∀ (n : Nat) (f : Nat → Int), z ((List.range n).map f).sum = sumR n fun i => z (f i)
  | 0, _ => z_zero
  | n + 1, f => by
    rw [List.range_succ, List.map_append, List.sum_append, z_add, sum_range_z n f]
    show _ + z ((f n) + 0) = _
    rw [Int.add_zero]
    rfl
theorem dotR_z (us vs : List Int) : z (dotR us vs) = sumR us.length fun i => z (us.getD i 0) * z (vs.getD i 0) := by
  unfold dotR
  rw [sum_range_z]
  exact sumR_ext fun i _ => z_mul _ _
/-- the value at x, as the program reckons it -/
noncomputable def valM (ws ys : List Int) (x : Int) : Int := dotR (weightsM ws x) ys % 65521
theorem valM_word (ws ys : List Int) (x : Int) : 0 ≤ valM ws ys x ∧ valM ws ys x < 65521 := ⟨Int.emod_nonneg _ (by decide), Int.emod_lt_of_pos _ (by decide)⟩
theorem valM_z (ws ys : List Int) (x : Int) : z (valM ws ys x) = sumR ws.length fun i => prodZ (others ws i) (z x) * (z (invP (prodM (others ws i) (ws.getD i 0) 1)) * z (ys.getD i 0)) := by
  unfold valM
  rw [z_mod, dotR_z, weightsM_length]
  refine sumR_ext fun i hi => ?_
  have e : (weightsM ws x).getD i 0 = wgt (ws.getD i 0) (others ws i) x := by rw [List.getD_eq_getElem?_getD, weightsM_get hi]; rfl
  rw [e, wgt_z]
  grind
/-- at a place it is the point's own value -/
theorem valM_node {ws ys : List Int} (h : Apart ws) {x : Int} {j : Nat} (hj : j < ws.length) (e : z x = z (ws.getD j 0)) : z (valM ws ys x) = z (ys.getD j 0) := by
  rw [valM_z, sumR_one hj fun i hi n => ?_]
  · have p := others_apart h hj
    have q := wgt_ok p
    have r : z (prodM (others ws j) (ws.getD j 0) 1) * z (invP (prodM (others ws j) (ws.getD j 0) 1)) = 1 := z_invP fun e => q ((z_z _).mp e)
    rw [prodM_z, z_one] at r
    rw [e]
    grind
  · rw [prodZ_root (mem_others.mpr ⟨j, hj, Ne.symm n, rfl⟩) e]
    grind
/-- the values of a polynomial at the places give its value anywhere -/
theorem valM_pol {ws ys : List Int} (h : Apart ws) {f : Zp → Zp} (hf : Pol ws.length f) (hy : ∀ i, i < ws.length → z (ys.getD i 0) = f (z (ws.getD i 0))) (x : Int) : z (valM ws ys x) = f (z x) := by
  have P : Pol ws.length fun x => (sumR ws.length fun i => prodZ (others ws i) x * (z (invP (prodM (others ws i) (ws.getD i 0) 1)) * z (ys.getD i 0))) - f x := by
    refine Pol.sub (sumR_pol fun i hi => Pol.smul _ ?_) hf
    have := prodZ_pol (others ws i)
    rw [others_length hi] at this
    exact this
  have R := Pol.roots (ws.map z) P h (by simp) (fun a ha => ?_) (z x)
  · rw [valM_z]
    have R' : (sumR ws.length fun i => prodZ (others ws i) (z x) * (z (invP (prodM (others ws i) (ws.getD i 0) 1)) * z (ys.getD i 0))) - f (z x) = 0 := R
    grind
  · obtain ⟨p, hp, rfl⟩ := List.mem_map.mp ha
    obtain ⟨j, hj⟩ := List.mem_iff_getElem?.mp hp
    obtain ⟨hl, e⟩ := List.getElem?_eq_some_iff.mp hj
    have ep : ws.getD j 0 = p := by simp [List.getD_eq_getElem?_getD, hl, e]
    have v := valM_node (ys := ys) h (x := p) hl (by rw [ep])
    rw [valM_z, hy j hl, ep] at v
    show (sumR ws.length fun i => prodZ (others ws i) (z p) * (z (invP (prodM (others ws i) (ws.getD i 0) 1)) * z (ys.getD i 0))) - f (z p) = 0
    rw [v]
    grind
/-! a polynomial's value -/
def pev : List Int → Zp → Zp
  | [], _ => 0
  | c :: r, x => z c + x * pev r x
theorem pev_pol : ∀ ns : List Int, Pol ns.length (pev ns)
  | [] => fun _ => rfl
  | c :: r => ⟨z c, pev r, pev_pol r, fun _ => rfl⟩
/-- as it is reckoned: from the highest coefficient down -/
def horn : List Int → Int → Int
  | [], _ => 0
  | c :: r, x => (horn r x * x + c) % 65521
theorem horn_z : ∀ (ns : List Int) (x : Int), z (horn ns x) = pev ns (z x)
  | [], _ => z_zero
  | c :: r, x => by
    show z ((horn r x * x + c) % 65521) = z c + z x * pev r (z x)
    rw [z_mod, z_add, z_mul, horn_z r x]
    grind
theorem horn_word : ∀ (ns : List Int) (x : Int), 0 ≤ horn ns x ∧ horn ns x < 65521
  | [], _ => by show (0 : Int) ≤ 0 ∧ (0 : Int) < 65521; omega
  | _ :: _, _ => ⟨Int.emod_nonneg _ (by decide), Int.emod_lt_of_pos _ (by decide)⟩
theorem horn_drop {ns : List Int} {x c : Int} {i : Nat} (h : ns[i]? = some c) : horn (ns.drop i) x = (horn (ns.drop (i + 1)) x * x + c) % 65521 := by
  obtain ⟨hl, e⟩ := List.getElem?_eq_some_iff.mp h
  rw [List.drop_eq_getElem_cons hl, e]
  rfl
/-! polynomials by their values: degree, normal forms -/
def Wd (w : Int) : Prop := 0 ≤ w ∧ w < 65521
/-- a list of words whose last one is not 0 -/
def Norm (r : List Int) : Prop := (∀ w ∈ r, Wd w) ∧ (r = [] ∨ r.getD (r.length - 1) 0 ≠ 0)
def pw (x : Zp) : Nat → Zp
  | 0 => 1
  | n + 1 => x * pw x n
theorem pev_append : ∀ (a b : List Int) (x : Zp), pev (a ++ b) x = pev a x + pw x a.length * pev b x
  | [], b, x => by
    show pev b x = 0 + 1 * pev b x
    grind
  | c :: a, b, x => by
    show z c + x * pev (a ++ b) x = (z c + x * pev a x) + (x * pw x a.length) * pev b x
    rw [pev_append a b x]
    grind
theorem pev_zeros : ∀ {a : List Int}, (∀ w ∈ a, z w = 0) → ∀ x, pev a x = 0
  | [], _, _ => rfl
  | c :: a, h, x => by
    show z c + x * pev a x = 0
    rw [h c (by simp), pev_zeros (fun w m => h w (List.mem_cons_of_mem _ m))]
    grind
theorem pev_mod : ∀ (a : List Int) (x : Zp), pev (a.map (· % 65521)) x = pev a x
  | [], _ => rfl
  | c :: a, x => by
    show z (c % 65521) + x * pev (a.map (· % 65521)) x = z c + x * pev a x
    rw [z_mod, pev_mod a x]
/-- one place of the list gets another number -/
theorem pev_set : ∀ {a : List Int} {i : Nat} {c d : Int} (x : Zp), a[i]? = some c → pev (a.set i d) x = pev a x + pw x i * (z d - z c)
  | [], _, _, _, _, h => by simp at h
  | b :: a, 0, c, d, x, h => by
    have e : b = c := Option.some.inj h
    subst e
    show z d + x * pev a x = (z b + x * pev a x) + 1 * (z d - z b)
    grind
  | b :: a, i + 1, c, d, x, h => by
    show z b + x * pev (a.set i d) x = (z b + x * pev a x) + (x * pw x i) * (z d - z c)
    rw [pev_set (i := i) (c := c) x h]
    grind
theorem pw_add (x : Zp) : ∀ n m : Nat, pw x (n + m) = pw x n * pw x m
  | 0, m => by
    rw [Nat.zero_add]
    show pw x m = 1 * pw x m
    grind
  | n + 1, m => by
    rw [Nat.succ_add]
    show x * pw x (n + m) = (x * pw x n) * pw x m
    rw [pw_add x n m]
    grind
theorem pev_snoc (a : List Int) (c : Int) (x : Zp) : pev (a ++ [c]) x = pev a x + pw x a.length * z c := by
  rw [pev_append]
  show _ + _ * (z c + x * 0) = _
  grind
/-! all words as places -/
def allZ (n : Nat) : List Zp := (List.range n).map fun (k : Nat) => z ((k : Int) + 1)
theorem allZ_nodup {n : Nat} (h : n ≤ 65520) : (allZ n).Nodup := by
  unfold allZ List.Nodup
  rw [List.pairwise_map]
  refine (List.nodup_range (n := n)).imp_of_mem fun {a b} ha hb ne e => ?_
  have h1 := List.mem_range.mp ha
  have h2 := List.mem_range.mp hb
  have := z_eq.mp e
  omega
theorem allZ_ne {n : Nat} (h : n ≤ 65520) : ∀ a ∈ allZ n, a ≠ 0 := fun a ha e => by
  obtain ⟨k, hk, rfl⟩ := List.mem_map.mp ha
  have h1 := List.mem_range.mp hk
  have := (z_z _).mp e
  omega
/-- zero but perhaps at 0: zero -/
theorem Pol.punct {n : Nat} {f : Zp → Zp} (h : Pol n f) (hn : n ≤ 65520) (hz : ∀ x, x ≠ 0 → f x = 0) : ∀ x, f x = 0 :=
  Pol.roots (allZ n) h (allZ_nodup hn) (by simp [allZ]) fun a ha => hz a (allZ_ne hn a ha)
theorem Pol.pw : ∀ (n : Nat) (c : Zp), Pol (n + 1) fun x => c * PP.pw x n
  | 0, c => (Pol.const c).ext fun x => by show c * 1 = c; grind
  | n + 1, c => ((Pol.pw n c).xmul).ext fun x => by show c * (x * PP.pw x n) = x * (c * PP.pw x n); grind
/-- a power beyond the coefficients has the factor 0 -/
theorem lead_zero : ∀ (n : Nat) {c : Zp} {h : Zp → Zp}, n ≤ 60000 → Pol n h → (∀ x, c * pw x n = h x) → c = 0
  | 0, c, h, _, hp, e => by
    have := e 0
    rw [hp 0] at this
    have : c * 1 = 0 := this
    grind
  | n + 1, c, h, hn, ⟨d, g, hg, q⟩, e => by
    have e0 : d = 0 := by
      have h0 := e 0
      rw [q 0] at h0
      have : c * (0 * pw 0 n) = d + 0 * g 0 := h0
      grind
    have F : ∀ x, c * pw x n - g x = 0 := Pol.punct (n := n + 1) (Pol.sub (Pol.pw n c) hg.up) (by omega) fun x hx => by
      have h1 := e x
      rw [q x, e0] at h1
      have h2 : c * (x * pw x n) = 0 + x * g x := h1
      have h3 : x * (c * pw x n - g x) = 0 := by grind
      exact (zp_div h3).resolve_left hx
    exact lead_zero n (by omega) hg fun x => by
      have := F x
      grind
/-- a normal list has no more words than its values need -/
theorem norm_le {r : List Int} {n : Nat} (h : Norm r) (hn : n ≤ 60000) (hp : Pol n (pev r)) (hr : r.length ≤ 60000) : r.length ≤ n := by
  refine Classical.byContradiction fun c => ?_
  obtain ⟨hw, hl⟩ := h
  have rne : r ≠ [] := fun e => by rw [e] at c; simp at c
  have hl := hl.resolve_left rne
  have e : r = r.take (r.length - 1) ++ [r.getD (r.length - 1) 0] := by
    have hlt : r.length - 1 < r.length := by
      have := List.length_pos_iff.mpr rne
      omega
    conv => lhs; rw [← List.take_append_drop (r.length - 1) r]
    rw [List.drop_eq_getElem_cons hlt, show r.length - 1 + 1 = r.length by omega, List.drop_length]
    simp [List.getD_eq_getElem?_getD, hlt]
  have P1 : Pol (r.length - 1) (pev (r.take (r.length - 1))) := (pev_pol _).mono (by rw [List.length_take]; omega)
  have P2 : Pol (r.length - 1) (pev r) := hp.mono (by omega)
  have z0 := lead_zero (r.length - 1) (c := z (r.getD (r.length - 1) 0)) (by omega) (Pol.sub P2 P1) fun x => by
    have := pev_snoc (r.take (r.length - 1)) (r.getD (r.length - 1) 0) x
    rw [← e, List.length_take, Nat.min_eq_left (by omega)] at this
    show _ = pev r x - pev (r.take (r.length - 1)) x
    grind
  have w := hw (r.getD (r.length - 1) 0) (by
    have hlt : r.length - 1 < r.length := by
      have := List.length_pos_iff.mpr rne
      omega
    rw [List.getD_eq_getElem?_getD, List.getElem?_eq_getElem hlt]
    exact List.getElem_mem hlt)
  have := (z_z _).mp z0
  obtain ⟨w0, w1⟩ := w
  omega
/-- the same values everywhere: the same words -/
theorem pev_inj : ∀ {a b : List Int}, a.length = b.length → a.length ≤ 60000 → (∀ w ∈ a, Wd w) → (∀ w ∈ b, Wd w) → (∀ x, pev a x = pev b x) → a = b
  | [], [], _, _, _, _, _ => rfl
  | [], _ :: _, h, _, _, _, _ => by simp at h
  | _ :: _, [], h, _, _, _, _ => by simp at h
  | c :: a, d :: b, hl, hz, ha, hb, e => by
    have e0 : z c = z d := by
      have : z c + 0 * pev a 0 = z d + 0 * pev b 0 := e 0
      grind
    have wc := ha c (by simp)
    have wd := hb d (by simp)
    have ecd : c = d := z_inj wc.1 wc.2 wd.1 wd.2 e0
    have hl' : a.length = b.length := by simpa using hl
    have hz' : a.length + 1 ≤ 60000 := by simpa using hz
    have F : ∀ x, pev a x - pev b x = 0 := Pol.punct (n := a.length) (Pol.sub (pev_pol a) ((pev_pol b).mono (by omega))) (by omega) fun x hx => by
      have h1 : z c + x * pev a x = z d + x * pev b x := e x
      have h3 : x * (pev a x - pev b x) = 0 := by grind
      exact (zp_div h3).resolve_left hx
    rw [ecd, pev_inj hl' (by omega) (fun w m => ha w (List.mem_cons_of_mem _ m)) (fun w m => hb w (List.mem_cons_of_mem _ m)) fun x => by have := F x; grind]
theorem norm_inj {a b : List Int} (ha : Norm a) (hb : Norm b) (la : a.length ≤ 60000) (lb : b.length ≤ 60000) (e : ∀ x, pev a x = pev b x) : a = b := by
  have h1 := norm_le ha lb ((pev_pol b).ext e) la
  have h2 := norm_le hb la ((pev_pol a).ext fun x => (e x).symm) lb
  exact pev_inj (by omega) la ha.1 hb.1 e
/-! products -/
theorem Pol.mul : ∀ {n m : Nat} {f g : Zp → Zp}, Pol n f → Pol m g → Pol (n + m) fun x => f x * g x
  | 0, m, f, g, h, _ => (pol_nil (0 + m)).ext fun x => by show f x * g x = 0; rw [h x]; grind
  | n + 1, m, f, g, ⟨c, u, h, q⟩, k => by
    have A := (Pol.mul h k).xmul
    have B := (k.smul c).mono (show m ≤ n + m + 1 by omega)
    rw [show n + 1 + m = n + m + 1 by omega]
    exact (B.add A).ext fun x => by show f x * g x = g x * c + x * (u x * g x); rw [q x]; grind
/-- the highest coefficient -/
theorem norm_lead {a : List Int} (h : Norm a) (ne : a ≠ []) : ∃ (c : Zp) (g : Zp → Zp), c ≠ 0 ∧ Pol (a.length - 1) g ∧ ∀ x, pev a x = g x + c * pw x (a.length - 1) := by
  have hlt : a.length - 1 < a.length := by
    have := List.length_pos_iff.mpr ne
    omega
  refine ⟨z (a.getD (a.length - 1) 0), pev (a.take (a.length - 1)), fun e => ?_, (pev_pol _).mono (by rw [List.length_take]; omega), fun x => ?_⟩
  · have w : Wd (a.getD (a.length - 1) 0) := h.1 _ (by rw [List.getD_eq_getElem?_getD, List.getElem?_eq_getElem hlt]; exact List.getElem_mem hlt)
    have := (z_z _).mp e
    have ne0 := h.2.resolve_left ne
    obtain ⟨w0, w1⟩ := w
    omega
  · have e : a = a.take (a.length - 1) ++ [a.getD (a.length - 1) 0] := by
      conv => lhs; rw [← List.take_append_drop (a.length - 1) a]
      rw [List.drop_eq_getElem_cons hlt, show a.length - 1 + 1 = a.length by omega, List.drop_length]
      simp [List.getD_eq_getElem?_getD, hlt]
    have := pev_snoc (a.take (a.length - 1)) (a.getD (a.length - 1) 0) x
    rw [← e, List.length_take, Nat.min_eq_left (by omega)] at this
    rw [this]
    grind
theorem norm_mul {a b r : List Int} (ha : Norm a) (hb : Norm b) (hr : Norm r) (na : a ≠ []) (nb : b ≠ []) (la : a.length ≤ 1000) (lb : b.length ≤ 1000) (lr : r.length ≤ 60000) (e : ∀ x, pev r x = pev a x * pev b x) : r.length = a.length + b.length - 1 := by
  obtain ⟨c, g, hc, hg, eg⟩ := norm_lead ha na
  obtain ⟨d, k, hd, hk, ek⟩ := norm_lead hb nb
  have pa := List.length_pos_iff.mpr na
  have pb := List.length_pos_iff.mpr nb
  -- what is below the highest power
  have low : Pol (a.length - 1 + (b.length - 1)) fun x => pev r x - (c * d) * pw x (a.length - 1 + (b.length - 1)) := by
    have A := (hg.mul ((Pol.pw (b.length - 1) d).add hk.up)).mono (show a.length - 1 + (b.length - 1 + 1) ≤ a.length - 1 + (b.length - 1) + 1 by omega)
    have B : ∀ n m : Nat, ∀ u : Zp → Zp, Pol m u → Pol (n + m) fun x => pw x n * u x := by
      intro n
      induction n with
      | zero => exact fun m u hu => by rw [Nat.zero_add]; exact hu.ext fun x => by show 1 * u x = u x; grind
      | succ n ih => exact fun m u hu => by rw [Nat.succ_add]; exact ((ih m u hu).xmul).ext fun x => by show (x * pw x n) * u x = x * (pw x n * u x); grind
    have C := (B (a.length - 1) (b.length - 1) k hk).smul c
    have D := (B (b.length - 1) (a.length - 1) g hg).smul d
    have G : Pol (a.length - 1 + (b.length - 1)) fun x => g x * k x := hg.mul hk
    rw [Nat.add_comm (b.length - 1)] at D
    refine ((C.add D).add G).ext fun x => ?_
    show pev r x - (c * d) * pw x (a.length - 1 + (b.length - 1)) = (pw x (a.length - 1) * k x * c + pw x (b.length - 1) * g x * d) + g x * k x
    rw [e x, eg x, ek x, pw_add]
    grind
  have up : Pol (a.length - 1 + (b.length - 1) + 1) (pev r) := (low.up.add (Pol.pw _ (c * d))).ext fun x => by
    show pev r x = (pev r x - (c * d) * pw x _) + (c * d) * pw x _
    grind
  have h1 := norm_le hr (by omega) up lr
  by_cases q : r.length ≤ a.length - 1 + (b.length - 1)
  · exfalso
    have P := (pev_pol r).mono q
    have := lead_zero (a.length - 1 + (b.length - 1)) (c := c * d) (by omega) (P.sub low) fun x => by
      show _ = pev r x - (pev r x - (c * d) * pw x _)
      grind
    exact zp_mul_ne hc hd this
  · omega
theorem norm_snoc {a : List Int} {c : Int} (h : ∀ w ∈ a, Wd w) (hc : Wd c) (n : c ≠ 0) : Norm (a ++ [c]) := by
  refine ⟨fun w m => ?_, .inr ?_⟩
  · rcases List.mem_append.mp m with m | m
    · exact h w m
    · have : w = c := by simpa using m
      rw [this]
      exact hc
  · rw [List.length_append, List.length_singleton, Nat.add_sub_cancel, List.getD_eq_getElem?_getD]
    simpa using n
theorem norm_nil : Norm [] := ⟨fun _ m => (nomatch m), .inl rfl⟩
theorem pev_smul (fa : Int) : ∀ (b : List Int) (x : Zp), pev (b.map fun c => fa * c) x = z fa * pev b x
  | [], x => by show (0 : Zp) = _ * 0; grind
  | c :: r, x => by
    show z (fa * c) + x * pev (r.map fun c => fa * c) x = z fa * (z c + x * pev r x)
    rw [pev_smul fa r x, z_mul]
    grind
/-! heaps, slices, points -/
theorem _root_.L2.Same.tup {K : PySem.W.Frag} {H H' : Hp} {a : Addr} {xs : List V} (e : Same H H') (h : SqT K H a xs) : SqT K H' a xs := by
  rcases h with (h | ⟨o, h⟩) | h
  · exact .inl (.inl (e _ _ h))
  · exact .inl (.inr ⟨o, e _ _ h⟩)
  · exact .inr h
theorem _root_.L2.Same.new {H : Hp} {p : Addr} {o : HO} (h : H p = none) : Same H (upd H p o) := fun _ _ e => by
  rw [upd_ne (ne_of_none e h)]
  exact e
/-- what was tracked is as it was, but for p -/
def But (p : Addr) (H H' : Hp) : Prop := ∀ b o, H b = some o → b ≠ p → H' b = some o
theorem Only.but {p : Addr} {H H' : Hp} (h : Only p H H') : But p H H' := fun b _ e n => (h b n).trans e
theorem _root_.L2.Same.but {p : Addr} {H H' : Hp} (h : Same H H') : But p H H' := fun b o e _ => h b o e
theorem But.trans {p : Addr} {H H1 H2 : Hp} (x : But p H H1) (y : But p H1 H2) : But p H H2 := fun b o e n => y b o (x b o e n) n
theorem But.same {p : Addr} {H0 H H' : Hp} (y : But p H H') (x : Same H0 H) (h : H0 p = none) : Same H0 H' := fun b o e => y b o (x b o e) (ne_of_none e h)
theorem But.new {p q : Addr} {H H' : Hp} {o : HO} (x : But p H H') (h : H' q = none) : But p H (upd H' q o) := x.trans (Same.new h).but
theorem _root_.L2.Same.at {H H' : Hp} {b : Addr} {o : HO} (s : Same H H') (e : H b = some o) : H' b = some o := s b o e
theorem cut_take (xs : List V) (i : Nat) : cutV xs none (some (i : Int)) = xs.take i := by
  unfold cutV
  rw [HT.sIx_none, HT.sIx_nat, List.drop_zero, Nat.sub_zero]
  by_cases h : i ≤ xs.length
  · rw [Nat.min_eq_left h]
  · rw [Nat.min_eq_right (by omega), List.take_of_length_le (by omega), List.take_of_length_le (by omega)]
theorem cut_drop (xs : List V) (i : Nat) : cutV xs (some (i : Int)) none = xs.drop i := by
  unfold cutV
  rw [HT.sIx_none, HT.sIx_nat]
  by_cases h : i ≤ xs.length
  · rw [Nat.min_eq_left h, List.take_of_length_le (by rw [List.length_drop]; omega)]
  · rw [Nat.min_eq_right (by omega), List.drop_of_length_le (by omega), List.drop_of_length_le (by omega), List.take_nil]
theorem take_snoc {α : Type} {l : List α} {i : Nat} {x : α} (h : l[i]? = some x) : l.take (i + 1) = l.take i ++ [x] := by
  rw [List.take_add_one, h]
  rfl
theorem item_lt {α : Type} {l : List α} {i : Nat} {x : α} (h : l[i]? = some x) : i < l.length := (List.getElem?_eq_some_iff.mp h).1
theorem small (n : Nat) (h : n ≤ 1000) : n < sizeLine := Nat.lt_of_le_of_lt h (by decide)
theorem getD_item {α : Type} {l : List α} {i : Nat} {x d : α} (h : l[i]? = some x) : l.getD i d = x := by rw [List.getD_eq_getElem?_getD, h]; rfl
theorem seq_off {K : PySem.W.Frag} {H : Hp} {a b : Addr} {xs : List V} {o : HO} (h : SqL K H a xs) (n : a ≠ b) : SqL K (upd H b o) a xs := by
  rcases h with (h | ⟨u, h⟩) | h
  · exact .inl (.inl (by rw [upd_ne n]; exact h))
  · exact .inl (.inr ⟨u, by rw [upd_ne n]; exact h⟩)
  · exact .inr h
/-- one more thing at a place that was free at the entry -/
theorem same_put {H H' : Hp} {p : Addr} {o : HO} (s : Same H H') (n : H p = none) : Same H (upd H' p o) := fun b u e => by
  rw [upd_ne (ne_of_none e n)]
  exact s b u e
theorem item_set {α : Type} {l : List α} {i j : Nat} {x y : α} (h : (l.set i x)[j]? = some y) : (i = j ∧ y = x ∧ j < l.length) ∨ (i ≠ j ∧ l[j]? = some y) := by
  rw [List.getElem?_set] at h
  by_cases e : i = j
  · subst e
    rw [if_pos rfl] at h
    split at h
    · exact .inl ⟨rfl, (Option.some.inj h).symm, by assumption⟩
    · cases h
  · rw [if_neg e] at h
    exact .inr ⟨e, h⟩
/-! data: == of lists of ints, of pairs -/
theorem eqvAll_ints : ∀ xs ys : List Int, PyData.eqvAll (xs.map .int) (ys.map .int) = decide (xs = ys)
  | [], [] => by simp [PyData.eqvAll]
  | [], _ :: _ => by simp [PyData.eqvAll]
  | _ :: _, [] => by simp [PyData.eqvAll]
  | x :: xs, y :: ys => by
    simp only [List.map_cons, PyData.eqvAll, PyData.eqv, eqvAll_ints xs ys]
    by_cases h : x = y <;> by_cases k : xs = ys <;> simp [h, k]
theorem canLayAll_ints : ∀ xs : List Int, PyData.canLayAll0 (xs.map .int) = true
  | [] => rfl
  | x :: xs => by simp [PyData.canLayAll0, PyData.canLay0, canLayAll_ints xs]
theorem depthAll_ints : ∀ xs : List Int, PyData.depthAll (xs.map .int) = 0
  | [] => rfl
  | x :: xs => by simp [PyData.depthAll, PyData.depth, depthAll_ints xs]
theorem shaped_ints (xs : List Int) : SeqAt.shaped (.list (xs.map .int)) = true := by
  simp [SeqAt.shaped, PyData.canLay0, canLayAll_ints, PyData.depth, depthAll_ints]
theorem dpAll_ints {K : PySem.W.Frag} {H : Hp} : ∀ xs : List Int, DpAll K H (xs.map V.int) (xs.map .int)
  | [] => .nil
  | x :: xs => .cons (.int x) (dpAll_ints xs)
theorem dp_ints {K : PySem.W.Frag} {H : Hp} {a : Addr} {xs : List Int} (h : SqL K H a (xs.map V.int)) : Dp K H (.ref a) (.list (xs.map .int)) := .lst h (dpAll_ints xs)
theorem eqv_ints (xs ys : List Int) : PyData.eqv (.list (xs.map .int)) (.list (ys.map .int)) = decide (xs = ys) := by
  simp only [PyData.eqv]
  exact eqvAll_ints xs ys
/-- rows of ints -/
def rowD (xs : List Int) : PyData := .list (xs.map .int)
theorem rows_data : ∀ xss : List (List Int), PyData.canLayAll0 (xss.map rowD) = true ∧ PyData.depthAll (xss.map rowD) ≤ 1
  | [] => ⟨rfl, Nat.zero_le _⟩
  | xs :: xss => by
    obtain ⟨h1, h2⟩ := rows_data xss
    refine ⟨by simp [PyData.canLayAll0, PyData.canLay0, rowD, canLayAll_ints, h1], ?_⟩
    simp only [List.map_cons, PyData.depthAll, rowD, PyData.depth, depthAll_ints]
    omega
theorem rows_shaped (xss : List (List Int)) : SeqAt.shaped (.list (xss.map rowD)) = true := by
  obtain ⟨h1, h2⟩ := rows_data xss
  have e : PyData.depth (.list (xss.map rowD)) = PyData.depthAll (xss.map rowD) + 1 := by simp only [PyData.depth]
  unfold SeqAt.shaped
  rw [Bool.and_eq_true]
  exact ⟨by simp only [PyData.canLay0]; exact h1, decide_eq_true (by rw [e]; omega)⟩
theorem eqvAll_rows : ∀ xss yss : List (List Int), PyData.eqvAll (xss.map rowD) (yss.map rowD) = decide (xss = yss)
  | [], [] => by simp [PyData.eqvAll]
  | [], _ :: _ => by simp [PyData.eqvAll]
  | _ :: _, [] => by simp [PyData.eqvAll]
  | x :: xs, y :: ys => by
    have h := eqv_ints x y
    simp only [List.map_cons, PyData.eqvAll, rowD, eqvAll_rows xs ys, h]
    by_cases h : x = y <;> by_cases k : xs = ys <;> simp [h, k]
theorem eqv_rows (xss yss : List (List Int)) : PyData.eqv (.list (xss.map rowD)) (.list (yss.map rowD)) = decide (xss = yss) := by
  simp only [PyData.eqv]
  exact eqvAll_rows xss yss
theorem dp_two {K : PySem.W.Frag} {H : Hp} {a b c : Addr} {xs ys : List Int} (h : SqL K H a [V.ref b, V.ref c]) (hb : SqL K H b (xs.map V.int)) (hc : SqL K H c (ys.map V.int)) : Dp K H (.ref a) (.list ([xs, ys].map rowD)) :=
  .lst h (.cons (dp_ints hb) (.cons (dp_ints hc) .nil))
/-! xs[i] op= e, i not below 0 -/
def rGetL (K : PySem.W.Frag) : V → V → Hp → VK → Prop := fun x y H Q => ∃ (p : Addr) (xs : List V) (i : Int) (j : Nat) (v : V), x = .ref p ∧ y = .int i ∧ i = (j : Int) ∧ SqL K H p xs ∧ xs[j]? = some v ∧ Q v H
theorem pget_list {X : Cx} : PGet X (rGetL X.K) := by
  intro pins s σ H o i ov iv Q I ro ri h
  obtain ⟨p, xs, _, j, v, rfl, rfl, rfl, hS, hv, q⟩ := h
  cases ro
  obtain ⟨t, rfl⟩ := ri
  obtain ⟨its, r, pl, hz⟩ := I.list hS
  obtain ⟨u, hu, ru⟩ := r.get hv
  have hl : j < xs.length := (List.getElem?_eq_some_iff.mp hv).1
  have hn := line63
  exact PySem.wpAny_getItem_list pl.isList (by omega) (by omega) (by rw [Int.toNat_natCast]; simpa using hu) ⟨v, H, I, ru, q⟩
theorem rep_zero (n : Nat) : (List.replicate n [V.int 0]).flatten = (List.replicate n (0 : Int)).map V.int := by
  induction n with
  | zero => rfl
  | succ n ih => rw [List.replicate_succ, List.flatten_cons, ih, List.replicate_succ]; rfl
theorem pev_rep (n : Nat) (x : Zp) : pev (List.replicate n (0 : Int)) x = 0 := pev_zeros (fun w m => by rw [(List.mem_replicate.mp m).2]; exact z_zero) x
theorem ixN_nat {n j : Nat} (h : j < n) : ixN n (j : Int) = some j := by
  unfold ixN
  rw [if_pos (by omega), if_pos (by omega), Int.toNat_natCast]
/-! lines of a system of equations -/
theorem sumR_add : ∀ (n : Nat) (f g : Nat → Zp), sumR n (fun i => f i + g i) = sumR n f + sumR n g
  | 0, _, _ => by show (0 : Zp) = 0 + 0; grind
  | n + 1, f, g => by
    show sumR n (fun i => f i + g i) + (f n + g n) = (sumR n f + f n) + (sumR n g + g n)
    rw [sumR_add n f g]
    grind
theorem sumR_mul : ∀ (n : Nat) (f : Nat → Zp) (a : Zp), sumR n (fun i => f i * a) = sumR n f * a
  | 0, _, _ => by show (0 : Zp) = 0 * _; grind
  | n + 1, f, a => by
    show sumR n (fun i => f i * a) + f n * a = (sumR n f + f n) * a
    rw [sumR_mul n f a]
    grind
theorem sumR_swap : ∀ (n m : Nat) (f : Nat → Nat → Zp), sumR n (fun i => sumR m fun j => f i j) = sumR m fun j => sumR n fun i => f i j
  | 0, m, f => (sumR_zero fun _ _ => rfl).symm
  | n + 1, m, f => by
    show sumR n (fun i => sumR m fun j => f i j) + sumR m (f n) = sumR m fun j => sumR n (fun i => f i j) + f n j
    rw [sumR_swap n m f, ← sumR_add]
/-- a line's number in a column -/
def col (l : List Int) (c : Nat) : Zp := z (l.getD c 0)
def scaleL (l : List Int) (s : Int) : List Int := l.map fun w => w * s % 65521
def subL (l : List Int) (c : Nat) (p : List Int) : List Int := (List.range l.length).map fun i => (l.getD i 0 - l.getD c 0 * p.getD i 0) % 65521
theorem col_out {l : List Int} {c : Nat} (h : l.length ≤ c) : col l c = 0 := by
  unfold col
  rw [List.getD_eq_getElem?_getD, List.getElem?_eq_none h]
  exact z_zero
theorem col_in {l : List Int} {c : Nat} {w : Int} (h : l[c]? = some w) : col l c = z w := by
  unfold col
  rw [getD_item h]
theorem col_scale (l : List Int) (s : Int) (c : Nat) : col (scaleL l s) c = col l c * z s := by
  by_cases h : c < l.length
  · have e : l[c]? = some l[c] := List.getElem?_eq_getElem h
    rw [col_in e, col_in (l := scaleL l s) (w := l[c] * s % 65521) (by unfold scaleL; rw [List.getElem?_map, e]; rfl), z_mod, z_mul]
  · rw [col_out (l := l) (by omega), col_out (l := scaleL l s) (by unfold scaleL; rw [List.length_map]; omega)]
    grind
theorem col_sub {l p : List Int} (hl : p.length = l.length) (k c : Nat) : col (subL l k p) c = col l c - col l k * col p c := by
  by_cases h : c < l.length
  · have e : l[c]? = some l[c] := List.getElem?_eq_getElem h
    have e2 : p[c]? = some p[c] := List.getElem?_eq_getElem (by omega)
    have e3 : (subL l k p)[c]? = some ((l[c] - l.getD k 0 * p[c]) % 65521) := by
      unfold subL
      rw [List.getElem?_map, List.getElem?_range h]
      show some ((l.getD c 0 - l.getD k 0 * p.getD c 0) % 65521) = _
      rw [getD_item e, getD_item e2]
    rw [col_in e, col_in e2, col_in e3, z_mod, z_sub, z_mul]
    rfl
  · rw [col_out (l := l) (by omega), col_out (l := p) (by omega), col_out (l := subL l k p) (by unfold subL; simp; omega)]
    grind
theorem scaleL_len (l : List Int) (s : Int) : (scaleL l s).length = l.length := by simp [scaleL]
theorem subL_len (l : List Int) (c : Nat) (p : List Int) : (subL l c p).length = l.length := by simp [subL]
theorem scaleL_wd (l : List Int) (s : Int) : ∀ w ∈ scaleL l s, Wd w := fun w m => by
  obtain ⟨u, _, rfl⟩ := List.mem_map.mp m
  exact ⟨Int.emod_nonneg _ (by decide), Int.emod_lt_of_pos _ (by decide)⟩
theorem subL_wd (l : List Int) (c : Nat) (p : List Int) : ∀ w ∈ subL l c p, Wd w := fun w m => by
  obtain ⟨u, _, rfl⟩ := List.mem_map.mp m
  exact ⟨Int.emod_nonneg _ (by decide), Int.emod_lt_of_pos _ (by decide)⟩
/-- the line is the sum of the system's rows by its last words -/
def Comb (A : Nat → Nat → Zp) (n C : Nat) (l : List Int) : Prop := ∀ c, c ≤ C → col l c = sumR n fun k => col l (C + 1 + k) * A k c
/-- x solves the line -/
def Sat (C : Nat) (l : List Int) (x : Nat → Zp) : Prop := sumR C (fun c => col l c * x c) = col l C
theorem Comb.scale {A : Nat → Nat → Zp} {n C : Nat} {l : List Int} (h : Comb A n C l) (s : Int) : Comb A n C (scaleL l s) := fun c hc => by
  rw [col_scale, h c hc, ← sumR_mul]
  refine sumR_ext fun k _ => ?_
  rw [col_scale]
  grind
theorem Comb.sub {A : Nat → Nat → Zp} {n C : Nat} {l p : List Int} (h : Comb A n C l) (hp : Comb A n C p) (hl : p.length = l.length) (k : Nat) : Comb A n C (subL l k p) := fun c hc => by
  rw [col_sub hl, h c hc, hp c hc]
  have e : (sumR n fun i => col (subL l k p) (C + 1 + i) * A i c) = sumR n (fun i => col l (C + 1 + i) * A i c) + sumR n (fun i => (col p (C + 1 + i) * A i c) * (-col l k)) := by
    rw [← sumR_add]
    refine sumR_ext fun i _ => ?_
    rw [col_sub hl]
    grind
  rw [e, sumR_mul]
  grind
theorem Sat.unscale {C : Nat} {l : List Int} {s : Int} {x : Nat → Zp} {t : Zp} (ht : z s * t = 1) (h : Sat C (scaleL l s) x) : Sat C l x := by
  unfold Sat at h ⊢
  rw [col_scale] at h
  have e : sumR C (fun c => col (scaleL l s) c * x c) = sumR C (fun c => col l c * x c) * z s := by
    rw [← sumR_mul]
    refine sumR_ext fun c _ => ?_
    rw [col_scale]
    grind
  rw [e] at h
  generalize sumR C (fun c => col l c * x c) = S at h ⊢
  grind
theorem Sat.unsub {C : Nat} {l p : List Int} {k : Nat} {x : Nat → Zp} (hl : p.length = l.length) (h : Sat C (subL l k p) x) (hp : Sat C p x) : Sat C l x := by
  unfold Sat at h hp ⊢
  rw [col_sub hl] at h
  have e : sumR C (fun c => col (subL l k p) c * x c) = sumR C (fun c => col l c * x c) + sumR C (fun c => col p c * x c) * (-col l k) := by
    rw [← sumR_mul, ← sumR_add]
    refine sumR_ext fun c _ => ?_
    rw [col_sub hl]
    grind
  rw [e, hp] at h
  generalize sumR C (fun c => col l c * x c) = S at h ⊢
  grind
/-! one elimination -/
noncomputable def pivL (Ls : List (List Int)) (ch c : Nat) : List Int := scaleL (Ls.getD ch []) (invP ((Ls.getD ch []).getD c 0))
/-- the line that stands at a place when two were exchanged -/
def swL (Ls : List (List Int)) (t ch a : Nat) : List Int := if a = ch then Ls.getD t [] else Ls.getD a []
noncomputable def elimL (Ls : List (List Int)) (t ch c a : Nat) : List Int := if a = t then pivL Ls ch c else subL (swL Ls t ch a) c (pivL Ls ch c)
noncomputable def elimM (Ls : List (List Int)) (t ch c : Nat) : List (List Int) := (List.range Ls.length).map fun a => elimL Ls t ch c a
structure Ech (A : Nat → Nat → Zp) (n C c : Nat) (ps : List Nat) (Ls : List (List Int)) : Prop where
  len : Ls.length = n
  wid : ∀ l ∈ Ls, l.length = C + 1 + n ∧ ∀ w ∈ l, Wd w
  comb : ∀ l ∈ Ls, Comb A n C l
  back : ∀ x : Nat → Zp, (∀ l ∈ Ls, Sat C l x) → ∀ k, k < n → sumR C (fun j => A k j * x j) = A k C
  rank : ps.length ≤ n
  below : ∀ p ∈ ps, p < c
  unit : ∀ (i j p : Nat), i < ps.length → ps[j]? = some p → col (Ls.getD i []) p = if i = j then 1 else 0
  zero : ∀ (i j : Nat), ps.length ≤ i → i < n → j < c → col (Ls.getD i []) j = 0
theorem getD_mem {Ls : List (List Int)} {i : Nat} (h : i < Ls.length) : Ls.getD i [] ∈ Ls := by
  rw [List.getD_eq_getElem?_getD, List.getElem?_eq_getElem h]
  exact List.getElem_mem h
theorem elimM_get {Ls : List (List Int)} {t ch c i : Nat} (h : i < Ls.length) : (elimM Ls t ch c).getD i [] = elimL Ls t ch c i := by
  unfold elimM
  rw [List.getD_eq_getElem?_getD, List.getElem?_map, List.getElem?_range h]
  rfl
theorem swL_mem {Ls : List (List Int)} {t ch a : Nat} (ht : t < Ls.length) (ha : a < Ls.length) : swL Ls t ch a ∈ Ls := by
  unfold swL
  split
  · exact getD_mem ht
  · exact getD_mem ha
theorem Ech.skip {A : Nat → Nat → Zp} {n C c : Nat} {ps : List Nat} {Ls : List (List Int)} (h : Ech A n C c ps Ls) (hz : ∀ i, ps.length ≤ i → i < n → col (Ls.getD i []) c = 0) : Ech A n C (c + 1) ps Ls where
  len := h.len
  wid := h.wid
  comb := h.comb
  back := h.back
  rank := h.rank
  below := fun p m => Nat.lt_succ_of_lt (h.below p m)
  unit := h.unit
  zero := fun i j h1 h2 h3 => by
    by_cases e : j = c
    · rw [e]; exact hz i h1 h2
    · exact h.zero i j h1 h2 (by omega)
theorem Ech.step {A : Nat → Nat → Zp} {n C c : Nat} {ps : List Nat} {Ls : List (List Int)} {ch : Nat} (h : Ech A n C c ps Ls) (hc : ps.length ≤ ch) (hn : ch < n) (hz : col (Ls.getD ch []) c ≠ 0) : Ech A n C (c + 1) (ps ++ [c]) (elimM Ls ps.length ch c) := by
  have hl := h.len
  have mch := getD_mem (Ls := Ls) (i := ch) (by omega)
  have inv1 : col (Ls.getD ch []) c * z (invP ((Ls.getD ch []).getD c 0)) = 1 := z_invP hz
  have plen : (pivL Ls ch c).length = C + 1 + n := by unfold pivL; rw [scaleL_len]; exact (h.wid _ mch).1
  have pcomb : Comb A n C (pivL Ls ch c) := (h.comb _ mch).scale _
  have pone : col (pivL Ls ch c) c = 1 := by unfold pivL; rw [col_scale]; exact inv1
  have pzero : ∀ j, j < c → col (pivL Ls ch c) j = 0 := fun j hj => by
    unfold pivL
    rw [col_scale, h.zero ch j hc hn hj]
    grind
  have slen : ∀ a, a < n → (pivL Ls ch c).length = (swL Ls ps.length ch a).length := fun a ha => by
    rw [plen, (h.wid _ (swL_mem (by omega) (by omega))).1]
  have got : ∀ i, i < n → (elimM Ls ps.length ch c).getD i [] = elimL Ls ps.length ch c i := fun i hi => elimM_get (by omega)
  have mem : ∀ l ∈ elimM Ls ps.length ch c, ∃ a, a < n ∧ l = elimL Ls ps.length ch c a := fun l m => by
    obtain ⟨a, ha, rfl⟩ := List.mem_map.mp m
    have := List.mem_range.mp ha
    exact ⟨a, by omega, rfl⟩
  have mem' : ∀ a, a < n → elimL Ls ps.length ch c a ∈ elimM Ls ps.length ch c := fun a ha => List.mem_map.mpr ⟨a, List.mem_range.mpr (by omega), rfl⟩
  have eat : ∀ a, a ≠ ps.length → elimL Ls ps.length ch c a = subL (swL Ls ps.length ch a) c (pivL Ls ch c) := fun a ha => if_neg ha
  have et : elimL Ls ps.length ch c ps.length = pivL Ls ch c := if_pos rfl
  -- a line's column behind the step
  have colv : ∀ a j, a < n → a ≠ ps.length → col (elimL Ls ps.length ch c a) j = col (swL Ls ps.length ch a) j - col (swL Ls ps.length ch a) c * col (pivL Ls ch c) j := fun a j ha hne => by
    rw [eat a hne, col_sub (slen a ha)]
  have swz : ∀ a j, ps.length < a → a < n → j < c → col (swL Ls ps.length ch a) j = 0 := fun a j h1 h2 h3 => by
    unfold swL
    split
    · exact h.zero _ _ (Nat.le_refl _) (by omega) h3
    · exact h.zero _ _ (by omega) h2 h3
  refine ⟨?_, ?_, ?_, ?_, ?_, ?_, ?_, ?_⟩
  · unfold elimM
    simp [hl]
  · intro l m
    obtain ⟨a, ha, rfl⟩ := mem l m
    by_cases e : a = ps.length
    · subst e
      rw [et]
      exact ⟨plen, scaleL_wd _ _⟩
    · rw [eat a e]
      exact ⟨by rw [subL_len, ← slen a ha, plen], subL_wd _ _ _⟩
  · intro l m
    obtain ⟨a, ha, rfl⟩ := mem l m
    by_cases e : a = ps.length
    · subst e
      rw [et]
      exact pcomb
    · rw [eat a e]
      exact (h.comb _ (swL_mem (by omega) (by omega))).sub pcomb (slen a ha) c
  · intro x hx
    refine h.back x fun l m => ?_
    have sp := hx _ (mem' ps.length (by omega))
    rw [et] at sp
    obtain ⟨i, hi, rfl⟩ := List.mem_iff_getElem.mp m
    have gi : Ls.getD i [] = Ls[i] := getD_item (List.getElem?_eq_getElem hi)
    -- where does line i stand behind the exchange
    have via : ∀ a, a < n → a ≠ ps.length → Sat C (swL Ls ps.length ch a) x := fun a ha hne => by
      have := hx _ (mem' a ha)
      rw [eat a hne] at this
      exact Sat.unsub (slen a ha) this sp
    have sch : Sat C (Ls.getD ch []) x := Sat.unscale (t := col (Ls.getD ch []) c) (by rw [← inv1]; grind) sp
    by_cases e1 : i = ch
    · subst e1
      rw [← gi]
      exact sch
    · by_cases e2 : i = ps.length
      · subst e2
        by_cases e3 : ch = ps.length
        · exact absurd e3.symm e1
        · have := via ch hn e3
          unfold swL at this
          rw [if_pos rfl] at this
          rw [← gi]
          exact this
      · have := via i (by omega) e2
        unfold swL at this
        rw [if_neg e1] at this
        rw [← gi]
        exact this
  · rw [List.length_append, List.length_singleton]
    omega
  · intro p m
    rcases List.mem_append.mp m with m | m
    · exact Nat.lt_succ_of_lt (h.below p m)
    · have : p = c := by simpa using m
      omega
  · intro i j p hi hj
    rw [List.length_append, List.length_singleton] at hi
    rw [got i (by omega)]
    by_cases jn : j < ps.length
    · rw [List.getElem?_append_left jn] at hj
      have pc := h.below p (List.mem_of_getElem? hj)
      by_cases e : i = ps.length
      · subst e
        rw [et, pzero p pc, if_neg (by omega)]
      · rw [colv i p (by omega) e, pzero p pc]
        have : swL Ls ps.length ch i = Ls.getD i [] := if_neg (by omega)
        rw [this, h.unit i j p (by omega) hj]
        grind
    · rw [List.getElem?_append_right (by omega)] at hj
      have lj := item_lt hj
      rw [List.length_singleton] at lj
      have ej : j = ps.length := by omega
      subst ej
      rw [Nat.sub_self] at hj
      have : c = p := Option.some.inj hj
      subst this
      by_cases e : i = ps.length
      · subst e
        rw [et, pone, if_pos rfl]
      · rw [colv i c (by omega) e, pone, if_neg e]
        grind
  · intro i j h1 h2 h3
    rw [List.length_append, List.length_singleton] at h1
    rw [got i h2, colv i j h2 (by omega)]
    by_cases e : j = c
    · subst e
      rw [pone]
      grind
    · rw [pzero j (by omega), swz i j (by omega) h2 (by omega)]
      grind
/-! the system, its first lines, its end -/
def sysA (rows : List (List Int)) (right : List Int) (C : Nat) : Nat → Nat → Zp := fun k c => if c < C then col (rows.getD k []) c else z (right.getD k 0)
def combL (rows : List (List Int)) (right : List Int) (n k : Nat) : List Int := (rows.getD k [] ++ [right.getD k 0] ++ (List.replicate n (0 : Int)).set k 1).map (· % 65521)
theorem col_map (l : List Int) (c : Nat) : col (l.map (· % 65521)) c = col l c := by
  by_cases h : c < l.length
  · have e : l[c]? = some l[c] := List.getElem?_eq_getElem h
    rw [col_in e, col_in (l := l.map (· % 65521)) (w := l[c] % 65521) (by rw [List.getElem?_map, e]; rfl), z_mod]
  · rw [col_out (l := l) (by omega), col_out (l := l.map (· % 65521)) (by rw [List.length_map]; omega)]
theorem combL_col {rows : List (List Int)} {right : List Int} {C n k : Nat} (hr : (rows.getD k []).length = C) : (∀ c, c ≤ C → col (combL rows right n k) c = sysA rows right C k c) ∧ ∀ i, i < n → col (combL rows right n k) (C + 1 + i) = if i = k then 1 else 0 := by
  refine ⟨fun c hc => ?_, fun i hi => ?_⟩
  · unfold combL sysA
    rw [col_map]
    by_cases h : c < C
    · rw [if_pos h]
      have e : (rows.getD k [])[c]? = some (rows.getD k [])[c] := List.getElem?_eq_getElem (by omega)
      rw [col_in e, col_in (w := (rows.getD k [])[c])]
      rw [List.append_assoc, List.getElem?_append_left (by omega)]
      exact e
    · rw [if_neg h, col_in (w := right.getD k 0)]
      rw [List.append_assoc, List.getElem?_append_right (by omega), hr, show c - C = 0 by omega]
      rfl
  · unfold combL
    rw [col_map]
    rw [col_in (w := if i = k then 1 else 0)]
    · split
      · exact z_one
      · exact z_zero
    · rw [List.getElem?_append_right (by rw [List.length_append, List.length_singleton]; omega), List.length_append, List.length_singleton, hr, show C + 1 + i - (C + 1) = i by omega, List.getElem?_set]
      by_cases e : k = i
      · subst e
        rw [if_pos rfl, if_pos (by simpa using hi), if_pos rfl]
      · rw [if_neg e, if_neg (fun q => e q.symm), List.getElem?_replicate, if_pos hi]
theorem Ech.start {rows : List (List Int)} {right : List Int} {C n : Nat} (hr : ∀ k, k < n → (rows.getD k []).length = C) : Ech (sysA rows right C) n C 0 [] ((List.range n).map (combL rows right n)) where
  len := by simp
  wid := fun l m => by
    obtain ⟨k, hk, rfl⟩ := List.mem_map.mp m
    have := hr k (List.mem_range.mp hk)
    refine ⟨by unfold combL; simp only [List.length_map, List.length_append, List.length_singleton, List.length_set, List.length_replicate]; omega, fun w mw => ?_⟩
    unfold combL at mw
    obtain ⟨u, _, rfl⟩ := List.mem_map.mp mw
    exact ⟨Int.emod_nonneg _ (by decide), Int.emod_lt_of_pos _ (by decide)⟩
  comb := fun l m => by
    obtain ⟨k, hk, rfl⟩ := List.mem_map.mp m
    have hk' := List.mem_range.mp hk
    obtain ⟨h1, h2⟩ := combL_col (rows := rows) (right := right) (n := n) (hr k hk')
    intro c hc
    rw [h1 c hc, sumR_one (j := k) hk' fun i hi ne => by rw [h2 i hi, if_neg ne]; grind]
    rw [h2 k hk', if_pos rfl]
    grind
  back := fun x hx k hk => by
    obtain ⟨h1, h2⟩ := combL_col (rows := rows) (right := right) (n := n) (hr k hk)
    have := hx _ (List.mem_map.mpr ⟨k, List.mem_range.mpr hk, rfl⟩)
    unfold Sat at this
    rw [h1 C (Nat.le_refl _)] at this
    rw [← this]
    exact sumR_ext fun j hj => by rw [h1 j (by omega)]
  rank := Nat.zero_le _
  below := fun _ m => nomatch m
  unit := fun i j p hi => absurd hi (by simp)
  zero := fun i j _ _ hj => absurd hj (by omega)
theorem Ech.apart {A : Nat → Nat → Zp} {n C c : Nat} {ps : List Nat} {Ls : List (List Int)} (h : Ech A n C c ps Ls) {i j p : Nat} (hi : ps[i]? = some p) (hj : ps[j]? = some p) : i = j := by
  refine Classical.byContradiction fun ne => ?_
  have h1 := h.unit i i p (item_lt hi) hi
  have h2 := h.unit i j p (item_lt hi) hj
  rw [if_pos rfl] at h1
  rw [if_neg ne, h1] at h2
  exact zp_01 h2
/-- the sum when one unknown gets a number -/
theorem sum_put {C p : Nat} {a x y : Nat → Zp} {v : Zp} (hp : p < C) (h0 : x p = 0) (h1 : y p = v) (h2 : ∀ c, c ≠ p → y c = x c) : sumR C (fun c => a c * y c) = sumR C (fun c => a c * x c) + a p * v := by
  have e : sumR C (fun c => a c * y c) = sumR C (fun c => a c * x c) + sumR C (fun c => a c * (y c - x c)) := by
    rw [← sumR_add]
    exact sumR_ext fun c _ => by grind
  rw [e, sumR_one (f := fun c => a c * (y c - x c)) hp fun i _ ne => by show a i * (y i - x i) = 0; rw [h2 i ne]; grind]
  show _ + a p * (y p - x p) = _
  rw [h0, h1]
  grind
/-- the pivots' numbers solve the system -/
theorem Ech.solves {A : Nat → Nat → Zp} {n C : Nat} {ps : List Nat} {Ls : List (List Int)} (h : Ech A n C C ps Ls) (hz : ∀ i, ps.length ≤ i → i < n → col (Ls.getD i []) C = 0) {x : Nat → Zp}
    (hx : ∀ l : List Int, sumR C (fun c => col l c * x c) = sumR ps.length fun j => col l (ps.getD j 0) * col (Ls.getD j []) C) : ∀ k, k < n → sumR C (fun j => A k j * x j) = A k C := by
  refine h.back x fun l m => ?_
  obtain ⟨i, hi, rfl⟩ := List.mem_iff_getElem.mp m
  have hl := h.len
  have gi : Ls.getD i [] = Ls[i] := getD_item (List.getElem?_eq_getElem hi)
  by_cases q : i < ps.length
  · unfold Sat
    rw [hx, ← gi, sumR_one q fun j hj ne => ?_]
    · have e : ps[i]? = some ps[i] := List.getElem?_eq_getElem q
      rw [getD_item e, h.unit i i _ q e, if_pos rfl]
      grind
    · have e : ps[j]? = some ps[j] := List.getElem?_eq_getElem hj
      rw [getD_item e, h.unit i j _ q e, if_neg (fun z' => ne z'.symm)]
      grind
  · unfold Sat
    rw [← gi, hz i (by omega) (by omega)]
    exact sumR_zero fun c hc => by rw [h.zero i c (by omega) (by omega) hc]; grind
/-- where things stand -/
structure Ad where
  f_inverse : Addr
  d_inverse : FuncData
  f_check_system : Addr
  d_check_system : FuncData
  f_combination : Addr
  d_combination : FuncData
  f_pivot_index : Addr
  d_pivot_index : FuncData
  f_without : Addr
  d_without : FuncData
  f_eliminate : Addr
  d_eliminate : FuncData
  f_reduce_lines : Addr
  d_reduce_lines : FuncData
  f_solve : Addr
  d_solve : FuncData
  f_law_pot : Addr
  d_law_pot : FuncData
  f_law_next : Addr
  d_law_next : FuncData
  f_law_word : Addr
  d_law_word : FuncData
  f_law_words : Addr
  d_law_words : FuncData
  f_law_is_words : Addr
  d_law_is_words : FuncData
  f_law_refused : Addr
  d_law_refused : FuncData
  f_law_dot : Addr
  d_law_dot : FuncData
  f_law_rows : Addr
  d_law_rows : FuncData
  f_law : Addr
  d_law : FuncData
  c_PoolError : Addr
  c_InvalidArgument : Addr
/-- what the top has written -/
structure Txt (K : PySem.W.Frag) (mg : Str → Option Value) (a : Ad) : Prop where
  F_inverse : Fun K "inverse" "inverse" s_inverse a.f_inverse a.d_inverse
  g_inverse : mg "inverse" = some (.ref a.f_inverse)
  d_inverse : Binds K a.d_inverse ["a"] []
  F_check_system : Fun K "check_system" "check_system" s_check_system a.f_check_system a.d_check_system
  g_check_system : mg "check_system" = some (.ref a.f_check_system)
  d_check_system : Binds K a.d_check_system ["rows", "right"] []
  F_combination : Fun K "combination" "combination" s_combination a.f_combination a.d_combination
  g_combination : mg "combination" = some (.ref a.f_combination)
  d_combination : Binds K a.d_combination ["rows", "right", "at"] []
  F_pivot_index : Fun K "pivot_index" "pivot_index" s_pivot_index a.f_pivot_index a.d_pivot_index
  g_pivot_index : mg "pivot_index" = some (.ref a.f_pivot_index)
  d_pivot_index : Binds K a.d_pivot_index ["lines", "first", "column"] []
  F_without : Fun K "without" "without" s_without a.f_without a.d_without
  g_without : mg "without" = some (.ref a.f_without)
  d_without : Binds K a.d_without ["line", "column", "pivot"] []
  F_eliminate : Fun K "eliminate" "eliminate" s_eliminate a.f_eliminate a.d_eliminate
  g_eliminate : mg "eliminate" = some (.ref a.f_eliminate)
  d_eliminate : Binds K a.d_eliminate ["lines", "target", "chosen", "column"] []
  F_reduce_lines : Fun K "reduce_lines" "reduce_lines" s_reduce_lines a.f_reduce_lines a.d_reduce_lines
  g_reduce_lines : mg "reduce_lines" = some (.ref a.f_reduce_lines)
  d_reduce_lines : Binds K a.d_reduce_lines ["lines", "columns"] []
  F_solve : Fun K "solve" "solve" s_solve a.f_solve a.d_solve
  g_solve : mg "solve" = some (.ref a.f_solve)
  d_solve : Binds K a.d_solve ["rows", "right"] []
  F_law_pot : Fun K "_law_pot" "_law_pot" s_law_pot a.f_law_pot a.d_law_pot
  g_law_pot : mg "_law_pot" = some (.ref a.f_law_pot)
  d_law_pot : Binds K a.d_law_pot ["script"] []
  F_law_next : Fun K "_law_next" "_law_next" s_law_next a.f_law_next a.d_law_next
  g_law_next : mg "_law_next" = some (.ref a.f_law_next)
  d_law_next : Binds K a.d_law_next ["pot", "limit"] []
  F_law_word : Fun K "_law_word" "_law_word" s_law_word a.f_law_word a.d_law_word
  g_law_word : mg "_law_word" = some (.ref a.f_law_word)
  d_law_word : Binds K a.d_law_word ["pot"] []
  F_law_words : Fun K "_law_words" "_law_words" s_law_words a.f_law_words a.d_law_words
  g_law_words : mg "_law_words" = some (.ref a.f_law_words)
  d_law_words : Binds K a.d_law_words ["pot", "count"] []
  F_law_is_words : Fun K "_law_is_words" "_law_is_words" s_law_is_words a.f_law_is_words a.d_law_is_words
  g_law_is_words : mg "_law_is_words" = some (.ref a.f_law_is_words)
  d_law_is_words : Binds K a.d_law_is_words ["value", "count"] []
  F_law_refused : Fun K "_law_refused" "_law_refused" s_law_refused a.f_law_refused a.d_law_refused
  g_law_refused : mg "_law_refused" = some (.ref a.f_law_refused)
  d_law_refused : Binds K a.d_law_refused ["rows", "right"] []
  F_law_dot : Fun K "_law_dot" "_law_dot" s_law_dot a.f_law_dot a.d_law_dot
  g_law_dot : mg "_law_dot" = some (.ref a.f_law_dot)
  d_law_dot : Binds K a.d_law_dot ["first", "second"] []
  F_law_rows : Fun K "_law_rows" "_law_rows" s_law_rows a.f_law_rows a.d_law_rows
  g_law_rows : mg "_law_rows" = some (.ref a.f_law_rows)
  d_law_rows : Binds K a.d_law_rows ["pot", "count", "columns"] []
  F_law : Fun K "law" "law" s_law a.f_law a.d_law
  g_law : mg "law" = some (.ref a.f_law)
  d_law : Binds K a.d_law ["script"] []
  g_PRIME : ∃ u, mg "PRIME" = some u ∧ RelV (.int 65521) u
  n_len : mg "len" = none
  n_range : mg "range" = none
  n_zip : mg "zip" = none
  n_enumerate : mg "enumerate" = none
  n_list : mg "list" = none
  n_int : mg "int" = none
  n_abs : mg "abs" = none
  n_isinstance : mg "isinstance" = none
  n_bool : mg "bool" = none
  n_tuple : mg "tuple" = none
  g_PoolError : mg "PoolError" = some (.ref a.c_PoolError)
  x_PoolError : PySem.W.excIn K a.c_PoolError [.type "ValueError", .type "Exception", .type "BaseException", .type "object"] "ValueError.__new__" = true
  k_PoolError : PySem.W.keepIn K (.ref a.c_PoolError) = true
  b_PoolError : PySem.W.subIn K (.ref a.c_PoolError) (.type "BaseException") = some true
  t_PoolError : PySem.W.typeIn K (.ref a.c_PoolError) = some (.type "type")
  E_PoolError : ExcC K a.c_PoolError
  g_InvalidArgument : mg "InvalidArgument" = some (.ref a.c_InvalidArgument)
  x_InvalidArgument : PySem.W.excIn K a.c_InvalidArgument [.type "ValueError", .type "Exception", .type "BaseException", .type "object"] "ValueError.__new__" = true
  k_InvalidArgument : PySem.W.keepIn K (.ref a.c_InvalidArgument) = true
  b_InvalidArgument : PySem.W.subIn K (.ref a.c_InvalidArgument) (.type "BaseException") = some true
  t_InvalidArgument : PySem.W.typeIn K (.ref a.c_InvalidArgument) = some (.type "type")
  E_InvalidArgument : ExcC K a.c_InvalidArgument
  u_InvalidArgument_PoolError : PySem.W.exmOne K (.ref a.c_InvalidArgument) (.ref a.c_PoolError) = some true
  i_InvalidArgument_InvalidArgument : PySem.W.kitOne K (.ref a.c_InvalidArgument) (.ref a.c_InvalidArgument) = some true
/-! the promises -/
/-! the draws: a list of the script, a place in it, a rest, a seed -/
/-- at p stands a pot, its script's list at l -/
def Pot (H : Hp) (p l : Addr) : Prop := ∃ (ns : List Int) (i acc seed : Int), H p = some (.lst [.ref l, .int i, .int acc, .int seed]) ∧ H l = some (.lst (ns.map V.int)) ∧ 0 ≤ i ∧ 0 ≤ acc ∧ 0 ≤ seed ∧ seed < 2147483647
theorem Pot.ne {H : Hp} {p l : Addr} (h : Pot H p l) : l ≠ p := by
  obtain ⟨ns, i, acc, seed, h1, h2, _⟩ := h
  refine ne_of h2 h1 fun e => ?_
  have e1 := HO.lst.inj e
  cases ns with
  | nil => cases e1
  | cons a r => rw [List.map_cons] at e1; injection e1 with e2 _; cases e2
theorem Pot.same {H H' : Hp} {p l : Addr} (h : Pot H p l) (s : Same H H') : Pot H' p l := by
  obtain ⟨ns, i, acc, seed, h1, h2, h3⟩ := h
  exact ⟨ns, i, acc, seed, s _ _ h1, s _ _ h2, h3⟩
theorem Pot.only {H H' : Hp} {p l q : Addr} (h : Pot H p l) (s : Only q H H') (n1 : p ≠ q) (n2 : l ≠ q) : Pot H' p l := by
  obtain ⟨ns, i, acc, seed, h1, h2, h3⟩ := h
  exact ⟨ns, i, acc, seed, by rw [s _ n1]; exact h1, by rw [s _ n2]; exact h2, h3⟩
/-- a draw's answer below the limit -/
def sp_law_next (K : PySem.W.Frag) (a : Ad) : Sp := fun vs H Q _ => ∃ (p l : Addr) (m : Int), vs = [.ref p, .int m] ∧ Pot H p l ∧ 0 < m ∧ m < 1073741824 ∧
  ∀ (v : Int) (H' : Hp), 0 ≤ v → v < m → Pot H' p l → Only p H H' → Q (.int v) H'
theorem sp_law_next_len {K : PySem.W.Frag} {a : Ad} {vs : List V} {H : Hp} {Q : VK} {E : XK} (h : sp_law_next K a vs H Q E) : vs.length = 2 := by
  obtain ⟨p, l, m, rfl, _⟩ := h
  rfl
def sp_law_pot (K : PySem.W.Frag) (a : Ad) : Sp := fun vs H Q _ => ∃ (s : Addr) (ns : List Int), vs = [.ref s] ∧ SqL K H s (ns.map V.int) ∧ ns.length ≤ 1000 ∧
  ∀ (p l : Addr) (H' : Hp), H p = none → H l = none → Same H H' → Pot H' p l → Q (.ref p) H'
theorem sp_law_pot_len {K : PySem.W.Frag} {a : Ad} {vs : List V} {H : Hp} {Q : VK} {E : XK} (h : sp_law_pot K a vs H Q E) : vs.length = 1 := by
  obtain ⟨s, ns, rfl, _⟩ := h
  rfl
/-- the law itself: True at every script -/
def sp_law0 (K : PySem.W.Frag) : Sp := fun vs H Q _ => ∃ (s : Addr) (ns : List Int), vs = [.ref s] ∧ SqL K H s (ns.map V.int) ∧ ns.length ≤ 63 ∧ ∀ H', Q (.bl true) H'
def sp_law (K : PySem.W.Frag) (a : Ad) : Sp := sp_law0 K
theorem sp_law_len {K : PySem.W.Frag} {a : Ad} {vs : List V} {H : Hp} {Q : VK} {E : XK} (h : sp_law K a vs H Q E) : vs.length = 1 := by
  obtain ⟨s, ns, rfl, _⟩ := h
  rfl
theorem int_item {ns : List Int} {i : Nat} {y : V} (h : (ns.map V.int)[i]? = some y) : ∃ z, ns[i]? = some z ∧ y = V.int z := by
  rw [List.getElem?_map] at h
  cases e : ns[i]? with
  | none => rw [e] at h; cases h
  | some z => rw [e] at h; exact ⟨z, rfl, (Option.some.inj h).symm⟩
/-- the pot's own object is no list of refs alone, no tuple -/
theorem Pot.list {H : Hp} {p l : Addr} (h : Pot H p l) : ∃ i acc seed : Int, H p = some (.lst [.ref l, .int i, .int acc, .int seed]) := by
  obtain ⟨ns, i, acc, seed, h1, _⟩ := h
  exact ⟨i, acc, seed, h1⟩
theorem But.seq {K : PySem.W.Frag} {H H' : Hp} {p a : Addr} {xs : List V} (b : But p H H') (n : a ≠ p) (h : SqL K H a xs) : SqL K H' a xs := by
  rcases h with (h | ⟨o, h⟩) | h
  · exact .inl (.inl (b _ _ h n))
  · exact .inl (.inr ⟨o, b _ _ h n⟩)
  · exact .inr h
theorem But.tup {K : PySem.W.Frag} {H H' : Hp} {p l a : Addr} {xs : List V} (P : Pot H p l) (b : But p H H') (h : SqT K H a xs) : SqT K H' a xs := by
  obtain ⟨i, acc, seed, hp⟩ := P.list
  rcases h with (h | ⟨o, h⟩) | h
  · exact .inl (.inl (b _ _ h (ne_of h hp (by intro q; cases q))))
  · exact .inl (.inr ⟨o, b _ _ h (ne_of h hp (by intro q; cases q))⟩)
  · exact .inr h
theorem Pot.noList {H : Hp} {p l a : Addr} (P : Pot H p l) {xs : List V} (h : H a = some (.lst xs)) (hx : ∀ i acc seed : Int, xs ≠ [.ref l, .int i, .int acc, .int seed]) : a ≠ p := by
  obtain ⟨i, acc, seed, hp⟩ := P.list
  exact ne_of h hp fun q => hx i acc seed (HO.lst.inj q)
theorem Pot.off {H : Hp} {p l q : Addr} (P : Pot H p l) (h : H q = none) : p ≠ q ∧ l ≠ q := by
  obtain ⟨_, _, _, _, g1, g2, _⟩ := P
  exact ⟨ne_of_none g1 h, ne_of_none g2 h⟩
theorem Pot.new {H : Hp} {p l q : Addr} {o : HO} (P : Pot H p l) (h : H q = none) : Pot (upd H q o) p l := P.same (Same.new h)
def sp_inverse (K : PySem.W.Frag) (a : Ad) : Sp := fun vs H Q E => ∃ x : Int, vs = [.int x] ∧ (x % 65521 = 0 → ∀ H', Same H H' → E (.ref a.c_InvalidArgument) none H') ∧ (x % 65521 ≠ 0 → ∀ H', Same H H' → Q (.int (invP x)) H')
theorem sp_inverse_len {K : PySem.W.Frag} {a : Ad} {vs : List V} {H : Hp} {Q : VK} {E : XK} (h : sp_inverse K a vs H Q E) : vs.length = 1 := by
  obtain ⟨x, rfl, _⟩ := h
  rfl
/-! words drawn, a polynomial's value -/
def sp_law_word (K : PySem.W.Frag) (a : Ad) : Sp := fun vs H Q _ => ∃ (p l : Addr), vs = [.ref p] ∧ Pot H p l ∧ ∀ (v : Int) (H' : Hp), Wd v → Pot H' p l → Only p H H' → Q (.int v) H'
theorem sp_law_word_len {K : PySem.W.Frag} {a : Ad} {vs : List V} {H : Hp} {Q : VK} {E : XK} (h : sp_law_word K a vs H Q E) : vs.length = 1 := by
  obtain ⟨p, l, rfl, _⟩ := h
  rfl
def sp_law_words (K : PySem.W.Frag) (a : Ad) : Sp := fun vs H Q _ => ∃ (p l : Addr) (n : Int), vs = [.ref p, .int n] ∧ Pot H p l ∧ 0 ≤ n ∧ n ≤ 500 ∧
  ∀ (D : Addr) (ws : List Int) (H' : Hp), ws.length = n.toNat → (∀ w ∈ ws, Wd w) → H D = none → H' D = some (.lst (ws.map V.int)) → But p H H' → Pot H' p l → Q (.ref D) H'
theorem sp_law_words_len {K : PySem.W.Frag} {a : Ad} {vs : List V} {H : Hp} {Q : VK} {E : XK} (h : sp_law_words K a vs H Q E) : vs.length = 2 := by
  obtain ⟨p, l, n, rfl, _⟩ := h
  rfl
/-! rows, lines: lists of lists -/
def refs (E : List (Addr × List Int)) : List V := E.map fun e => V.ref e.1
theorem refs_len (E : List (Addr × List Int)) : (refs E).length = E.length := by simp [refs]
theorem refs_get {E : List (Addr × List Int)} {i : Nat} {e : Addr × List Int} (h : E[i]? = some e) : (refs E)[i]? = some (V.ref e.1) := by unfold refs; rw [List.getElem?_map, h]; rfl
theorem refs_item {E : List (Addr × List Int)} {i : Nat} {y : V} (h : (refs E)[i]? = some y) : ∃ e, E[i]? = some e ∧ y = V.ref e.1 := by
  unfold refs at h
  rw [List.getElem?_map] at h
  cases q : E[i]? with
  | none => rw [q] at h; cases h
  | some e => rw [q] at h; exact ⟨e, rfl, (Option.some.inj h).symm⟩
/-- rows that are read -/
def RL (K : PySem.W.Frag) (H : Hp) (R : Addr) (E : List (Addr × List Int)) : Prop := SqL K H R (refs E) ∧ ∀ e ∈ E, SqL K H e.1 (e.2.map V.int)
theorem RL.same {K : PySem.W.Frag} {H H' : Hp} {R : Addr} {E : List (Addr × List Int)} (h : RL K H R E) (s : Same H H') : RL K H' R E := ⟨s.seq h.1, fun e m => s.seq (h.2 e m)⟩
/-- lines that are changed -/
def LA (H : Hp) (L : Addr) (E : List (Addr × List Int)) : Prop := H L = some (.lst (refs E)) ∧ ∀ e ∈ E, H e.1 = some (.lst (e.2.map V.int)) ∧ e.1 ≠ L
theorem LA.same {H H' : Hp} {L : Addr} {E : List (Addr × List Int)} (h : LA H L E) (s : Same H H') : LA H' L E := ⟨s _ _ h.1, fun e m => ⟨s _ _ (h.2 e m).1, (h.2 e m).2⟩⟩
theorem LA.put {H : Hp} {L : Addr} {E' : List (Addr × List Int)} (h : ∀ e ∈ E', H e.1 = some (.lst (e.2.map V.int)) ∧ e.1 ≠ L) : LA (upd H L (.lst (refs E'))) L E' := ⟨upd_same, fun e m => ⟨by rw [upd_ne (h e m).2]; exact (h e m).1, (h e m).2⟩⟩
theorem LA.rl {K : PySem.W.Frag} {H : Hp} {L : Addr} {E : List (Addr × List Int)} (h : LA H L E) : RL K H L E := ⟨SqL.of h.1, fun e m => SqL.of (h.2 e m).1⟩
def BadSys (rows : List (List Int)) (right : List Int) : Prop := rows = [] ∨ (∃ r ∈ rows, r.length ≠ (rows.getD 0 []).length) ∨ (rows.getD 0 []).length = 0 ∨ right.length ≠ rows.length
abbrev snds (E : List (Addr × List Int)) : List (List Int) := E.map (·.2)
theorem snds_get {E : List (Addr × List Int)} {i : Nat} {e : Addr × List Int} (h : E[i]? = some e) : (snds E).getD i [] = e.2 := getD_item (by rw [List.getElem?_map, h]; rfl)
theorem snds_len (E : List (Addr × List Int)) : (snds E).length = E.length := List.length_map _
def sp_check_system (K : PySem.W.Frag) (a : Ad) : Sp := fun vs H Q E => ∃ (R S : Addr) (F : List (Addr × List Int)) (right : List Int), vs = [.ref R, .ref S] ∧ RL K H R F ∧ SqL K H S (right.map V.int) ∧
  (BadSys (snds F) right → ∀ H', Same H H' → E (.ref a.c_InvalidArgument) none H') ∧ (¬ BadSys (snds F) right → ∀ H', Same H H' → Q .non H')
theorem sp_check_system_len {K : PySem.W.Frag} {a : Ad} {vs : List V} {H : Hp} {Q : VK} {E : XK} (h : sp_check_system K a vs H Q E) : vs.length = 2 := by
  obtain ⟨R, S, F, right, rfl, _⟩ := h
  rfl
def sp_combination (K : PySem.W.Frag) (a : Ad) : Sp := fun vs H Q _ => ∃ (R S : Addr) (F : List (Addr × List Int)) (right : List Int) (k : Nat), vs = [.ref R, .ref S, .int (k : Int)] ∧ RL K H R F ∧ SqL K H S (right.map V.int) ∧ k < F.length ∧ right.length = F.length ∧ F.length ≤ 20 ∧ ((snds F).getD k []).length ≤ 20 ∧
  ∀ (D : Addr) (H' : Hp), Same H H' → H D = none → H' D = some (.lst ((combL (snds F) right F.length k).map V.int)) → Q (.ref D) H'
theorem sp_combination_len {K : PySem.W.Frag} {a : Ad} {vs : List V} {H : Hp} {Q : VK} {E : XK} (h : sp_combination K a vs H Q E) : vs.length = 3 := by
  obtain ⟨R, S, F, right, k, rfl, _⟩ := h
  rfl
def sp_pivot_index (K : PySem.W.Frag) (a : Ad) : Sp := fun vs H Q _ => ∃ (L : Addr) (F : List (Addr × List Int)) (f c : Nat), vs = [.ref L, .int (f : Int), .int (c : Int)] ∧ RL K H L F ∧ F.length ≤ 50 ∧ f ≤ 50 ∧ (∀ l ∈ snds F, c < l.length ∧ ∀ w ∈ l, Wd w) ∧
  (∀ i : Nat, f ≤ i → i < F.length → col ((snds F).getD i []) c ≠ 0 → Q (.int (i : Int)) H) ∧ ((∀ i : Nat, f ≤ i → i < F.length → col ((snds F).getD i []) c = 0) → Q .non H)
theorem sp_pivot_index_len {K : PySem.W.Frag} {a : Ad} {vs : List V} {H : Hp} {Q : VK} {E : XK} (h : sp_pivot_index K a vs H Q E) : vs.length = 3 := by
  obtain ⟨L, F, f, c, rfl, _⟩ := h
  rfl
def sp_without (K : PySem.W.Frag) (a : Ad) : Sp := fun vs H Q _ => ∃ (d p : Addr) (l q : List Int) (c : Nat), vs = [.ref d, .int (c : Int), .ref p] ∧ SqL K H d (l.map V.int) ∧ SqL K H p (q.map V.int) ∧ q.length = l.length ∧ l.length ≤ 100 ∧ c < l.length ∧ (∀ w ∈ l, Wd w) ∧
  ∀ (D : Addr) (H' : Hp), Same H H' → H D = none → H' D = some (.lst ((subL l c q).map V.int)) → Q (.ref D) H'
theorem sp_without_len {K : PySem.W.Frag} {a : Ad} {vs : List V} {H : Hp} {Q : VK} {E : XK} (h : sp_without K a vs H Q E) : vs.length = 3 := by
  obtain ⟨d, p, l, q, c, rfl, _⟩ := h
  rfl
def sp_eliminate (K : PySem.W.Frag) (a : Ad) : Sp := fun vs H Q _ => ∃ (L : Addr) (F : List (Addr × List Int)) (t ch c m : Nat), vs = [.ref L, .int (t : Int), .int (ch : Int), .int (c : Int)] ∧ LA H L F ∧ F.length ≤ 50 ∧ t < F.length ∧ ch < F.length ∧ c < m ∧ m ≤ 100 ∧
  (∀ l ∈ snds F, l.length = m ∧ ∀ w ∈ l, Wd w) ∧ col ((snds F).getD ch []) c ≠ 0 ∧
  ∀ (F' : List (Addr × List Int)) (H' : Hp), But L H H' → LA H' L F' → snds F' = elimM (snds F) t ch c → Q .non H'
theorem sp_eliminate_len {K : PySem.W.Frag} {a : Ad} {vs : List V} {H : Hp} {Q : VK} {E : XK} (h : sp_eliminate K a vs H Q E) : vs.length = 4 := by
  obtain ⟨L, F, t, ch, c, m, rfl, _⟩ := h
  rfl
def sp_reduce_lines (K : PySem.W.Frag) (a : Ad) : Sp := fun vs H Q _ => ∃ (L : Addr) (F : List (Addr × List Int)) (A : Nat → Nat → Zp) (n C : Nat), vs = [.ref L, .int (C : Int)] ∧ LA H L F ∧ Ech A n C 0 [] (snds F) ∧ n ≤ 20 ∧ C ≤ 20 ∧
  ∀ (D : Addr) (ps : List Nat) (F' : List (Addr × List Int)) (H' : Hp), But L H H' → LA H' L F' → H D = none → H' D = some (.lst (ps.map fun (p : Nat) => V.int (p : Int))) → Ech A n C C ps (snds F') → Q (.ref D) H'
theorem sp_reduce_lines_len {K : PySem.W.Frag} {a : Ad} {vs : List V} {H : Hp} {Q : VK} {E : XK} (h : sp_reduce_lines K a vs H Q E) : vs.length = 2 := by
  obtain ⟨L, F, A, n, C, rfl, _⟩ := h
  rfl
/-- a solution, a refutation -/
def Fits (rows : List (List Int)) (right x : List Int) : Prop := ∀ k, k < rows.length → sumR x.length (fun j => col (rows.getD k []) j * col x j) = z (right.getD k 0)
def Refutes (rows : List (List Int)) (right f : List Int) (C : Nat) : Prop := (∀ j, j < C → sumR rows.length (fun k => col (rows.getD k []) j * col f k) = 0) ∧ sumR rows.length (fun k => z (right.getD k 0) * col f k) = 1
def sp_solve (K : PySem.W.Frag) (a : Ad) : Sp := fun vs H Q E => ∃ (R S : Addr) (F : List (Addr × List Int)) (right : List Int), vs = [.ref R, .ref S] ∧ RL K H R F ∧ SqL K H S (right.map V.int) ∧ F.length ≤ 20 ∧ ((snds F).getD 0 []).length ≤ 20 ∧
  (BadSys (snds F) right → ∀ H', Same H H' → E (.ref a.c_InvalidArgument) none H') ∧
  (¬ BadSys (snds F) right → (∀ (t D : Addr) (x : List Int) (H' : Hp), Same H H' → H' t = some (.tup [.ref D, .non]) → H' D = some (.lst (x.map V.int)) → x.length = ((snds F).getD 0 []).length → (∀ w ∈ x, Wd w) → Fits (snds F) right x → Q (.ref t) H') ∧
    (∀ (t D : Addr) (f : List Int) (H' : Hp), Same H H' → H' t = some (.tup [.non, .ref D]) → H' D = some (.lst (f.map V.int)) → f.length = F.length → (∀ w ∈ f, Wd w) → Refutes (snds F) right f ((snds F).getD 0 []).length → Q (.ref t) H'))
theorem sp_solve_len {K : PySem.W.Frag} {a : Ad} {vs : List V} {H : Hp} {Q : VK} {E : XK} (h : sp_solve K a vs H Q E) : vs.length = 2 := by
  obtain ⟨R, S, F, right, rfl, _⟩ := h
  rfl
def sp_law_is_words (K : PySem.W.Frag) (a : Ad) : Sp := fun vs H Q _ => ∃ (d : Addr) (r : List Int) (n : Int), vs = [.ref d, .int n] ∧ H d = some (.lst (r.map V.int)) ∧ (∀ w ∈ r, Wd w) ∧ (r.length : Int) = n ∧ Q (.bl true) H
theorem sp_law_is_words_len {K : PySem.W.Frag} {a : Ad} {vs : List V} {H : Hp} {Q : VK} {E : XK} (h : sp_law_is_words K a vs H Q E) : vs.length = 2 := by
  obtain ⟨d, r, n, rfl, _⟩ := h
  rfl
def sp_law_refused (K : PySem.W.Frag) (a : Ad) : Sp := fun vs H Q _ => ∃ (R S : Addr) (F : List (Addr × List Int)) (right : List Int), vs = [.ref R, .ref S] ∧ RL K H R F ∧ SqL K H S (right.map V.int) ∧ F.length ≤ 20 ∧ ((snds F).getD 0 []).length ≤ 20 ∧ BadSys (snds F) right ∧ ∀ H', Same H H' → Q (.bl true) H'
theorem sp_law_refused_len {K : PySem.W.Frag} {a : Ad} {vs : List V} {H : Hp} {Q : VK} {E : XK} (h : sp_law_refused K a vs H Q E) : vs.length = 2 := by
  obtain ⟨R, S, F, right, rfl, _⟩ := h
  rfl
def sp_law_dot (K : PySem.W.Frag) (a : Ad) : Sp := fun vs H Q _ => ∃ (d e : Addr) (f g : List Int), vs = [.ref d, .ref e] ∧ SqL K H d (f.map V.int) ∧ SqL K H e (g.map V.int) ∧ f.length ≤ g.length ∧ f.length ≤ 100 ∧ (∀ w ∈ f, Wd w) ∧
  ∀ v : Int, Wd v → z v = sumR f.length (fun k => col f k * col g k) → Q (.int v) H
theorem sp_law_dot_len {K : PySem.W.Frag} {a : Ad} {vs : List V} {H : Hp} {Q : VK} {E : XK} (h : sp_law_dot K a vs H Q E) : vs.length = 2 := by
  obtain ⟨d, e, f, g, rfl, _⟩ := h
  rfl
def sp_law_rows (K : PySem.W.Frag) (a : Ad) : Sp := fun vs H Q _ => ∃ (p l : Addr) (n C : Nat), vs = [.ref p, .int (n : Int), .int (C : Int)] ∧ Pot H p l ∧ n ≤ 10 ∧ C ≤ 10 ∧
  ∀ (D : Addr) (F : List (Addr × List Int)) (H' : Hp), F.length = n → (∀ e ∈ F, e.2.length = C ∧ ∀ w ∈ e.2, Wd w) → H D = none → LA H' D F → But p H H' → Pot H' p l → Q (.ref D) H'
theorem sp_law_rows_len {K : PySem.W.Frag} {a : Ad} {vs : List V} {H : Hp} {Q : VK} {E : XK} (h : sp_law_rows K a vs H Q E) : vs.length = 3 := by
  obtain ⟨p, l, n, C, rfl, _⟩ := h
  rfl
theorem ints_pot {l : Addr} {xs : List Int} {i acc seed : Int} : xs.map V.int ≠ [.ref l, .int i, .int acc, .int seed] := fun e => by
  cases xs with
  | nil => cases e
  | cons a r => rw [List.map_cons] at e; injection e with e1 _; cases e1
theorem LA.but {H H' : Hp} {p l L : Addr} {F : List (Addr × List Int)} (h : LA H L F) (P : Pot H p l) (n : L ≠ p) (b : But p H H') : LA H' L F :=
  ⟨b _ _ h.1 n, fun e m => ⟨b _ _ (h.2 e m).1 (P.noList (h.2 e m).1 fun _ _ _ => ints_pot), (h.2 e m).2⟩⟩
theorem fits_refutes {rows : List (List Int)} {right x f : List Int} {C : Nat} (hC : x.length = C) (h : Fits rows right x) (k : Refutes rows right f C) : False := by
  obtain ⟨k1, k2⟩ := k
  have e : (sumR rows.length fun k => z (right.getD k 0) * col f k) = sumR C fun j => (sumR rows.length fun k => col (rows.getD k []) j * col f k) * col x j := by
    have e1 : (sumR rows.length fun k => z (right.getD k 0) * col f k) = sumR rows.length fun k => sumR C fun j => col (rows.getD k []) j * col x j * col f k := by
      refine sumR_ext fun k hk => ?_
      rw [← h k hk, hC, ← sumR_mul]
    rw [e1, sumR_swap]
    refine sumR_ext fun j _ => ?_
    rw [← sumR_mul]
    exact sumR_ext fun k _ => by grind
  rw [e, sumR_zero fun j hj => by rw [k1 j hj]; grind] at k2
  exact zp_01 k2.symm
/-- data of the rows and of the right sides -/
theorem dp_sys {K : PySem.W.Frag} {H : Hp} {q R S : Addr} {F : List (Addr × List Int)} {right : List Int} (h : SqL K H q [V.ref R, V.ref S]) (hR : RL K H R F) (hS : SqL K H S (right.map V.int)) : Dp K H (.ref q) (.list [.list ((snds F).map rowD), rowD right]) := by
  have : ∀ G : List (Addr × List Int), (∀ e ∈ G, SqL K H e.1 (e.2.map V.int)) → DpAll K H (refs G) ((snds G).map rowD) := by
    intro G
    induction G with
    | nil => intro _; exact .nil
    | cons e G ih => exact fun g => .cons (dp_ints (g e (by simp))) (ih fun u m => g u (List.mem_cons_of_mem _ m))
  exact .lst h (.cons (.lst hR.1 (this F hR.2)) (.cons (dp_ints hS) .nil))
theorem sys_shaped (rows : List (List Int)) (right : List Int) : SeqAt.shaped (.list [.list (rows.map rowD), rowD right]) = true := by
  obtain ⟨h1, h2⟩ := rows_data rows
  unfold SeqAt.shaped
  rw [Bool.and_eq_true]
  refine ⟨by simp [PyData.canLay0, PyData.canLayAll0, h1, rowD, canLayAll_ints], decide_eq_true ?_⟩
  simp only [PyData.depth, PyData.depthAll, rowD, depthAll_ints]
  omega
theorem sys_eqv (rows : List (List Int)) (right : List Int) : PyData.eqv (.list [.list (rows.map rowD), rowD right]) (.list [.list (rows.map rowD), rowD right]) = true := by
  have h1 := eqv_rows rows rows
  have h2 := eqv_ints right right
  rw [decide_eq_true rfl] at h1 h2
  simp only [PyData.eqv, PyData.eqvAll, rowD] at h1 h2 ⊢
  simp only [rowD, Bool.and_true, Bool.and_eq_true]
  exact ⟨h1, h2⟩
section
variable {P : Program} {w : World} {K : PySem.W.Frag} {mg : Str → Option Value} {base : Heap} {a : Ad}
theorem sc_inverse : FnScope ["a", "number", "next_number", "factor", "next_factor", "quotient"] ["a"] (defScope s_inverse) := ⟨rfl, rfl, rfl, by decide +kernel, rfl, by decide +kernel, by decide +kernel⟩
theorem ok_inverse (T : Txt K mg a) : FnOk P w K mg base (L2.CX P w) 1 a.f_inverse a.d_inverse ["a"] (sp_inverse K a) := by
  refine T.F_inverse.okX sc_inverse (fun vs H Q E h => ?len) (fun cdv A outer s H vs Q E hr h => ?body)
  case len =>
    exact sp_inverse_len h
  case body =>
    obtain ⟨x, rfl, kE, kQ⟩ := h
    refine ⟨_, (pss_cons (ps_par (i := 1) (j := 2) (by rfl) sc_inverse.nd rfl rfl (by decide) rfl rfl (pa_cons (pe_const T.g_PRIME) (pa_cons (pe_op op_mod (pv 0) (pe_const T.g_PRIME)) pa_nil)) (by rfl))
      (pss_cons (ps_asg (pe_tup (pa_cons pe_int (pa_cons pe_int pa_nil))) (pg_tup rfl (pgs_cons (pg_name (i := 3) sc_inverse.nd rfl (Or.inl rfl)) (pgs_cons (pg_name (i := 4) sc_inverse.nd rfl (Or.inl rfl)) pgs_nil))))
      (pss_cons (ps_if (pt_cmpR op_eq (pv 2) pe_int (nomark _))
      (pss_one (ps_raise rfl (takes_of rfl rfl rfl rfl) (pmk_own PySem.F.excBase_ValueError T.x_InvalidArgument T.g_InvalidArgument T.k_InvalidArgument (raises_own T.b_InvalidArgument T.t_InvalidArgument) (by exact rfl))))
      pss_nil)
      (pss_cons (ps_while (passes_of rfl) (pt_cmpR op_ne (pv 2) pe_int (nomark _))
      (pss_cons (ps_set (i := 5) sc_inverse.nd rfl (Or.inl rfl) (pe_op op_fdiv (pv 1) (pv 2)))
      (pss_cons (ps_par (i := 1) (j := 2) (by rfl) sc_inverse.nd rfl rfl (by decide) rfl rfl (pa_cons (pv 2) (pa_cons (pe_op op_sub (pv 1) (pe_op op_mul (pv 5) (pv 2))) pa_nil)) (by rfl))
      (pss_one (ps_par (i := 3) (j := 4) (by rfl) sc_inverse.nd rfl rfl (by decide) rfl rfl (pa_cons (pv 4) (pa_cons (pe_op op_sub (pv 3) (pe_op op_mul (pv 5) (pv 4))) pa_nil)) (by rfl))))))
      (pss_one (ps_ret (pe_op op_mod (pv 3) (pe_const T.g_PRIME)))))))), ?_⟩
    have p1 := Int.emod_nonneg x (show (65521 : Int) ≠ 0 by decide)
    have p2 := Int.emod_lt_of_pos x (show (0 : Int) < 65521 by decide)
    refine ⟨_, rfl, _, _, rfl, rfl, (by show (0 : Int) < 65521; decide), _, _, rfl, (by show 2 ≤ sizeLine; decide), fun t ht => ?_⟩
    have sm : Same H (upd H t (.tup [V.int 0, V.int 1])) := fun b o z => by rw [upd_ne (ne_of_none z ht)]; exact z
    refine ⟨t, _, rfl, SqT.of upd_same, rfl, _, _, rfl, _, _, rfl, rfl, ?_⟩
    refine ⟨_, rfl, rfl, _, rfl, ?_⟩
    refine ite2 (fun e => ?_) (fun e => ?_)
    · have e0 : x % 65521 = 0 := V.int.inj (of_decide_eq_true e)
      exact kE e0 _ sm
    · have e0 : x % 65521 ≠ 0 := fun z => e (decide_eq_true (congrArg V.int z))
      refine ⟨fun m σ H' => ∃ (n r f g : Int) (u : Option V), σ = [some (.int x), some (.int n), some (.int r), some (.int f), some (.int g), u] ∧ Same H H' ∧ m = r.toNat ∧ 0 ≤ r ∧ r < n ∧ n ≤ 65521 ∧ (x * f - n) % 65521 = 0 ∧ (x * g - r) % 65521 = 0 ∧ Int.gcd n r = 1,
        ⟨_, _, _, _, _, _, rfl, sm, rfl, p1, p2, Int.le_refl _, by omega, by omega, gcd_q x e0⟩, ?_⟩
      rintro m σ H' ⟨n, r, f, g, u, rfl, sm', rfl, r0, rn, nq, h1, h2, hg⟩
      refine ⟨_, rfl, rfl, _, rfl, ?_⟩
      refine ite2 (fun er => ?_) (fun er => ?_)
      · have r1 : r ≠ 0 := fun z => by subst z; simp at er
        have rp : 0 < r := by omega
        have d0 : 0 ≤ n / r := Int.ediv_nonneg (by omega) r0
        have d1 : n / r ≤ 65521 := by
          have := Int.ediv_le_self r (show 0 ≤ n by omega)
          omega
        have rr : n - n / r * r = n % r := by
          have := Int.mul_ediv_add_emod n r
          rw [Int.mul_comm] at this
          omega
        have q1 := Int.emod_nonneg n r1
        have q2 := Int.emod_lt_of_pos n rp
        refine ⟨fun σ' H'' => ∃ m', m' < r.toNat ∧ _, fun _ _ z => z, ?_⟩
        refine ⟨_, rfl, _, rfl, _, _, rfl, rfl, ⟨rp, by omega⟩, ?_⟩
        refine ⟨_, rfl, _, rfl, _, rfl, _, rfl, _, _, rfl, rfl, .inl ⟨by omega, by omega⟩, _, _, rfl, rfl, _, _, rfl, ?_⟩
        refine ⟨_, rfl, _, rfl, _, rfl, _, rfl, _, _, rfl, rfl, .inl ⟨by omega, by omega⟩, _, _, rfl, rfl, _, _, rfl, ?_⟩
        exact ⟨(n - n / r * r).toNat, by omega, r, n - n / r * r, g, f - n / r * g, _, rfl, sm', rfl, by omega, by omega, by omega, h2, euclid_turn h1 h2, gcd_turn hg⟩
      · have r1 : r = 0 := by
          have := Classical.not_not.mp (fun z => er (by rw [decide_eq_false z]; rfl))
          exact V.int.inj this
        subst r1
        have n1 : n = 1 := by
          rw [Int.gcd_zero_right] at hg
          omega
        subst n1
        have z := invP_eq (euclid_end h1)
        refine ⟨_, rfl, _, _, rfl, rfl, (by show (0 : Int) < 65521; decide), ?_⟩
        show Q (.int (f % 65521)) H'
        rw [← z]
        exact kQ e0 _ sm'
theorem sc_check_system : FnScope ["rows", "right", "columns", "row"] ["rows", "right"] (defScope s_check_system) := ⟨rfl, rfl, rfl, by decide +kernel, rfl, by decide +kernel, by decide +kernel⟩
theorem ok_check_system (T : Txt K mg a) : FnOk P w K mg base (L2.CX P w) 1 a.f_check_system a.d_check_system ["rows", "right"] (sp_check_system K a) := by
  refine T.F_check_system.okX sc_check_system (fun vs H Q E h => ?len) (fun cdv A outer s H vs Q E hr h => ?body)
  case len =>
    exact sp_check_system_len h
  case body =>
    obtain ⟨R, S, F, right, rfl, hR, hS, kE, kQ⟩ := h
    refine ⟨_, (pss_cons (ps_if (pt_not (pt_truth (pv 0) (by intro _; rfl)))
      (pss_one (ps_raise rfl (takes_of rfl rfl rfl rfl) (pmk_own PySem.F.excBase_ValueError T.x_InvalidArgument T.g_InvalidArgument T.k_InvalidArgument (raises_own T.b_InvalidArgument T.t_InvalidArgument) (by exact rfl))))
      pss_nil)
      (pss_cons (ps_set (i := 2) sc_check_system.nd rfl (Or.inl rfl) (pe_callB call_len_seq (by rfl) T.n_len PySem.boot_len (pa_cons (pe_ix ix_list (pv 0) pe_int (fun _ _ => rfl)) pa_nil)))
      (pss_cons (ps_for (passes_of rfl) rfl (pi_list (pv 0)) (pg_name (i := 3) sc_check_system.nd rfl (Or.inl rfl))
      (pss_one (ps_if (pt_cmpR op_ne (pe_callB call_len_seq (by rfl) T.n_len PySem.boot_len (pa_cons (pv 3) pa_nil)) (pv 2) (nomark _))
      (pss_one (ps_raise rfl (takes_of rfl rfl rfl rfl) (pmk_own PySem.F.excBase_ValueError T.x_InvalidArgument T.g_InvalidArgument T.k_InvalidArgument (raises_own T.b_InvalidArgument T.t_InvalidArgument) (by exact rfl))))
      pss_nil)))
      (pss_cons (ps_if (pt_cmpR op_eq (pv 2) pe_int (nomark _))
      (pss_one (ps_raise rfl (takes_of rfl rfl rfl rfl) (pmk_own PySem.F.excBase_ValueError T.x_InvalidArgument T.g_InvalidArgument T.k_InvalidArgument (raises_own T.b_InvalidArgument T.t_InvalidArgument) (by exact rfl))))
      pss_nil)
      (pss_one (ps_if (pt_cmpR op_ne (pe_callB call_len_seq (by rfl) T.n_len PySem.boot_len (pa_cons (pv 1) pa_nil)) (pe_callB call_len_seq (by rfl) T.n_len PySem.boot_len (pa_cons (pv 0) pa_nil)) (nomark _))
      (pss_one (ps_raise rfl (takes_of rfl rfl rfl rfl) (pmk_own PySem.F.excBase_ValueError T.x_InvalidArgument T.g_InvalidArgument T.k_InvalidArgument (raises_own T.b_InvalidArgument T.t_InvalidArgument) (by exact rfl))))
      pss_nil)))))), ?_⟩
    refine ⟨_, rfl, _, .inl ⟨_, hR.1, rfl⟩, ?_⟩
    match F, hR, kE, kQ with
    | [], hR, kE, kQ => exact iteT (kE (.inl rfl) _ (Same.refl _))
    | e0 :: F, hR, kE, kQ =>
      refine iteF ?_
      refine ⟨_, rfl, R, _, _, _, rfl, rfl, hR.1, at_of (j := 0) rfl rfl, e0.1, _, rfl, .inl (hR.2 e0 (by simp)), ?_⟩
      refine ⟨_, rfl, R, rfl, ⟨_, hR.1⟩, for_list (K := K) (a := R) (xs := refs (e0 :: F)) (fun i σ H' => ∃ v : Option V, σ = [some (.ref R), some (.ref S), some (.int (e0.2.length : Nat)), v] ∧ H' = H ∧ ∀ (j : Nat) (e : Addr × List Int), j < i → (e0 :: F)[j]? = some e → e.2.length = e0.2.length)
        ⟨none, by rw [List.length_map]; rfl, rfl, fun j e h => absurd h (by omega)⟩ (fun i σ H' _ ⟨_, _, e, _⟩ => by rw [e]; exact hR.1) ?_ ?_⟩
      · rintro i y σ H' hi ⟨v, rfl, rfl, hq⟩
        obtain ⟨e, he, rfl⟩ := refs_item hi
        have em := List.mem_of_getElem? he
        refine ⟨_, rfl, e.1, _, rfl, .inl (hR.2 e em), _, rfl, rfl, _, rfl, ?_⟩
        rw [List.length_map]
        refine ite2 (fun q => ?_) (fun q => ?_)
        · refine kE (.inr (.inl ⟨e.2, List.mem_map.mpr ⟨e, em, rfl⟩, fun q' => ?_⟩)) _ (Same.refl _)
          have q2 : e.2.length = e0.2.length := q'
          rw [q2] at q
          simp at q
        · refine ⟨some (V.ref e.1), rfl, rfl, fun j e' hj hj' => ?_⟩
          by_cases c : j = i
          · subst c
            rw [he] at hj'
            have := Option.some.inj hj'
            subst this
            refine Classical.byContradiction fun ne => q ?_
            rw [decide_eq_false (fun z' => ne (by have := V.int.inj z'; omega))]
            rfl
          · exact hq j e' (by omega) hj'
      · rintro σ H' ⟨v, rfl, rfl, hq⟩
        rw [refs_len] at hq
        have all : ∀ r ∈ snds (e0 :: F), r.length = e0.2.length := fun r m => by
          obtain ⟨e, me, rfl⟩ := List.mem_map.mp m
          obtain ⟨j, hj⟩ := List.mem_iff_getElem?.mp me
          exact hq j e (item_lt hj) hj
        refine ⟨_, rfl, rfl, _, rfl, ?_⟩
        refine ite2 (fun q => kE (.inr (.inr (.inl (by have := V.int.inj (of_decide_eq_true q); show e0.2.length = 0; omega)))) _ (Same.refl _)) (fun q => ?_)
        refine ⟨_, rfl, S, _, rfl, .inl hS, _, rfl, R, _, rfl, .inl hR.1, rfl, _, rfl, ?_⟩
        rw [List.length_map, refs_len]
        refine ite2 (fun q2 => ?_) (fun q2 => ?_)
        · refine kE (.inr (.inr (.inr fun q3 => ?_))) _ (Same.refl _)
          rw [snds_len] at q3
          rw [q3] at q2
          simp at q2
        · refine kQ (fun b => ?_) _ (Same.refl _)
          rcases b with b | ⟨r, m, ne⟩ | b | b
          · cases b
          · exact ne (all r m)
          · exact q (decide_eq_true (congrArg V.int (by have : e0.2.length = 0 := b; omega)))
          · rw [snds_len] at b
            refine q2 ?_
            rw [decide_eq_false (fun z' => b (by have := V.int.inj z'; omega))]
            rfl
theorem sc_combination : FnScope ["rows", "right", "at", "factors", "word"] ["rows", "right", "at"] (defScope s_combination) := ⟨rfl, rfl, rfl, by decide +kernel, rfl, by decide +kernel, by decide +kernel⟩
theorem ok_combination (T : Txt K mg a) : FnOk P w K mg base CX0 1 a.f_combination a.d_combination ["rows", "right", "at"] (sp_combination K a) := by
  refine T.F_combination.ok sc_combination (fun vs H Q E h => ?len) (fun cdv A outer s H vs Q E hr h => ?body)
  case len =>
    exact sp_combination_len h
  case body =>
    obtain ⟨R, S, F, right, k, rfl, hR, hS, hk, hr, lF, lr, kQ⟩ := h
    have hF : F[k]? = some F[k] := List.getElem?_eq_getElem hk
    have em := List.mem_of_getElem? hF
    have e1 : (snds F).getD k [] = F[k].2 := snds_get hF
    have hc : right[k]? = some right[k] := List.getElem?_eq_getElem (by omega)
    rw [e1] at lr
    refine ⟨_, (pss_cons (ps_set (i := 3) sc_combination.nd rfl (Or.inl rfl) (pe_op op_rep (pe_lst (pa_cons pe_int pa_nil)) (pe_callB call_len_seq (by rfl) T.n_len PySem.boot_len (pa_cons (pv 0) pa_nil))))
      (pss_cons (ps_asg pe_int (pg_sub (pv 3) (pv 2) set_list))
      (pss_one (ps_ret (pe_lc (own := [("word", 4)]) (g := (gName 4)) (by rfl) sc_combination.nd (pi_list (pe_lst (StX.pa_star (pe_ix ix_list (pv 0) (pv 2) (fun _ _ => rfl)) (pa_cons (pe_ix ix_list (pv 1) (pv 2) (fun _ _ => rfl)) (StX.pa_star (pv 3) pa_nil))))) (blkOk_by (own := [("word", 4)]) (N := ["rows", "right", "at", "factors", "word"]) (sc := defScope s_combination) (by decide +kernel))
      (fun _ _ _ _ _ => (pg_name (i := 4) sc_combination.nd rfl (Or.inl rfl))) (fun _ _ _ _ _ => pts_nil) (fun _ _ _ _ _ => (pe_op op_mod (pv 4) (pe_const T.g_PRIME)))))))), ?_⟩
    refine ⟨(by show 1 ≤ sizeLine; decide), fun q nq => ?_⟩
    have sq := Same.new (o := .lst [V.int 0]) nq
    refine ⟨_, rfl, R, _, rfl, .inl (sq.seq hR.1), ?_⟩
    rw [refs_len]
    refine ⟨q, _, _, rfl, rfl, upd_same, by omega, by omega, ?_, fun D nD => ?_⟩
    · rw [Int.toNat_natCast]
      exact Nat.le_of_lt (small _ (by simp; omega))
    rw [Int.toNat_natCast, rep_zero]
    have s1 := sq.trans (Same.new (o := .lst ((List.replicate F.length (0 : Int)).map V.int)) nD)
    have nD0 := sq.free nD
    refine ⟨_, rfl, _, rfl, D, _, _, k, rfl, rfl, upd_same, ixN_nat (by simpa using hk), ?_⟩
    rw [show V.int 1 = V.int (1 : Int) from rfl, ← List.map_set]
    have s2 : Same H (upd (upd (upd H q (.lst [V.int 0])) D (.lst ((List.replicate F.length (0 : Int)).map V.int))) D (.lst (((List.replicate F.length (0 : Int)).set k 1).map V.int))) := fun b o e => by
      rw [upd_ne (ne_of_none e nD0)]
      exact s1 _ _ e
    refine ⟨_, rfl, _, rfl, R, _, _, _, rfl, rfl, s2.seq hR.1, at_of (j := k) rfl (refs_get hF), F[k].1, _, rfl, .inr (s2.seq (hR.2 _ em)), _, rfl, _, rfl, S, _, _, _, rfl, rfl, s2.seq hS, at_of (j := k) rfl (by rw [List.getElem?_map, hc]; rfl), _, rfl, D, _, rfl, .inr (SqL.of upd_same), ?_⟩
    have el : F[k].2.map V.int ++ (V.int right[k] :: (((List.replicate F.length (0 : Int)).set k 1).map V.int ++ [])) = (F[k].2 ++ [right[k]] ++ (List.replicate F.length (0 : Int)).set k 1).map V.int := by
      simp
    have ll : (F[k].2 ++ [right[k]] ++ (List.replicate F.length (0 : Int)).set k 1).length ≤ 60 := by
      simp only [List.length_append, List.length_singleton, List.length_set, List.length_replicate]
      omega
    have ec : combL (snds F) right F.length k = (F[k].2 ++ [right[k]] ++ (List.replicate F.length (0 : Int)).set k 1).map (· % 65521) := by
      unfold combL
      rw [e1, getD_item hc]
    rw [ec] at kQ
    generalize F[k].2 ++ [right[k]] ++ (List.replicate F.length (0 : Int)).set k 1 = ws at el ll kQ
    refine ⟨?_, fun W nW => ?_⟩
    · show (F[k].2.map V.int ++ (V.int right[k] :: (((List.replicate F.length (0 : Int)).set k 1).map V.int ++ []))).length ≤ sizeLine
      rw [el, List.length_map]
      exact Nat.le_of_lt (small _ (by omega))
    have hW : ∀ H0 : Hp, SqL K (upd H0 W (.lst (F[k].2.map V.int ++ (V.int right[k] :: (((List.replicate F.length (0 : Int)).set k 1).map V.int ++ []))))) W (ws.map V.int) := fun H0 => by
      rw [el]
      exact SqL.of upd_same
    refine ⟨W, rfl, ⟨_, hW _⟩, fun D2 n2 => ?_⟩
    have nWD : W ≠ D2 := ne_of_none upd_same n2
    have nD2 : H D2 = none := (s2.trans (Same.new nW)).free n2
    refine lc_list (K := K) (a := W) (xs := ws.map V.int) (fun i H' => Same H H' ∧ SqL K H' W (ws.map V.int) ∧ H' D2 = some (.lst (((ws.map (· % 65521)).take i).map V.int))) ⟨same_put (s2.trans (Same.new nW)) nD2, seq_off (hW _) nWD, upd_same⟩ (fun i H' _ p => p.2.1) ?_ ?_
    · rintro i y H' hi ⟨s', w', d'⟩
      obtain ⟨c, hc, rfl⟩ := int_item hi
      have lc := item_lt hc
      have hc' : (ws.map (· % 65521))[i]? = some (c % 65521) := by rw [List.getElem?_map, hc]; rfl
      refine ⟨rfl, _, rfl, _, _, rfl, rfl, (by show (0 : Int) < 65521; decide), _, d', small _ (by simp; omega), same_put s' nD2, seq_off w' nWD, ?_⟩
      rw [upd_same, take_snoc hc', List.map_append]
      rfl
    · rintro H' ⟨s', w', d'⟩
      rw [List.take_of_length_le (by simp)] at d'
      exact kQ D2 H' s' nD2 d'
theorem sc_pivot_index : FnScope ["lines", "first", "column", "at"] ["lines", "first", "column"] (defScope s_pivot_index) := ⟨rfl, rfl, rfl, by decide +kernel, rfl, by decide +kernel, by decide +kernel⟩
theorem ok_pivot_index (T : Txt K mg a) : FnOk P w K mg base CX0 1 a.f_pivot_index a.d_pivot_index ["lines", "first", "column"] (sp_pivot_index K a) := by
  refine T.F_pivot_index.ok sc_pivot_index (fun vs H Q E h => ?len) (fun cdv A outer s H vs Q E hr h => ?body)
  case len =>
    exact sp_pivot_index_len h
  case body =>
    obtain ⟨L, F, f, c, rfl, hL, lF, lf, hw, kI, kN⟩ := h
    refine ⟨_, (pss_cons (ps_for PassesOwn.never rfl (pi_range2 (by rfl) T.n_range (pa_cons (pv 1) (pa_cons (pe_callB call_len_seq (by rfl) T.n_len PySem.boot_len (pa_cons (pv 0) pa_nil)) pa_nil))) (pg_name (i := 3) sc_pivot_index.nd rfl (Or.inl rfl))
      (pss_one (ps_if (pt_cmpR op_ne (pe_ix ix_list (pe_ix ix_list (pv 0) (pv 3) (fun _ _ => rfl)) (pv 2) (fun _ _ => rfl)) pe_int (nomark _))
      (pss_one (ps_ret (pv 3)))
      pss_nil)))
      (pss_one (ps_ret pe_non))), ?_⟩
    refine ⟨_, rfl, _, rfl, L, _, rfl, .inl hL.1, _, _, rfl, ⟨by omega, by omega, by omega, by rw [refs_len]; omega⟩, ?_⟩
    rw [refs_len]
    refine for_range (lo := (f : Int)) (n := ((F.length : Int) - (f : Int)).toNat) (fun i σ H' => ∃ v : Option V, σ = [some (.ref L), some (.int (f : Int)), some (.int (c : Int)), v] ∧ H' = H ∧ ∀ j : Nat, f ≤ j → j < f + i → col ((snds F).getD j []) c = 0)
      ⟨none, rfl, rfl, fun j h1 h2 => absurd h1 (by omega)⟩ ?_ ?_
    · rintro i σ H' hi ⟨v, rfl, rfl, hz⟩
      have hF : F[f + i]? = some F[f + i] := List.getElem?_eq_getElem (by omega)
      have em := List.mem_of_getElem? hF
      obtain ⟨cl, wl⟩ := hw F[f + i].2 (List.mem_map.mpr ⟨_, em, rfl⟩)
      have hc : F[f + i].2[c]? = some F[f + i].2[c] := List.getElem?_eq_getElem cl
      have ec : col ((snds F).getD (f + i) []) c = z F[f + i].2[c] := by rw [snds_get hF, col_in hc]
      obtain ⟨w0, w1⟩ := wl _ (List.getElem_mem cl)
      refine ⟨_, rfl, _, rfl, L, _, _, _, rfl, rfl, hL.1, at_of (j := f + i) (by omega) (refs_get hF), _, rfl, F[f + i].1, _, _, _, rfl, rfl, hL.2 _ em, at_of (j := c) rfl (by rw [List.getElem?_map, hc]; rfl), rfl, _, rfl, ?_⟩
      refine ite2 (fun q => ?_) (fun q => ?_)
      · refine ⟨_, rfl, ?_⟩
        show Q (V.int ((f : Int) + (i : Nat))) H'
        rw [show (f : Int) + (i : Nat) = ((f + i : Nat) : Int) by omega]
        refine kI (f + i) (by omega) (by omega) fun z0 => ?_
        rw [ec] at z0
        have := (z_z _).mp z0
        have e0 : F[f + i].2[c] = 0 := by omega
        rw [e0] at q
        simp at q
      · refine ⟨_, rfl, rfl, fun j h1 h2 => ?_⟩
        by_cases e : j = f + i
        · subst e
          rw [ec]
          have e0 : F[f + i].2[c] = 0 := Classical.byContradiction fun ne => q (by rw [decide_eq_false (fun z' => ne (V.int.inj z'))]; rfl)
          rw [e0]
          exact z_zero
        · exact hz j h1 (by omega)
    · rintro σ H' ⟨v, rfl, rfl, hz⟩
      exact kN fun i h1 h2 => hz i h1 (by omega)
theorem sc_without : FnScope ["line", "column", "pivot", "factor", "word", "other"] ["line", "column", "pivot"] (defScope s_without) := ⟨rfl, rfl, rfl, by decide +kernel, rfl, by decide +kernel, by decide +kernel⟩
theorem ok_without (T : Txt K mg a) : FnOk P w K mg base CX0 1 a.f_without a.d_without ["line", "column", "pivot"] (sp_without K a) := by
  refine T.F_without.ok sc_without (fun vs H Q E h => ?len) (fun cdv A outer s H vs Q E hr h => ?body)
  case len =>
    exact sp_without_len h
  case body =>
    obtain ⟨d, p, l, q, c, rfl, hD, hP, hl, ll, hc, hw, k⟩ := h
    have hlc : l[c]? = some l[c] := List.getElem?_eq_getElem hc
    obtain ⟨w0, w1⟩ := hw _ (List.getElem_mem hc)
    refine ⟨_, (pss_cons (ps_set (i := 3) sc_without.nd rfl (Or.inr rfl) (pe_ix ix_list (pv 0) (pv 1) (fun _ _ => rfl)))
      (pss_one (ps_ret (pe_lc (own := [("word", 4), ("other", 5)]) (g := (gTup K 2 (gCons (gName 4) (gCons (gName 5) gNil)))) (by rfl) sc_without.nd (pi_zip (by rfl) T.n_zip (pa_cons (pv 0) (pa_cons (pv 2) pa_nil))) (blkOk_by (own := [("word", 4), ("other", 5)]) (N := ["line", "column", "pivot", "factor", "word", "other"]) (sc := defScope s_without) (by decide +kernel))
      (fun _ _ _ _ _ => (pg_tup rfl (pgs_cons (pg_name (i := 4) sc_without.nd rfl (Or.inl rfl)) (pgs_cons (pg_name (i := 5) sc_without.nd rfl (Or.inl rfl)) pgs_nil)))) (fun _ _ _ _ _ => pts_nil) (fun _ _ _ _ _ => (pe_op op_mod (pe_op op_sub (pv 4) (pe_op op_mul (pv 3) (pv 5))) (pe_const T.g_PRIME))))))), ?_⟩
    refine ⟨_, rfl, _, rfl, d, _, _, _, rfl, rfl, hD, at_of (j := c) rfl (by rw [List.getElem?_map, hlc]; rfl), ?_⟩
    refine ⟨_, rfl, _, rfl, d, p, _, _, rfl, hD, hP, fun D new => lc_it (walk_zip (n := l.length) (by simp [hl])) (fun i H' => Same H H' ∧ H' D = some (.lst (((subL l c q).take i).map V.int))) ⟨Same.new new, upd_same⟩ (fun i H' _ s => ⟨s.1.seq hD, s.1.seq hP⟩) ?_ ?_⟩
    · rintro i y H1 H2 hi ⟨s1, d1⟩ ⟨t, u, v, rfl, ht, rfl, hu, hv⟩
      obtain ⟨x, hx, rfl⟩ := int_item hu
      obtain ⟨y, hy, rfl⟩ := int_item hv
      have sT := Same.new (o := .tup [V.int x, V.int y]) ht
      have e3 : (subL l c q)[i]? = some ((x - l[c] * y) % 65521) := by
        unfold subL
        rw [List.getElem?_map, List.getElem?_range hi]
        show some ((l.getD i 0 - l.getD c 0 * q.getD i 0) % 65521) = _
        rw [getD_item hx, getD_item hy, getD_item hlc]
      refine ⟨t, _, rfl, SqT.of upd_same, rfl, _, _, rfl, _, _, rfl, rfl, ?_⟩
      refine ⟨rfl, _, rfl, _, rfl, _, rfl, _, _, rfl, rfl, .inl ⟨by omega, by omega⟩, _, _, rfl, rfl, _, _, rfl, rfl, (by show (0 : Int) < 65521; decide), _, sT _ _ d1, small _ (by simp; omega), same_put (s1.trans sT) new, ?_⟩
      rw [upd_same, take_snoc e3, List.map_append]
      rfl
    · rintro H' ⟨s', d'⟩
      rw [List.take_of_length_le (by rw [subL_len]; exact Nat.le_refl _)] at d'
      exact k D H' s' new d'
theorem sc_eliminate : FnScope ["lines", "target", "chosen", "column", "scale", "pivot", "at", "word"] ["lines", "target", "chosen", "column"] (defScope s_eliminate) := ⟨rfl, rfl, rfl, by decide +kernel, rfl, by decide +kernel, by decide +kernel⟩
theorem ok_eliminate (T : Txt K mg a) : FnOk P w K mg base CX0 2 a.f_eliminate a.d_eliminate ["lines", "target", "chosen", "column"] (sp_eliminate K a) := by
  refine T.F_eliminate.ok sc_eliminate (fun vs H Q E h => ?len) (fun cdv A outer s H vs Q E hr h => ?body)
  case len =>
    exact sp_eliminate_len h
  case body =>
    obtain ⟨L, F, t, ch, c, m, rfl, hL, lF, ht, hch, hcm, hm, hw, hnz, k⟩ := h
    have hFt : F[t]? = some F[t] := List.getElem?_eq_getElem ht
    have hFc : F[ch]? = some F[ch] := List.getElem?_eq_getElem hch
    have gt : (snds F).getD t [] = F[t].2 := snds_get hFt
    have gc : (snds F).getD ch [] = F[ch].2 := snds_get hFc
    have mt := List.mem_of_getElem? hFt
    have mc := List.mem_of_getElem? hFc
    have wid : ∀ e ∈ F, e.2.length = m ∧ ∀ w ∈ e.2, Wd w := fun e me => hw e.2 (List.mem_map.mpr ⟨e, me, rfl⟩)
    refine ⟨_, (pss_cons (ps_asg (pe_tup (pa_cons (pe_ix ix_list (pv 0) (pv 2) (fun _ _ => rfl)) (pa_cons (pe_ix ix_list (pv 0) (pv 1) (fun _ _ => rfl)) pa_nil))) (pg_tup rfl (pgs_cons (pg_sub (pv 0) (pv 1) set_list) (pgs_cons (pg_sub (pv 0) (pv 2) set_list) pgs_nil))))
      (pss_cons (ps_set (i := 4) sc_eliminate.nd rfl (Or.inr rfl) (pe_call (ok_inverse T) (hr.mono (by decide)) rfl T.g_inverse T.F_inverse.kp T.d_inverse .nil passL (pa_cons (pe_ix ix_list (pe_ix ix_list (pv 0) (pv 1) (fun _ _ => rfl)) (pv 3) (fun _ _ => rfl)) pa_nil)))
      (pss_cons (ps_setLc (i := 5) (own := [("word", 7)]) (g := (gName 7)) (by rfl) sc_eliminate.nd rfl rfl (sw_true rfl rfl rfl (by decide +kernel)) (pi_list (pe_ix ix_list (pv 0) (pv 1) (fun _ _ => rfl))) (blkOk_by (own := [("word", 7)]) (N := ["lines", "target", "chosen", "column", "scale", "pivot", "at", "word"]) (sc := defScope s_eliminate) (by decide +kernel))
      (fun _ _ _ _ _ => (pg_name (i := 7) sc_eliminate.nd rfl (Or.inl rfl))) (fun _ _ _ _ _ => pts_nil) (fun _ _ _ _ _ => (pe_op op_mod (pe_op op_mul (pv 7) (pv 4)) (pe_const T.g_PRIME))))
      (pss_cons (ps_asg (pv 5) (pg_sub (pv 0) (pv 1) set_list))
      (pss_one (ps_for PassesOwn.never rfl (pi_range1 (by rfl) T.n_range (pa_cons (pe_callB call_len_seq (by rfl) T.n_len PySem.boot_len (pa_cons (pv 0) pa_nil)) pa_nil)) (pg_name (i := 6) sc_eliminate.nd rfl (Or.inl rfl))
      (pss_one (ps_if (pt_cmpR op_ne (pv 6) (pv 1) (nomark _))
      (pss_one (ps_asg (pe_call (ok_without T) (hr.mono (by decide)) rfl T.g_without T.F_without.kp T.d_without .nil pass0 (pa_cons (pe_ix ix_list (pv 0) (pv 6) (fun _ _ => rfl)) (pa_cons (pv 3) (pa_cons (pv 5) pa_nil)))) (pg_sub (pv 0) (pv 6) set_list)))
      pss_nil)))))))), ?_⟩
    -- lines[target], lines[chosen] = lines[chosen], lines[target]
    refine ⟨_, rfl, _, rfl, L, _, _, _, rfl, rfl, SqL.of hL.1, at_of (j := ch) rfl (refs_get hFc), _, rfl, _, rfl, L, _, _, _, rfl, rfl, SqL.of hL.1, at_of (j := t) rfl (refs_get hFt), (by show 2 ≤ sizeLine; decide), fun tp ntp => ?_⟩
    have sT := Same.new (o := .tup [V.ref F[ch].1, V.ref F[t].1]) ntp
    refine ⟨tp, _, rfl, SqT.of upd_same, rfl, _, _, rfl, _, rfl, _, rfl, L, _, _, t, rfl, rfl, sT _ _ hL.1, ixN_nat (by rw [refs_len]; exact ht), _, _, rfl, _, rfl, _, rfl, L, _, _, ch, rfl, rfl, upd_same, ixN_nat (by rw [List.length_set, refs_len]; exact hch), rfl, ?_⟩
    rw [upd_upd]
    have eR : ((refs F).set t (V.ref F[ch].1)).set ch (V.ref F[t].1) = refs ((F.set t F[ch]).set ch F[t]) := by
      unfold refs
      rw [List.map_set, List.map_set]
    rw [eR]
    have l1 : ((F.set t F[ch]).set ch F[t]).length = F.length := by rw [List.length_set, List.length_set]
    have g1 : ∀ (a : Nat) (e : Addr × List Int), ((F.set t F[ch]).set ch F[t])[a]? = some e → e ∈ F ∧ (a ≠ t → e.2 = swL (snds F) t ch a) ∧ (a = t → e = F[ch]) := fun a e he => by
      rcases item_set he with ⟨q1, q2, q3⟩ | ⟨q1, q2⟩
      · subst q1 q2
        refine ⟨mt, fun _ => ?_, fun q => ?_⟩
        · unfold swL
          rw [if_pos rfl, gt]
        · subst q
          rfl
      · rcases item_set q2 with ⟨q3, q4, _⟩ | ⟨q3, q4⟩
        · subst q3 q4
          exact ⟨mc, fun q => absurd rfl q, fun _ => rfl⟩
        · refine ⟨List.mem_of_getElem? q4, fun _ => ?_, fun q => absurd q.symm q3⟩
          unfold swL
          rw [if_neg (fun q => q1 q.symm), snds_get q4]
    generalize (F.set t F[ch]).set ch F[t] = F1 at l1 g1 ⊢
    have h1t : F1[t]? = some F[ch] := by
      have : F1[t]? = some F1[t] := List.getElem?_eq_getElem (by omega)
      rw [this, (g1 t _ this).2.2 rfl]
    have L1 : LA (upd (upd H tp (.tup [V.ref F[ch].1, V.ref F[t].1])) L (.lst (refs F1))) L F1 := LA.put fun e me => by
      obtain ⟨a, ha⟩ := List.mem_iff_getElem?.mp me
      have mF := (g1 a e ha).1
      exact ⟨sT _ _ (hL.2 e mF).1, (hL.2 e mF).2⟩
    have b1 : But L H (upd (upd H tp (.tup [V.ref F[ch].1, V.ref F[t].1])) L (.lst (refs F1))) := fun b o e n => by
      rw [upd_ne n]
      exact sT _ _ e
    generalize upd (upd H tp (.tup [V.ref F[ch].1, V.ref F[t].1])) L (.lst (refs F1)) = H1 at L1 b1 ⊢
    have wc := wid _ mc
    have hcc : F[ch].2[c]? = some F[ch].2[c] := List.getElem?_eq_getElem (by omega)
    have dc1 := (L1.2 _ (List.mem_of_getElem? h1t)).1
    have nz : F[ch].2[c] % 65521 ≠ 0 := fun q => hnz (by rw [gc, col_in hcc]; exact (z_z _).mpr q)
    obtain ⟨i0, i1, i2⟩ := invP_spec nz
    -- scale = inverse(lines[target][column])
    refine ⟨_, rfl, _, rfl, L, _, _, _, rfl, rfl, SqL.of L1.1, at_of (j := t) rfl (refs_get h1t), _, rfl, F[ch].1, _, _, _, rfl, rfl, SqL.of dc1, at_of (j := c) rfl (by rw [List.getElem?_map, hcc]; rfl), F[ch].2[c], rfl, fun q => absurd q nz, fun _ H2 s2 => ?_⟩
    have L2 := L1.same s2
    have dc2 := s2 _ _ dc1
    have b2 : But L H H2 := b1.trans s2.but
    have ep : pivL (snds F) ch c = scaleL F[ch].2 (invP F[ch].2[c]) := by
      unfold pivL
      rw [gc, getD_item hcc]
    have ppl : (pivL (snds F) ch c).length = m := by rw [ep, scaleL_len]; exact wc.1
    -- pivot = [word * scale % PRIME for word in lines[target]]
    refine ⟨_, rfl, _, rfl, L, _, _, _, rfl, rfl, SqL.of L2.1, at_of (j := t) rfl (refs_get h1t), F[ch].1, rfl, ⟨_, SqL.of dc2⟩, fun D nD => lc_list (K := K) (a := F[ch].1) (xs := F[ch].2.map V.int) (fun i H' => Same H2 H' ∧ H' D = some (.lst (((pivL (snds F) ch c).take i).map V.int))) ⟨Same.new nD, upd_same⟩ (fun i H' _ q => q.1.seq (SqL.of dc2)) ?_ ?_⟩
    · rintro i y H' hi ⟨s', d'⟩
      obtain ⟨x, hx, rfl⟩ := int_item hi
      obtain ⟨w0, w1⟩ := wc.2 x (List.mem_of_getElem? hx)
      have lx := item_lt hx
      have e3 : (pivL (snds F) ch c)[i]? = some (x * invP F[ch].2[c] % 65521) := by rw [ep]; unfold scaleL; rw [List.getElem?_map, hx]; rfl
      refine ⟨rfl, _, rfl, _, rfl, _, _, rfl, rfl, .inl ⟨by omega, by omega⟩, _, _, rfl, rfl, (by show (0 : Int) < 65521; decide), _, d', small _ (by simp; omega), same_put s' nD, ?_⟩
      rw [upd_same, take_snoc e3, List.map_append]
      rfl
    · rintro H3 ⟨s3, d3⟩
      rw [List.take_of_length_le (by rw [List.length_map, ppl]; omega)] at d3
      have L3 := L2.same s3
      have b3 : But L H H3 := b2.trans s3.but
      have nDL : D ≠ L := (ne_of_none L2.1 nD).symm
      -- lines[target] = pivot
      refine ⟨_, rfl, _, rfl, _, rfl, L, _, _, t, rfl, rfl, L3.1, ixN_nat (by rw [refs_len]; omega), ?_⟩
      rw [show (refs F1).set t (V.ref D) = refs (F1.set t (D, pivL (snds F) ch c)) by unfold refs; rw [List.map_set]]
      have L4 : LA (upd H3 L (.lst (refs (F1.set t (D, pivL (snds F) ch c))))) L (F1.set t (D, pivL (snds F) ch c)) := LA.put fun e me => by
        rcases List.mem_or_eq_of_mem_set me with me | me
        · exact L3.2 e me
        · subst me
          exact ⟨d3, nDL⟩
      have b4 : But L H (upd H3 L (.lst (refs (F1.set t (D, pivL (snds F) ch c))))) := fun b o e n => by
        rw [upd_ne n]
        exact b3 b o e n
      have d4 : upd H3 L (.lst (refs (F1.set t (D, pivL (snds F) ch c)))) D = some (.lst ((pivL (snds F) ch c).map V.int)) := by rw [upd_ne nDL]; exact d3
      have st : ∀ (a : Nat) (e : Addr × List Int), (F1.set t (D, pivL (snds F) ch c))[a]? = some e → e.2 = if a = t then elimL (snds F) t ch c a else swL (snds F) t ch a := fun a e he => by
        rcases item_set he with ⟨q1, q2, q3⟩ | ⟨q1, q2⟩
        · subst q1 q2
          rw [if_pos rfl]
          unfold elimL
          rw [if_pos rfl]
        · rw [if_neg (fun q => q1 q.symm)]
          exact (g1 a e q2).2.1 (fun q => q1 q.symm)
      have l4 : (F1.set t (D, pivL (snds F) ch c)).length = F.length := by rw [List.length_set]; exact l1
      generalize F1.set t (D, pivL (snds F) ch c) = F4 at L4 b4 d4 st l4 ⊢
      -- for at in range(len(lines))
      refine ⟨_, rfl, L, _, rfl, .inl (SqL.of L4.1), _, rfl, by omega, by rw [refs_len]; omega, ?_⟩
      rw [Int.toNat_natCast, refs_len, l4]
      refine for_range (lo := 0) (n := F.length) (fun i σ H' => ∃ (v6 : Option V) (G : List (Addr × List Int)), σ = [some (.ref L), some (.int (t : Int)), some (.int (ch : Int)), some (.int (c : Int)), some (.int (invP F[ch].2[c])), some (.ref D), v6, none] ∧ But L H H' ∧ LA H' L G ∧ G.length = F.length ∧ H' D = some (.lst ((pivL (snds F) ch c).map V.int)) ∧
          ∀ (a : Nat) (e : Addr × List Int), G[a]? = some e → e.2 = if a < i ∨ a = t then elimL (snds F) t ch c a else swL (snds F) t ch a)
        ⟨none, F4, rfl, b4, L4, l4, d4, fun a e he => by rw [st a e he]; by_cases q : a = t <;> simp [q]⟩ ?_ ?_
      · rintro i σ H' hi ⟨v6, G, rfl, b', L', lG, d', sG⟩
        refine ⟨_, rfl, _, rfl, rfl, _, rfl, ?_⟩
        have hG : G[i]? = some G[i] := List.getElem?_eq_getElem (by omega)
        refine ite2 (fun q => ?_) (fun q => ?_)
        · have ne : i ≠ t := fun e => by
            subst e
            rw [Int.zero_add, decide_eq_true rfl] at q
            cases q
          have e2 := sG i _ hG
          rw [if_neg (by omega)] at e2
          have mG := List.mem_of_getElem? hG
          obtain ⟨dG, nG⟩ := L'.2 _ mG
          have ws : G[i].2.length = m ∧ ∀ w ∈ G[i].2, Wd w := by
            rw [e2]
            exact hw _ (swL_mem (by rw [snds_len]; exact ht) (by rw [snds_len]; exact hi))
          -- lines[at] = without(lines[at], column, pivot)
          refine ⟨_, rfl, _, rfl, L, _, _, _, rfl, rfl, SqL.of L'.1, at_of (j := i) (by omega) (refs_get hG), _, rfl, _, rfl, G[i].1, D, G[i].2, pivL (snds F) ch c, c, rfl, SqL.of dG, SqL.of d', by rw [ppl, ws.1], by omega, by omega, ws.2, fun W H5 s5 n5 d5 => ?_⟩
          have L5 := L'.same s5
          have nWL : W ≠ L := (ne_of_none L'.1 n5).symm
          refine ⟨_, rfl, _, rfl, L, _, _, i, rfl, rfl, L5.1, ?_, ?_⟩
          · rw [Int.zero_add]
            exact ixN_nat (by rw [refs_len]; omega)
          · rw [show (refs G).set i (V.ref W) = refs (G.set i (W, subL G[i].2 c (pivL (snds F) ch c))) by unfold refs; rw [List.map_set]]
            refine ⟨_, G.set i (W, subL G[i].2 c (pivL (snds F) ch c)), rfl, fun b o e n => ?_, LA.put fun e me => ?_, by rw [List.length_set]; exact lG, ?_, fun a e he => ?_⟩
            · rw [upd_ne n]
              exact s5 _ _ (b' b o e n)
            · rcases List.mem_or_eq_of_mem_set me with me | me
              · exact L5.2 e me
              · subst me
                exact ⟨d5, nWL⟩
            · rw [upd_ne nDL]
              exact s5 _ _ d'
            · rcases item_set he with ⟨q1, q2, _⟩ | ⟨q1, q2⟩
              · subst q1 q2
                rw [if_pos (.inl (by omega))]
                show subL G[i].2 c (pivL (snds F) ch c) = _
                unfold elimL
                rw [if_neg ne, e2]
              · rw [sG a e q2]
                by_cases q3 : a < i ∨ a = t
                · rw [if_pos q3, if_pos (by omega)]
                · rw [if_neg q3, if_neg (by omega)]
        · refine ⟨some (.int (0 + (i : Nat))), G, rfl, b', L', lG, d', fun a e he => ?_⟩
          have it : i = t := Classical.byContradiction fun ne => q (by rw [decide_eq_false (fun z' => ne (by have := V.int.inj z'; omega))]; rfl)
          rw [sG a e he]
          by_cases q3 : a < i ∨ a = t
          · rw [if_pos q3, if_pos (by omega)]
          · rw [if_neg q3, if_neg (by omega)]
      · rintro σ H' ⟨v6, G, rfl, b', L', lG, d', sG⟩
        refine k G H' b' L' (List.ext_getElem? fun a => ?_)
        unfold elimM
        rw [List.getElem?_map, List.getElem?_map, snds_len]
        by_cases ha : a < F.length
        · have hG : G[a]? = some G[a] := List.getElem?_eq_getElem (by omega)
          rw [hG, List.getElem?_range ha]
          have := sG a _ hG
          rw [if_pos (.inl ha)] at this
          exact congrArg some this
        · rw [List.getElem?_eq_none (l := G) (by omega), List.getElem?_eq_none (l := List.range F.length) (by simp; omega)]
          rfl
theorem sc_reduce_lines : FnScope ["lines", "columns", "pivots", "column", "chosen"] ["lines", "columns"] (defScope s_reduce_lines) := ⟨rfl, rfl, rfl, by decide +kernel, rfl, by decide +kernel, by decide +kernel⟩
theorem ok_reduce_lines (T : Txt K mg a) : FnOk P w K mg base CX0 3 a.f_reduce_lines a.d_reduce_lines ["lines", "columns"] (sp_reduce_lines K a) := by
  refine T.F_reduce_lines.ok sc_reduce_lines (fun vs H Q E h => ?len) (fun cdv A outer s H vs Q E hr h => ?body)
  case len =>
    exact sp_reduce_lines_len h
  case body =>
    obtain ⟨L, F, A, n, C, rfl, hL, hE, ln, lC, k⟩ := h
    refine ⟨_, (pss_cons (ps_set (i := 2) sc_reduce_lines.nd rfl (Or.inl rfl) (pe_lst pa_nil))
      (pss_cons (ps_for PassesOwn.never rfl (pi_range1 (by rfl) T.n_range (pa_cons (pv 1) pa_nil)) (pg_name (i := 3) sc_reduce_lines.nd rfl (Or.inl rfl))
      (pss_cons (ps_set (i := 4) sc_reduce_lines.nd rfl (Or.inl rfl) (pe_call (ok_pivot_index T) (hr.mono (by decide)) rfl T.g_pivot_index T.F_pivot_index.kp T.d_pivot_index .nil pass0 (pa_cons (pv 0) (pa_cons (pe_callB call_len_seq (by rfl) T.n_len PySem.boot_len (pa_cons (pv 2) pa_nil)) (pa_cons (pv 3) pa_nil)))))
      (pss_one (ps_if (pt_cmpR op_notN (pv 4) pe_non (nomark _))
      (pss_cons (ps_expr (pe_call (ok_eliminate T) (hr.mono (by decide)) rfl T.g_eliminate T.F_eliminate.kp T.d_eliminate .nil pass0 (pa_cons (pv 0) (pa_cons (pe_callB call_len_seq (by rfl) T.n_len PySem.boot_len (pa_cons (pv 2) pa_nil)) (pa_cons (pv 4) (pa_cons (pv 3) pa_nil))))))
      (pss_one (ps_expr (pe_bm PySem.F.plainAttrs_list PySem.F.slot_list_append PySem.F.type_list_append mt_append (pv 2) (pa_cons (pv 3) pa_nil)))))
      pss_nil))))
      (pss_one (ps_ret (pv 2))))), ?_⟩
    refine ⟨Nat.zero_le _, fun D nD => ?_⟩
    have nDL : D ≠ L := (ne_of_none hL.1 nD).symm
    refine ⟨_, rfl, _, rfl, by omega, by omega, ?_⟩
    rw [Int.toNat_natCast]
    refine for_range (lo := 0) (n := C) (fun i σ H' => ∃ (v3 v4 : Option V) (ps : List Nat) (G : List (Addr × List Int)), σ = [some (.ref L), some (.int (C : Int)), some (.ref D), v3, v4] ∧ But L H H' ∧ LA H' L G ∧ H' D = some (.lst (ps.map fun (p : Nat) => V.int (p : Int))) ∧ Ech A n C i ps (snds G))
      ⟨none, none, [], F, rfl, (Same.new nD).but, hL.same (Same.new nD), upd_same, hE⟩ ?_ ?_
    · rintro i σ H' hi ⟨v3, v4, ps, G, rfl, b', L', d', e'⟩
      have lG : G.length = n := by rw [← snds_len]; exact e'.len
      have rk := e'.rank
      have wid : ∀ l ∈ snds G, i < l.length ∧ ∀ w ∈ l, Wd w := fun l m => ⟨by rw [(e'.wid l m).1]; omega, (e'.wid l m).2⟩
      -- chosen = pivot_index(lines, len(pivots), column)
      refine ⟨_, rfl, _, rfl, D, _, rfl, .inl (SqL.of d'), _, rfl, L, G, ps.length, i, by rw [List.length_map, Int.zero_add]; rfl, L'.rl, by omega, by omega, wid, fun ch h1 h2 h3 => ?_, fun hz => ?_⟩
      · -- if chosen is not None
        refine ⟨_, rfl, rfl, _, rfl, ?_⟩
        refine ite2 (fun _ => ?_) (fun q => absurd rfl q)
        refine ⟨_, rfl, _, rfl, D, _, rfl, .inl (SqL.of d'), _, rfl, _, rfl, L, G, ps.length, ch, i, C + 1 + n, by rw [List.length_map, Int.zero_add]; rfl, L', by omega, by omega, h2, by omega, by omega, fun l m => e'.wid l m, h3, fun G' H2 b2 L2 hG' => ?_⟩
        have d2 := b2 _ _ d' nDL
        refine ⟨_, rfl, .inl ⟨rfl, _, SqL.of d2⟩, _, rfl, D, _, _, rfl, rfl, d2, small _ (by simp; omega), ?_⟩
        refine ⟨_, _, ps ++ [i], G', rfl, fun b o e n => ?_, ?_, ?_, ?_⟩
        · rw [upd_ne (ne_of_none e nD)]
          exact b2 b o (b' b o e n) n
        · refine ⟨by rw [upd_ne nDL.symm]; exact L2.1, fun e me => ⟨?_, (L2.2 e me).2⟩⟩
          rw [upd_ne (fun q => ?_)]
          · exact (L2.2 e me).1
          · have g := (L2.2 e me).1
            rw [q, d2] at g
            have g2 := HO.lst.inj (Option.some.inj g)
            have wl := ((e'.step h1 (by omega) h3).wid e.2 (by rw [← hG']; exact List.mem_map.mpr ⟨e, me, rfl⟩)).1
            have g3 := congrArg List.length g2
            rw [List.length_map, List.length_map] at g3
            omega
        · rw [upd_same, List.map_append, Int.zero_add]
          rfl
        · rw [hG']
          exact e'.step h1 (by omega) h3
      · refine ⟨_, rfl, rfl, _, rfl, ?_⟩
        refine ite2 (fun q => by cases q) (fun _ => ?_)
        exact ⟨_, _, ps, G, rfl, b', L', d', e'.skip fun j h1 h2 => hz j h1 (by omega)⟩
    · rintro σ H' ⟨v3, v4, ps, G, rfl, b', L', d', e'⟩
      exact ⟨_, rfl, k D ps G H' b' L' nD d' e'⟩
theorem sc_solve : FnScope ["rows", "right", "columns", "lines", "pivots", "line", "scale", "solution", "at", "column", "word"] ["rows", "right"] (defScope s_solve) := ⟨rfl, rfl, rfl, by decide +kernel, rfl, by decide +kernel, by decide +kernel⟩
theorem ok_solve (T : Txt K mg a) : FnOk P w K mg base (L2.CX P w) 4 a.f_solve a.d_solve ["rows", "right"] (sp_solve K a) := by
  refine T.F_solve.okX sc_solve (fun vs H Q E h => ?len) (fun cdv A outer s H vs Q E hr h => ?body)
  case len =>
    exact sp_solve_len h
  case body =>
    obtain ⟨R, S, F, right, rfl, hR, hS, lF, lC, kE, kQ⟩ := h
    refine ⟨_, (pss_cons (ps_expr (pe_call (ok_check_system T) (hr.mono (by decide)) rfl T.g_check_system T.F_check_system.kp T.d_check_system .nil (passes_call (takes_of rfl rfl rfl rfl) (fun _ _ _ _ z => z)) (pa_cons (pv 0) (pa_cons (pv 1) pa_nil))))
      (pss_cons (ps_set (i := 2) sc_solve.nd rfl (Or.inl rfl) (pe_callB call_len_seq (by rfl) T.n_len PySem.boot_len (pa_cons (pe_ix ix_list (pv 0) pe_int (fun _ _ => rfl)) pa_nil)))
      (pss_cons (ps_setLc (i := 3) (own := [("at", 8)]) (g := (gName 8)) (by rfl) sc_solve.nd rfl rfl (sw_true rfl rfl rfl (by decide +kernel)) (pi_range1 (by rfl) T.n_range (pa_cons (pe_callB call_len_seq (by rfl) T.n_len PySem.boot_len (pa_cons (pv 0) pa_nil)) pa_nil)) (blkOk_by (own := [("at", 8)]) (N := ["rows", "right", "columns", "lines", "pivots", "line", "scale", "solution", "at", "column", "word"]) (sc := defScope s_solve) (by decide +kernel))
      (fun _ _ _ _ _ => (pg_name (i := 8) sc_solve.nd rfl (Or.inl rfl))) (fun _ _ _ _ _ => pts_nil) (fun _ _ _ _ _ => (pe_call (ok_combination T) (hr.mono (by decide)) rfl T.g_combination T.F_combination.kp T.d_combination .nil pass0 (pa_cons (pv 0) (pa_cons (pv 1) (pa_cons (pv 8) pa_nil))))))
      (pss_cons (ps_set (i := 4) sc_solve.nd rfl (Or.inl rfl) (pe_call (ok_reduce_lines T) (hr.mono (by decide)) rfl T.g_reduce_lines T.F_reduce_lines.kp T.d_reduce_lines .nil pass0 (pa_cons (pv 3) (pa_cons (pv 2) pa_nil))))
      (pss_cons (ps_for (passes_of rfl) rfl (pi_list (pe_slice sl_list (pv 3) (po_some (pe_callB call_len_seq (by rfl) T.n_len PySem.boot_len (pa_cons (pv 4) pa_nil))) po_none)) (pg_name (i := 5) sc_solve.nd rfl (Or.inl rfl))
      (pss_one (ps_if (pt_cmpR op_ne (pe_ix ix_list (pv 5) (pv 2) (fun _ _ => rfl)) pe_int (nomark _))
      (pss_cons (ps_set (i := 6) sc_solve.nd rfl (Or.inr rfl) (pe_call (ok_inverse T) (hr.mono (by decide)) rfl T.g_inverse T.F_inverse.kp T.d_inverse .nil (passes_call (takes_of rfl rfl rfl rfl) (fun _ _ _ _ z => z)) (pa_cons (pe_ix ix_list (pv 5) (pv 2) (fun _ _ => rfl)) pa_nil)))
      (pss_one (ps_ret (pe_tup (pa_cons pe_non (pa_cons (pe_lc (own := [("word", 10)]) (g := (gName 10)) (by rfl) sc_solve.nd (pi_list (pe_slice sl_list (pv 5) (po_some (pe_op op_add (pv 2) pe_int)) po_none)) (blkOk_by (own := [("word", 10)]) (N := ["rows", "right", "columns", "lines", "pivots", "line", "scale", "solution", "at", "column", "word"]) (sc := defScope s_solve) (by decide +kernel))
      (fun _ _ _ _ _ => (pg_name (i := 10) sc_solve.nd rfl (Or.inl rfl))) (fun _ _ _ _ _ => pts_nil) (fun _ _ _ _ _ => (pe_op op_mod (pe_op op_mul (pv 10) (pv 6)) (pe_const T.g_PRIME)))) pa_nil))))))
      pss_nil)))
      (pss_cons (ps_set (i := 7) sc_solve.nd rfl (Or.inl rfl) (pe_op op_rep (pe_lst (pa_cons pe_int pa_nil)) (pv 2)))
      (pss_cons (ps_for (passes_of rfl) rfl (pi_enum (by rfl) T.n_enumerate (pa_cons (pv 4) pa_nil)) (pg_tup rfl (pgs_cons (pg_name (i := 8) sc_solve.nd rfl (Or.inl rfl)) (pgs_cons (pg_name (i := 9) sc_solve.nd rfl (Or.inl rfl)) pgs_nil)))
      (pss_one (ps_asg (pe_ix ix_list (pe_ix ix_list (pv 3) (pv 8) (fun _ _ => rfl)) (pv 2) (fun _ _ => rfl)) (pg_sub (pv 7) (pv 9) set_list))))
      (pss_one (ps_ret (pe_tup (pa_cons (pv 7) (pa_cons pe_non pa_nil)))))))))))), ?_⟩
    refine ⟨_, rfl, _, rfl, R, S, F, right, rfl, hR, hS, kE, fun nb H1 s1 => ?_⟩
    obtain ⟨kS, kR⟩ := kQ nb
    have R1 := hR.same s1
    have S1 := s1.seq hS
    have Fne : F ≠ [] := fun e => nb (.inl (by rw [e]; rfl))
    have lp := List.length_pos_iff.mpr Fne
    have h0 : F[0]? = some F[0] := List.getElem?_eq_getElem lp
    have m0 := List.mem_of_getElem? h0
    have e0 : (snds F).getD 0 [] = F[0].2 := snds_get h0
    have hrow : ∀ e ∈ F, e.2.length = F[0].2.length := fun e me => Classical.byContradiction fun q => nb (.inr (.inl ⟨e.2, List.mem_map.mpr ⟨e, me, rfl⟩, by rw [e0]; exact q⟩))
    have hlr : right.length = F.length := Classical.byContradiction fun q => nb (.inr (.inr (.inr (by rw [snds_len]; exact q))))
    rw [e0] at lC kS kR
    have hk : ∀ k, k < F.length → ((snds F).getD k []).length = F[0].2.length := fun k hk => by
      have hF : F[k]? = some F[k] := List.getElem?_eq_getElem hk
      rw [snds_get hF]
      exact hrow _ (List.mem_of_getElem? hF)
    -- columns = len(rows[0])
    refine ⟨_, rfl, R, _, _, _, rfl, rfl, R1.1, at_of (j := 0) rfl (refs_get h0), F[0].1, _, rfl, .inl (R1.2 _ m0), ?_⟩
    rw [List.length_map]
    -- lines = [combination(rows, right, at) for at in range(len(rows))]
    refine ⟨_, rfl, R, _, rfl, .inl R1.1, _, rfl, by omega, by rw [refs_len]; omega, ?_⟩
    rw [Int.toNat_natCast, refs_len]
    refine fun L nL => lc_it walk_range (fun i H' => ∃ G : List (Addr × List Int), Same H1 H' ∧ LA H' L G ∧ snds G = (List.range i).map (combL (snds F) right F.length)) ⟨[], Same.new nL, ⟨upd_same, fun _ m => nomatch m⟩, rfl⟩ (fun _ _ _ _ => True.intro) ?_ ?_
    · rintro i y H2 H3 hi ⟨G, s2, L2, hG⟩ ⟨rfl, rfl⟩
      refine ⟨rfl, _, rfl, _, rfl, _, rfl, R, S, F, right, i, by show [V.ref R, V.ref S, V.int (0 + (i : Int))] = _; rw [Int.zero_add], R1.same s2, s2.seq S1, hi, hlr, lF, by rw [hk i hi]; exact lC, fun D H4 s4 n4 d4 => ?_⟩
      have L4 := L2.same s4
      have nDL : D ≠ L := (ne_of_none L2.1 n4).symm
      have lG : G.length = i := by
        have := congrArg List.length hG
        rw [snds_len, List.length_map, List.length_range] at this
        exact this
      refine ⟨_, L4.1, small _ (by rw [refs_len]; omega), G ++ [(D, combL (snds F) right F.length i)], same_put (s2.trans s4) nL, ?_, ?_⟩
      · have e : refs G ++ [V.ref D] = refs (G ++ [(D, combL (snds F) right F.length i)]) := by unfold refs; rw [List.map_append]; rfl
        rw [e]
        refine LA.put fun e me => ?_
        rcases List.mem_append.mp me with me | me
        · exact L4.2 e me
        · have : e = (D, combL (snds F) right F.length i) := by simpa using me
          subst this
          exact ⟨d4, nDL⟩
      · rw [List.range_succ, List.map_append]
        show (G ++ [(D, combL (snds F) right F.length i)]).map (·.2) = _
        rw [List.map_append]
        show snds G ++ _ = _
        rw [hG]
        rfl
    · rintro H2 ⟨G, s2, L2, hG⟩
      have E0 : Ech (sysA (snds F) right F[0].2.length) F.length F[0].2.length 0 [] (snds G) := by
        rw [hG]
        exact Ech.start hk
      -- pivots = reduce_lines(lines, columns)
      refine ⟨_, rfl, _, rfl, L, G, _, F.length, F[0].2.length, rfl, L2, E0, lF, lC, fun P ps G' H3 b3 L3 nP dP Ee => ?_⟩
      have s3 : Same H H3 := b3.same (s1.trans s2) (s1.free nL)
      have lG : G'.length = F.length := by rw [← snds_len]; exact Ee.len
      have rk := Ee.rank
      have wid := Ee.wid
      -- for line in lines[len(pivots):]
      refine ⟨_, rfl, _, rfl, P, _, rfl, .inl (SqL.of dP), _, rfl, L, _, rfl, SqL.of L3.1, fun q nq => ?_⟩
      rw [List.length_map, cut_drop]
      have sq := Same.new (o := .lst ((refs G').drop ps.length)) nq
      have L4 := L3.same sq
      have dP4 := sq _ _ dP
      have s4 := s3.trans sq
      have dq : upd H3 q (.lst ((refs G').drop ps.length)) q = some (.lst ((refs G').drop ps.length)) := upd_same
      generalize upd H3 q (.lst ((refs G').drop ps.length)) = H4 at L4 dP4 s4 dq ⊢
      refine ⟨q, rfl, ⟨_, SqL.of dq⟩, for_list (K := K) (a := q) (xs := (refs G').drop ps.length) (fun i σ H' => ∃ v5 v6 : Option V, σ = [some (.ref R), some (.ref S), some (.int (F[0].2.length : Int)), some (.ref L), some (.ref P), v5, v6, none, none, none, none] ∧ H' = H4 ∧ ∀ j : Nat, ps.length ≤ j → j < ps.length + i → col ((snds G').getD j []) F[0].2.length = 0)
        ⟨none, none, rfl, rfl, fun j h1 h2 => absurd h1 (by omega)⟩ (fun i σ H' _ ⟨_, _, _, e, _⟩ => by rw [e]; exact SqL.of dq) ?_ ?_⟩
      · rintro i y σ H' hi ⟨v5, v6, rfl, rfl, hz⟩
        rw [List.getElem?_drop] at hi
        obtain ⟨e, he, rfl⟩ := refs_item hi
        have me := List.mem_of_getElem? he
        have ml : e.2 ∈ snds G' := List.mem_map.mpr ⟨e, me, rfl⟩
        have we := wid _ ml
        have de := (L4.2 e me).1
        have hc : e.2[F[0].2.length]? = some e.2[F[0].2.length] := List.getElem?_eq_getElem (by omega)
        obtain ⟨w0, w1⟩ := we.2 _ (List.getElem_mem (show F[0].2.length < e.2.length by omega))
        have ec : col ((snds G').getD (ps.length + i) []) F[0].2.length = z e.2[F[0].2.length] := by rw [snds_get he, col_in hc]
        refine ⟨_, rfl, _, rfl, e.1, _, _, _, rfl, rfl, SqL.of de, at_of (j := F[0].2.length) rfl (by rw [List.getElem?_map, hc]; rfl), rfl, _, rfl, ?_⟩
        refine ite2 (fun qn => ?_) (fun qn => ?_)
        · have nz : e.2[F[0].2.length] % 65521 ≠ 0 := fun z0 => by
            have e1 : e.2[F[0].2.length] = 0 := by omega
            rw [e1] at qn
            simp at qn
          obtain ⟨i0, i1, i2⟩ := invP_spec nz
          -- scale = inverse(line[columns])
          refine ⟨_, rfl, _, rfl, e.1, _, _, _, rfl, rfl, SqL.of de, at_of (j := F[0].2.length) rfl (by rw [List.getElem?_map, hc]; rfl), e.2[F[0].2.length], rfl, fun z' => absurd z' nz, fun _ H5 s5 => ?_⟩
          have de5 := s5 _ _ de
          -- return None, [word * scale % PRIME for word in line[columns + 1:]]
          refine ⟨_, rfl, _, rfl, _, _, rfl, rfl, ((F[0].2.length + 1 : Nat) : Int), rfl, e.1, _, rfl, SqL.of de5, fun u nu => ?_⟩
          rw [cut_drop, ← List.map_drop]
          have su := Same.new (o := .lst ((e.2.drop (F[0].2.length + 1)).map V.int)) nu
          refine ⟨u, rfl, ⟨_, SqL.of upd_same⟩, fun W nW => ?_⟩
          have nuW : u ≠ W := ne_of_none upd_same nW
          have s6 := (s4.trans s5).trans su
          have nW0 := s6.free nW
          refine lc_list (K := K) (a := u) (xs := (e.2.drop (F[0].2.length + 1)).map V.int) (fun i H' => Same H H' ∧ SqL K H' u ((e.2.drop (F[0].2.length + 1)).map V.int) ∧ H' W = some (.lst (((scaleL (e.2.drop (F[0].2.length + 1)) (invP e.2[F[0].2.length])).take i).map V.int))) ⟨same_put s6 nW0, seq_off (SqL.of upd_same) nuW, upd_same⟩ (fun i H' _ p => p.2.1) ?_ ?_
          · rintro i' y' H6 hi' ⟨s6', u6, d6⟩
            obtain ⟨x, hx, rfl⟩ := int_item hi'
            have wx := we.2 x (List.mem_of_mem_drop (List.mem_of_getElem? hx))
            have lx := item_lt hx
            rw [List.length_drop] at lx
            have e3 : (scaleL (e.2.drop (F[0].2.length + 1)) (invP e.2[F[0].2.length]))[i']? = some (x * invP e.2[F[0].2.length] % 65521) := by unfold scaleL; rw [List.getElem?_map, hx]; rfl
            refine ⟨rfl, _, rfl, _, rfl, _, _, rfl, rfl, .inl ⟨by have := wx.1; omega, by have := wx.2; omega⟩, _, _, rfl, rfl, (by show (0 : Int) < 65521; decide), _, d6, small _ (by simp; omega), same_put s6' nW0, seq_off u6 nuW, ?_⟩
            rw [upd_same, take_snoc e3, List.map_append]
            rfl
          · rintro H6 ⟨s6', u6, d6⟩
            rw [List.take_of_length_le (by rw [List.length_map, scaleL_len]; exact Nat.le_refl _)] at d6
            refine ⟨(by show 2 ≤ sizeLine; decide), fun t nt => ?_⟩
            have st := Same.new (o := .tup [V.non, V.ref W]) nt
            have inv1 : col e.2 F[0].2.length * z (invP e.2[F[0].2.length]) = 1 := by
              rw [col_in hc]
              exact z_invP fun z' => nz ((z_z _).mp z')
            have cf : ∀ k, col (scaleL (e.2.drop (F[0].2.length + 1)) (invP e.2[F[0].2.length])) k = col e.2 (F[0].2.length + 1 + k) * z (invP e.2[F[0].2.length]) := fun k => by
              rw [col_scale]
              congr 1
              unfold col
              rw [List.getD_eq_getElem?_getD, List.getD_eq_getElem?_getD, List.getElem?_drop]
            have cb := Ee.comb _ ml
            refine kR t W (scaleL (e.2.drop (F[0].2.length + 1)) (invP e.2[F[0].2.length])) _ (s6'.trans st) upd_same (st _ _ d6) ?_ (scaleL_wd _ _) ⟨fun j hj => ?_, ?_⟩
            · rw [scaleL_len, List.length_drop, we.1]
              omega
            · have c1 := cb j (by omega)
              have c2 : col e.2 j = 0 := by
                have lt := item_lt he
                have := Ee.zero (ps.length + i) j (by omega) (by omega) hj
                rw [snds_get he] at this
                exact this
              rw [snds_len]
              have : (sumR F.length fun k => col ((snds F).getD k []) j * col (scaleL (e.2.drop (F[0].2.length + 1)) (invP e.2[F[0].2.length])) k) = (sumR F.length fun k => col e.2 (F[0].2.length + 1 + k) * sysA (snds F) right F[0].2.length k j) * z (invP e.2[F[0].2.length]) := by
                rw [← sumR_mul]
                refine sumR_ext fun k _ => ?_
                rw [cf k]
                unfold sysA
                rw [if_pos hj]
                grind
              rw [this, ← c1, c2]
              grind
            · have c1 := cb F[0].2.length (Nat.le_refl _)
              rw [snds_len]
              have : (sumR F.length fun k => z (right.getD k 0) * col (scaleL (e.2.drop (F[0].2.length + 1)) (invP e.2[F[0].2.length])) k) = (sumR F.length fun k => col e.2 (F[0].2.length + 1 + k) * sysA (snds F) right F[0].2.length k F[0].2.length) * z (invP e.2[F[0].2.length]) := by
                rw [← sumR_mul]
                refine sumR_ext fun k _ => ?_
                rw [cf k]
                unfold sysA
                rw [if_neg (by omega)]
                grind
              rw [this, ← c1, inv1]
        · refine ⟨_, _, rfl, rfl, fun j h1 h2 => ?_⟩
          by_cases ej : j = ps.length + i
          · subst ej
            rw [ec]
            have e1 : e.2[F[0].2.length] = 0 := Classical.byContradiction fun ne => qn (by rw [decide_eq_false (fun z' => ne (V.int.inj z'))]; rfl)
            rw [e1]
            exact z_zero
          · exact hz j h1 (by omega)
      · rintro σ H' ⟨v5, v6, rfl, rfl, hz⟩
        rw [List.length_drop, refs_len] at hz
        -- solution = [0] * columns
        refine ⟨(by show 1 ≤ sizeLine; decide), fun u nu => ?_⟩
        have su := Same.new (o := .lst [V.int 0]) nu
        refine ⟨_, rfl, u, _, _, rfl, rfl, upd_same, by omega, by omega, ?_, fun D nD => ?_⟩
        · rw [Int.toNat_natCast]
          exact Nat.le_of_lt (small _ (by simp; omega))
        rw [Int.toNat_natCast, rep_zero]
        have sD := su.trans (Same.new (o := .lst ((List.replicate F[0].2.length (0 : Int)).map V.int)) nD)
        have nD4 := su.free nD
        have nD0 := s4.free nD4
        have eP : (ps.map fun (p : Nat) => V.int (p : Int)) = (ps.map fun (p : Nat) => (p : Int)).map V.int := by rw [List.map_map]; rfl
        rw [eP] at dP4
        -- for at, column in enumerate(pivots)
        refine ⟨_, rfl, P, _, rfl, SqL.of (sD _ _ dP4), for_it walk_enum (fun i σ H'' => ∃ (v8 v9 : Option V) (x : List Int), σ = [some (.ref R), some (.ref S), some (.int (F[0].2.length : Int)), some (.ref L), some (.ref P), v5, v6, some (.ref D), v8, v9, none] ∧ Same H' H'' ∧ H'' D = some (.lst (x.map V.int)) ∧ x.length = F[0].2.length ∧ (∀ w ∈ x, Wd w) ∧
            (∀ l : List Int, sumR F[0].2.length (fun c => col l c * col x c) = sumR i fun j => col l (ps.getD j 0) * col ((snds G').getD j []) F[0].2.length) ∧ ∀ (j p : Nat), i ≤ j → ps[j]? = some p → col x p = 0)
          ⟨none, none, _, rfl, sD, upd_same, by simp, fun w m => by rw [(List.mem_replicate.mp m).2]; exact ⟨by decide, by decide⟩, fun l => by
            show _ = (0 : Zp)
            refine sumR_zero fun c hc => ?_
            have : col (List.replicate F[0].2.length (0 : Int)) c = 0 := by rw [col_in (w := 0) (by rw [List.getElem?_replicate, if_pos hc]), z_zero]
            rw [this]
            grind, fun j p _ hp => by rw [col_in (w := 0) (by rw [List.getElem?_replicate, if_pos (Ee.below p (List.mem_of_getElem? hp))]), z_zero]⟩ (fun i σ H' _ ⟨_, _, _, _, s, _⟩ => s.seq (SqL.of dP4)) ?_ ?_⟩
        · rintro i y σ H5 H6 hi ⟨v8, v9, x, rfl, s5, d5, lx, wx, hx, hx0⟩ ⟨T, a', b', rfl, nT, rfl, ha, hb⟩
          cases ha
          obtain ⟨p', hp', rfl⟩ := int_item hb
          rw [List.getElem?_map] at hp'
          obtain ⟨p, hp, rfl⟩ : ∃ p : Nat, ps[i]? = some p ∧ p' = (p : Int) := by
            cases q : ps[i]? with
            | none => rw [q] at hp'; cases hp'
            | some p => rw [q] at hp'; exact ⟨p, rfl, (Option.some.inj hp').symm⟩
          have sT := Same.new (o := .tup [V.int (i : Nat), V.int (p : Int)]) nT
          have li := item_lt hp
          have pC := Ee.below p (List.mem_of_getElem? hp)
          have hGi : G'[i]? = some G'[i] := List.getElem?_eq_getElem (by omega)
          have mGi := List.mem_of_getElem? hGi
          have we := wid _ (List.mem_map.mpr ⟨_, mGi, rfl⟩)
          have hc : G'[i].2[F[0].2.length]? = some G'[i].2[F[0].2.length] := List.getElem?_eq_getElem (by omega)
          have L6 := (L4.same s5).same sT
          refine ⟨T, _, rfl, SqT.of upd_same, rfl, _, _, rfl, _, _, rfl, rfl, ?_⟩
          -- solution[column] = lines[at][columns]
          refine ⟨_, rfl, _, rfl, L, _, _, _, rfl, rfl, SqL.of L6.1, at_of (j := i) rfl (refs_get hGi), _, rfl, G'[i].1, _, _, _, rfl, rfl, SqL.of (L6.2 _ mGi).1, at_of (j := F[0].2.length) rfl (by rw [List.getElem?_map, hc]; rfl), _, rfl, _, rfl, D, _, _, p, rfl, rfl, sT _ _ d5, ixN_nat (by rw [List.length_map]; omega), ?_⟩
          rw [← List.map_set]
          have cset : ∀ c, c ≠ p → col (x.set p G'[i].2[F[0].2.length]) c = col x c := fun c ne => by
            unfold col
            rw [List.getD_eq_getElem?_getD, List.getD_eq_getElem?_getD, List.getElem?_set, if_neg (fun q => ne q.symm)]
          have cp : col (x.set p G'[i].2[F[0].2.length]) p = col ((snds G').getD i []) F[0].2.length := by
            rw [snds_get hGi, col_in hc, col_in (w := G'[i].2[F[0].2.length])]
            rw [List.getElem?_set, if_pos rfl, if_pos (by omega)]
          refine ⟨_, _, x.set p G'[i].2[F[0].2.length], rfl, same_put (s5.trans sT) nD4, upd_same, by rw [List.length_set]; exact lx, fun w m => ?_, fun l => ?_, fun j p2 hj hp2 => ?_⟩
          · rcases List.mem_or_eq_of_mem_set m with m | m
            · exact wx w m
            · rw [m]
              exact we.2 _ (List.getElem_mem _)
          · rw [sum_put (a := col l) (x := col x) (y := col (x.set p G'[i].2[F[0].2.length])) pC (hx0 i p (Nat.le_refl _) hp) cp cset, hx l]
            show _ = sumR i _ + col l (ps.getD i 0) * _
            rw [getD_item hp]
          · by_cases e : p2 = p
            · subst e
              have := Ee.apart hp hp2
              omega
            · rw [cset p2 e]
              exact hx0 j p2 (by omega) hp2
        · rintro σ H5 ⟨v8, v9, x, rfl, s5, d5, lx, wx, hx, hx0⟩
          rw [List.length_map, List.length_map] at hx
          -- return solution, None
          refine ⟨_, rfl, (by show 2 ≤ sizeLine; decide), fun t nt => ?_⟩
          have st := Same.new (o := .tup [V.ref D, V.non]) nt
          refine kS t D x _ ((s4.trans s5).trans st) upd_same (st _ _ d5) lx wx fun k hk' => ?_
          rw [snds_len] at hk'
          have := Ee.solves (fun i h1 h2 => hz i h1 (by omega)) (x := col x) hx k hk'
          rw [lx]
          have e : sysA (snds F) right F[0].2.length k F[0].2.length = z (right.getD k 0) := if_neg (by omega)
          rw [e] at this
          rw [← this]
          refine sumR_ext fun j hj => ?_
          unfold sysA
          rw [if_pos hj]
theorem sc_law_pot : FnScope ["script", "seed", "cell"] ["script"] (defScope s_law_pot) := ⟨rfl, rfl, rfl, by decide +kernel, rfl, by decide +kernel, by decide +kernel⟩
theorem ok_law_pot (T : Txt K mg a) : FnOk P w K mg base CX0 1 a.f_law_pot a.d_law_pot ["script"] (sp_law_pot K a) := by
  refine T.F_law_pot.ok sc_law_pot (fun vs H Q E h => ?len) (fun cdv A outer s H vs Q E hr h => ?body)
  case len =>
    exact sp_law_pot_len h
  case body =>
    obtain ⟨s, ns, rfl, hS, hlen, k⟩ := h
    refine ⟨_, (pss_cons (ps_set (i := 1) sc_law_pot.nd rfl (Or.inl rfl) pe_int)
      (pss_cons (ps_for PassesOwn.never rfl (pi_list (pv 0)) (pg_name (i := 2) sc_law_pot.nd rfl (Or.inl rfl))
      (pss_one (ps_set (i := 1) sc_law_pot.nd rfl (Or.inl rfl) (pe_op op_mod (pe_callTy call_int1 (by rfl) T.n_int (by decide +kernel) (pa_cons (pe_op op_add (pe_op op_mul (pv 1) pe_int) (pv 2)) pa_nil)) pe_int))))
      (pss_one (ps_ret (pe_lst (pa_cons (pe_callTy call_list_of (by rfl) T.n_list (by decide +kernel) (pa_cons (pv 0) pa_nil)) (pa_cons pe_int (pa_cons pe_int (pa_cons (pv 1) pa_nil))))))))), ?_⟩
    refine ⟨_, rfl, s, rfl, ⟨_, hS⟩, for_list (K := K) (a := s) (xs := ns.map V.int) (fun i σ H' => ∃ (z : Int) (v : Option V), σ = [some (.ref s), some (.int z), v] ∧ 0 ≤ z ∧ z < 2147483647 ∧ H' = H)
      ⟨1, none, rfl, by decide, by decide, rfl⟩ (fun i σ H' _ ⟨_, _, _, _, _, e⟩ => by rw [e]; exact hS) ?_ ?_⟩
    · rintro i y σ H' hi ⟨z, v, rfl, z0, z1, rfl⟩
      obtain ⟨c, hc, rfl⟩ := int_item hi
      refine ⟨_, rfl, _, _, rfl, rfl, .inl ⟨by omega, by omega⟩, _, rfl, _, _, rfl, rfl, .inl ⟨_, rfl, _, _, rfl, rfl, (by show (0 : Int) < 2147483647; decide), ?_⟩⟩
      exact ⟨_, _, rfl, Int.emod_nonneg _ (by decide), Int.emod_lt_of_pos _ (by decide), rfl⟩
    · rintro σ H' ⟨z, v, rfl, z0, z1, rfl⟩
      refine ⟨_, rfl, s, _, rfl, .inl hS, fun l hl => ?_⟩
      refine ⟨_, rfl, (by show 4 ≤ sizeLine; decide), fun p hp => ?_⟩
      have npl : l ≠ p := fun e => by subst e; rw [upd_same] at hp; cases hp
      have hp0 : H' p = none := by rw [upd_ne npl.symm] at hp; exact hp
      refine k p l _ hp0 hl (fun b o e => ?_) ⟨ns, 0, 0, z, upd_same, by rw [upd_ne npl, upd_same], by decide, by decide, z0, z1⟩
      rw [upd_ne (ne_of_none e hp0), upd_ne (ne_of_none e hl)]
      exact e
theorem sc_law_next : FnScope ["pot", "limit", "cell", "found", "mixed"] ["pot", "limit"] (defScope s_law_next) := ⟨rfl, rfl, rfl, by decide +kernel, rfl, by decide +kernel, by decide +kernel⟩
theorem ok_law_next (T : Txt K mg a) : FnOk P w K mg base CX0 1 a.f_law_next a.d_law_next ["pot", "limit"] (sp_law_next K a) := by
  refine T.F_law_next.ok sc_law_next (fun vs H Q E h => ?len) (fun cdv A outer s H vs Q E hr h => ?body)
  case len =>
    exact sp_law_next_len h
  case body =>
    obtain ⟨p, l, m, rfl, hP, m0, m1, k⟩ := h
    obtain ⟨ns, i, acc, seed, h1, h2, i0, acc0, s0, s1⟩ := id hP
    have nlp := hP.ne
    have mod0 : ∀ x : Int, 0 ≤ x % m := fun x => Int.emod_nonneg _ (by omega)
    have mod1 : ∀ x : Int, x % m < m := fun x => Int.emod_lt_of_pos _ m0
    refine ⟨_, (Evl.pss_cut (ps_if (PW.pt (pw_and (pt_cmpR op_eq (pe_ix ix_list (pv 0) pe_int (fun _ _ => rfl)) pe_int (nomark _)) (pw_and1 (pt_cmpR op_lt (pe_ix ix_list (pv 0) pe_int (fun _ _ => rfl)) (pe_callB call_len_seq (by rfl) T.n_len PySem.boot_len (pa_cons (pe_ix ix_list (pv 0) pe_int (fun _ _ => rfl)) pa_nil)) (nomark _)))))
      (pss_cons (ps_set (i := 2) sc_law_next.nd rfl (Or.inl rfl) (pe_callB call_abs (by rfl) T.n_abs (by decide +kernel) (pa_cons (pe_callTy call_int1 (by rfl) T.n_int (by decide +kernel) (pa_cons (pe_ix ix_list (pe_ix ix_list (pv 0) pe_int (fun _ _ => rfl)) (pe_ix ix_list (pv 0) pe_int (fun _ _ => rfl)) (fun _ _ => rfl)) pa_nil)) pa_nil)))
      (pss_cons (ps_asg (pe_op op_add (pe_ix ix_list (pv 0) pe_int (fun _ _ => rfl)) pe_int) (pg_sub (pv 0) pe_int set_list))
      (pss_cons (ps_if (pt_cmpR op_lt (pv 2) (pe_op op_pow pe_int pe_int) (nomark _))
      (pss_one (ps_ret (pe_op op_mod (pe_callTy call_int1 (by rfl) T.n_int (by decide +kernel) (pa_cons (pv 2) pa_nil)) (pv 1))))
      pss_nil)
      (pss_one (ps_asg (pv 2) (pg_sub (pv 0) pe_int set_list))))))
      pss_nil)
      (pss_cons (ps_if (pt_cmpR op_gt (pe_ix ix_list (pv 0) pe_int (fun _ _ => rfl)) pe_int (nomark _))
      (pss_cons (ps_set (i := 3) sc_law_next.nd rfl (Or.inl rfl) (pe_op op_mod (pe_callTy call_int1 (by rfl) T.n_int (by decide +kernel) (pa_cons (pe_ix ix_list (pv 0) pe_int (fun _ _ => rfl)) pa_nil)) (pv 1)))
      (pss_cons (ps_asg (pe_op op_fdiv (pe_ix ix_list (pv 0) pe_int (fun _ _ => rfl)) (pv 1)) (pg_sub (pv 0) pe_int set_list))
      (pss_one (ps_ret (pv 3)))))
      pss_nil)
      (pss_cons (ps_asg (pe_op op_mod (pe_callTy call_int1 (by rfl) T.n_int (by decide +kernel) (pa_cons (pe_op op_add (pe_op op_mul (pe_ix ix_list (pv 0) pe_int (fun _ _ => rfl)) pe_int) pe_int) pa_nil)) pe_int) (pg_sub (pv 0) pe_int set_list))
      (pss_cons (ps_set (i := 4) sc_law_next.nd rfl (Or.inl rfl) (pe_op op_mod (pe_callTy call_int1 (by rfl) T.n_int (by decide +kernel) (pa_cons (pe_op op_add (pe_op op_mul (pe_ix ix_list (pv 0) pe_int (fun _ _ => rfl)) pe_int) (pe_op op_fdiv (pe_ix ix_list (pv 0) pe_int (fun _ _ => rfl)) pe_int)) pa_nil)) pe_int))
      (pss_one (ps_ret (pe_op op_mod (pe_callTy call_int1 (by rfl) T.n_int (by decide +kernel) (pa_cons (pv 4) pa_nil)) (pv 1)))))))), ?_⟩
    refine ⟨fun σ H' => ∃ (u : Option V) (i' acc' : Int), σ = [some (.ref p), some (.int m), u, none, none] ∧ H' p = some (.lst [.ref l, .int i', .int acc', .int seed]) ∧ 0 ≤ i' ∧ 0 ≤ acc' ∧ Only p H H', ?_, ?_⟩
    · -- if pot[2] == 0 and pot[1] < len(pot[0])
      refine ⟨_, rfl, p, _, _, _, rfl, rfl, SqL.of h1, at_of (j := 2) rfl rfl, rfl, _, rfl, ?_⟩
      refine ite2 (fun e2 => ?_) (fun e2 => iteF ⟨none, i, acc, rfl, h1, i0, acc0, Only.refl⟩)
      refine ⟨_, rfl, p, _, _, _, rfl, rfl, SqL.of h1, at_of (j := 1) rfl rfl, _, rfl, p, _, _, _, rfl, rfl, SqL.of h1, at_of (j := 0) rfl rfl, l, _, rfl, .inl (SqL.of h2), _, _, rfl, rfl, _, rfl, ?_⟩
      refine ite2 (fun e3 => ?_) (fun e3 => ⟨none, i, acc, rfl, h1, i0, acc0, Only.refl⟩)
      have i1 : i < (ns.length : Int) := by
        have := of_decide_eq_true e3
        rw [List.length_map] at this
        exact this
      obtain ⟨j, rfl⟩ : ∃ j : Nat, i = (j : Int) := ⟨i.toNat, by omega⟩
      have hj : j < ns.length := by omega
      have hit : (ns.map V.int)[j]? = some (V.int ns[j]) := by rw [List.getElem?_map, List.getElem?_eq_getElem hj]; rfl
      -- cell = abs(int(pot[0][pot[1]])); pot[1] = pot[1] + 1
      refine ⟨_, rfl, p, _, _, _, rfl, rfl, SqL.of h1, at_of (j := 0) rfl rfl, _, rfl, p, _, _, _, rfl, rfl, SqL.of h1, at_of (j := 1) rfl rfl, l, _, _, _, rfl, rfl, SqL.of h2, at_of (j := j) rfl hit, .inl ⟨_, rfl, _, rfl, ?_⟩⟩
      have abs0 : 0 ≤ (if ns[j] < 0 then -ns[j] else ns[j]) := by split <;> omega
      generalize (if ns[j] < 0 then -ns[j] else ns[j]) = c at abs0 ⊢
      refine ⟨_, rfl, p, _, _, _, rfl, rfl, SqL.of h1, at_of (j := 1) rfl rfl, _, _, rfl, rfl, _, rfl, p, _, _, 1, rfl, rfl, h1, rfl, ?_⟩
      have g1 : upd H p (.lst (List.set [V.ref l, V.int (j : Int), V.int acc, V.int seed] 1 (V.int ((j : Int) + 1)))) p = some (.lst [.ref l, .int ((j : Int) + 1), .int acc, .int seed]) := upd_same
      -- if cell < 10 ** 18: return int(cell) % limit
      refine ⟨_, rfl, _, _, rfl, rfl, ⟨by decide, by decide, by decide⟩, _, _, rfl, rfl, _, rfl, ?_⟩
      refine ite2 (fun e4 => ?_) (fun e4 => ?_)
      · refine ⟨_, rfl, .inl ⟨_, rfl, _, rfl, _, _, rfl, rfl, m0, ?_⟩⟩
        exact k _ _ (mod0 _) (mod1 _) ⟨ns, _, _, _, g1, by rw [upd_ne nlp]; exact h2, by omega, acc0, s0, s1⟩ Only.upd
      · -- pot[2] = cell
        refine ⟨_, rfl, _, rfl, p, _, _, 2, rfl, rfl, g1, rfl, ?_⟩
        exact ⟨_, (j : Int) + 1, c, rfl, upd_same, by omega, abs0, Only.upd.trans Only.upd⟩
    · rintro σ H' ⟨u, i', acc', rfl, g1, i0', acc0', oH⟩
      have g2 : H' l = some (.lst (ns.map V.int)) := by rw [oH _ nlp]; exact h2
      -- if pot[2] > 0
      refine ⟨_, rfl, p, _, _, _, rfl, rfl, SqL.of g1, at_of (j := 2) rfl rfl, _, _, rfl, rfl, _, rfl, ?_⟩
      refine ite2 (fun e2 => ?_) (fun e2 => ?_)
      · refine ⟨_, rfl, p, _, _, _, rfl, rfl, SqL.of g1, at_of (j := 2) rfl rfl, .inl ⟨_, rfl, _, rfl, _, _, rfl, rfl, m0, ?_⟩⟩
        refine ⟨_, rfl, p, _, _, _, rfl, rfl, SqL.of g1, at_of (j := 2) rfl rfl, _, rfl, _, _, rfl, rfl, ⟨m0, m1⟩, _, rfl, p, _, _, 2, rfl, rfl, g1, rfl, ?_⟩
        refine ⟨_, rfl, ?_⟩
        exact k _ _ (mod0 _) (mod1 _) ⟨ns, i', acc' / m, seed, upd_same, by rw [upd_ne nlp]; exact g2, i0', Int.ediv_nonneg acc0' (by omega), s0, s1⟩ (oH.trans Only.upd)
      · -- pot[3] = int(pot[3] * 48271 + 12345) % 2147483647
        refine ⟨_, rfl, p, _, _, _, rfl, rfl, SqL.of g1, at_of (j := 3) rfl rfl, _, _, rfl, rfl, .inl ⟨by omega, by omega⟩, _, _, rfl, rfl, .inl ⟨_, rfl, _, _, rfl, rfl, (by show (0 : Int) < 2147483647; decide), ?_⟩⟩
        have t0 := Int.emod_nonneg (seed * 48271 + 12345) (show (2147483647 : Int) ≠ 0 by decide)
        have t1 := Int.emod_lt_of_pos (seed * 48271 + 12345) (show (0 : Int) < 2147483647 by decide)
        refine ⟨_, rfl, p, _, _, 3, rfl, rfl, g1, rfl, ?_⟩
        have g3 : upd H' p (.lst (List.set [V.ref l, V.int i', V.int acc', V.int seed] 3 (V.int ((seed * 48271 + 12345) % 2147483647)))) p = some (.lst [.ref l, .int i', .int acc', .int ((seed * 48271 + 12345) % 2147483647)]) := upd_same
        refine ⟨_, rfl, p, _, _, _, rfl, rfl, SqL.of g3, at_of (j := 3) rfl rfl, _, _, rfl, rfl, .inl ⟨by omega, by omega⟩, _, rfl, p, _, _, _, rfl, rfl, SqL.of g3, at_of (j := 3) rfl rfl, _, _, rfl, rfl, ⟨by decide, by decide⟩, _, _, rfl, rfl, .inl ⟨_, rfl, _, _, rfl, rfl, (by show (0 : Int) < 2147483629; decide), ?_⟩⟩
        refine ⟨_, rfl, .inl ⟨_, rfl, _, rfl, _, _, rfl, rfl, m0, ?_⟩⟩
        exact k _ _ (mod0 _) (mod1 _) ⟨ns, _, _, _, g3, by rw [upd_ne nlp]; exact g2, i0', acc0', t0, t1⟩ (oH.trans Only.upd)
theorem sc_law_word : FnScope ["pot", "kind"] ["pot"] (defScope s_law_word) := ⟨rfl, rfl, rfl, by decide +kernel, rfl, by decide +kernel, by decide +kernel⟩
theorem ok_law_word (T : Txt K mg a) : FnOk P w K mg base CX0 2 a.f_law_word a.d_law_word ["pot"] (sp_law_word K a) := by
  refine T.F_law_word.ok sc_law_word (fun vs H Q E h => ?len) (fun cdv A outer s H vs Q E hr h => ?body)
  case len =>
    exact sp_law_word_len h
  case body =>
    obtain ⟨p, l, rfl, hP, k⟩ := h
    refine ⟨_, (pss_cons (ps_set (i := 1) sc_law_word.nd rfl (Or.inl rfl) (pe_call (ok_law_next T) (hr.mono (by decide)) rfl T.g_law_next T.F_law_next.kp T.d_law_next .nil pass0 (pa_cons (pv 0) (pa_cons pe_int pa_nil))))
      (pss_cons (ps_if (pt_cmpR op_eq (pv 1) pe_int (nomark _))
      (pss_one (ps_ret pe_int))
      pss_nil)
      (pss_cons (ps_if (pt_cmpR op_eq (pv 1) pe_int (nomark _))
      (pss_one (ps_ret (pe_op op_sub pe_int (pe_call (ok_law_next T) (hr.mono (by decide)) rfl T.g_law_next T.F_law_next.kp T.d_law_next .nil pass0 (pa_cons (pv 0) (pa_cons pe_int pa_nil))))))
      pss_nil)
      (pss_cons (ps_if (pt_cmpR op_lt (pv 1) pe_int (nomark _))
      (pss_one (ps_ret (pe_call (ok_law_next T) (hr.mono (by decide)) rfl T.g_law_next T.F_law_next.kp T.d_law_next .nil pass0 (pa_cons (pv 0) (pa_cons pe_int pa_nil)))))
      pss_nil)
      (pss_one (ps_ret (pe_call (ok_law_next T) (hr.mono (by decide)) rfl T.g_law_next T.F_law_next.kp T.d_law_next .nil pass0 (pa_cons (pv 0) (pa_cons pe_int pa_nil))))))))), ?_⟩
    refine ⟨_, rfl, p, l, 8, rfl, hP, by decide, by decide, fun c H1 c0 c1 P1 o1 => ?_⟩
    refine ⟨_, rfl, rfl, _, rfl, ?_⟩
    refine ite2 (fun _ => k _ _ ⟨by decide, by decide⟩ P1 o1) (fun _ => ?_)
    refine ⟨_, rfl, rfl, _, rfl, ?_⟩
    refine ite2 (fun _ => ?_) (fun _ => ?_)
    · exact ⟨_, rfl, p, l, 3, rfl, P1, by decide, by decide, fun v H2 v0 v1 P2 o2 => ⟨_, _, rfl, rfl, k _ _ ⟨by omega, by omega⟩ P2 (o1.trans o2)⟩⟩
    · refine ⟨_, rfl, _, _, rfl, rfl, _, rfl, ?_⟩
      refine ite2 (fun _ => ?_) (fun _ => ?_)
      · exact ⟨_, rfl, p, l, 9, rfl, P1, by decide, by decide, fun v H2 v0 v1 P2 o2 => k _ _ ⟨by omega, by omega⟩ P2 (o1.trans o2)⟩
      · exact ⟨_, rfl, p, l, 65521, rfl, P1, by decide, by decide, fun v H2 v0 v1 P2 o2 => k _ _ ⟨by omega, by omega⟩ P2 (o1.trans o2)⟩
theorem sc_law_words : FnScope ["pot", "count", "k"] ["pot", "count"] (defScope s_law_words) := ⟨rfl, rfl, rfl, by decide +kernel, rfl, by decide +kernel, by decide +kernel⟩
theorem ok_law_words (T : Txt K mg a) : FnOk P w K mg base CX0 3 a.f_law_words a.d_law_words ["pot", "count"] (sp_law_words K a) := by
  refine T.F_law_words.ok sc_law_words (fun vs H Q E h => ?len) (fun cdv A outer s H vs Q E hr h => ?body)
  case len =>
    exact sp_law_words_len h
  case body =>
    obtain ⟨p, l, n, rfl, hP, n0, n5, k⟩ := h
    refine ⟨_, (pss_one (ps_ret (pe_lc (own := [("k", 2)]) (g := (gName 2)) (by rfl) sc_law_words.nd (pi_range1 (by rfl) T.n_range (pa_cons (pv 1) pa_nil)) (blkOk_by (own := [("k", 2)]) (N := ["pot", "count", "k"]) (sc := defScope s_law_words) (by decide +kernel))
      (fun _ _ _ _ _ => (pg_name (i := 2) sc_law_words.nd rfl (Or.inl rfl))) (fun _ _ _ _ _ => pts_nil) (fun _ _ _ _ _ => (pe_call (ok_law_word T) (hr.mono (by decide)) rfl T.g_law_word T.F_law_word.kp T.d_law_word .nil pass0 (pa_cons (pv 0) pa_nil)))))), ?_⟩
    refine ⟨_, rfl, n, rfl, by omega, by omega, fun D new => lc_it walk_range (fun i H' => ∃ ws : List Int, But p H H' ∧ Pot H' p l ∧ H' D = some (.lst (ws.map V.int)) ∧ ws.length = i ∧ ∀ w ∈ ws, Wd w)
      ⟨[], (Same.new new).but, hP.new new, upd_same, rfl, fun _ m => nomatch m⟩ (fun _ _ _ _ => True.intro) ?_ ?_⟩
    · rintro i y H1 H2 hi ⟨ws, b1, P1, d1, hl, hw⟩ ⟨rfl, rfl⟩
      have off := hP.off new
      refine ⟨rfl, _, rfl, p, l, rfl, P1, fun v H3 wv P3 o3 => ?_⟩
      refine ⟨_, by rw [o3 _ off.1.symm]; exact d1, small _ (by simp; omega), ws ++ [v], ?_, P3.only Only.upd off.1 off.2, ?_, by simp [hl], ?_⟩
      · intro b o e nb
        rw [upd_ne (ne_of_none e new), o3 _ nb]
        exact b1 b o e nb
      · rw [upd_same, List.map_append]
        rfl
      · intro w m
        rcases List.mem_append.mp m with m | m
        · exact hw w m
        · have : w = v := by simpa using m
          rw [this]
          exact wv
    · rintro H' ⟨ws, b1, P1, d1, hl, hw⟩
      exact k D ws H' hl hw new d1 b1 P1
theorem sc_law_is_words : FnScope ["value", "count", "word"] ["value", "count"] (defScope s_law_is_words) := ⟨rfl, rfl, rfl, by decide +kernel, rfl, by decide +kernel, by decide +kernel⟩
theorem ok_law_is_words (T : Txt K mg a) : FnOk P w K mg base CX0 1 a.f_law_is_words a.d_law_is_words ["value", "count"] (sp_law_is_words K a) := by
  refine T.F_law_is_words.ok sc_law_is_words (fun vs H Q E h => ?len) (fun cdv A outer s H vs Q E hr h => ?body)
  case len =>
    exact sp_law_is_words_len h
  case body =>
    obtain ⟨d, r, n, rfl, hD, hw, hn, k⟩ := h
    refine ⟨_, (pss_cons (ps_if (PW.pt (pw_or (pt_not (pt_val (pe_callB call_isi (by rfl) T.n_isinstance (by decide +kernel) (pa_cons (pv 0) (pa_cons (pe_bltn (v := .ty "list") (by rfl) T.n_list (by decide +kernel) rfl) pa_nil))))) (pw_or1 (pt_cmpR op_ne (pe_callB call_len_seq (by rfl) T.n_len PySem.boot_len (pa_cons (pv 0) pa_nil)) (pv 1) (nomark _)))))
      (pss_one (ps_ret pe_bl))
      pss_nil)
      (pss_cons (ps_for PassesOwn.never rfl (pi_list (pv 0)) (pg_name (i := 2) sc_law_is_words.nd rfl (Or.inl rfl))
      (pss_one (ps_if (PW.pt (pw_or (pt_not (pt_val (pe_callB call_isi (by rfl) T.n_isinstance (by decide +kernel) (pa_cons (pv 2) (pa_cons (pe_bltn (v := .ty "int") (by rfl) T.n_int (by decide +kernel) rfl) pa_nil))))) (pw_or (pt_val (pe_callB call_isi (by rfl) T.n_isinstance (by decide +kernel) (pa_cons (pv 2) (pa_cons (pe_bltn (v := .ty "bool") (by rfl) T.n_bool (by decide +kernel) rfl) pa_nil)))) (pw_or (pt_cmpR op_lt (pv 2) pe_int (nomark _)) (pw_or1 (pt_cmpR op_gt (pv 2) pe_int (nomark _)))))))
      (pss_one (ps_ret pe_bl))
      pss_nil)))
      (pss_one (ps_ret pe_bl)))), ?_⟩
    refine ⟨_, rfl, _, _, _, _, true, rfl, .ty "list", .base (.lst hD), kit_ty (by decide +kernel), true, rfl, iteF ?_⟩
    refine ⟨_, rfl, d, _, rfl, .inl (SqL.of hD), _, rfl, rfl, _, rfl, iteNS (congrArg V.int (by rw [List.length_map]; exact hn)) ?_⟩
    refine ⟨_, rfl, d, rfl, ⟨_, SqL.of hD⟩, for_list (K := K) (a := d) (xs := r.map V.int) (fun i σ H' => ∃ v : Option V, σ = [some (.ref d), some (.int n), v] ∧ H' = H) ⟨none, rfl, rfl⟩ (fun i σ H' _ ⟨_, _, e⟩ => by rw [e]; exact SqL.of hD) ?_ ?_⟩
    · rintro i y σ H' hi ⟨v, rfl, rfl⟩
      obtain ⟨c, hc, rfl⟩ := int_item hi
      obtain ⟨w0, w1⟩ := hw c (List.mem_of_getElem? hc)
      refine ⟨_, rfl, _, _, _, _, true, rfl, .ty "int", .base (.int c), kit_ty (by decide +kernel), true, rfl, iteF ?_⟩
      refine ⟨_, rfl, _, _, _, _, false, rfl, .ty "bool", .base (.int c), kit_ty (by decide +kernel), false, rfl, iteF ?_⟩
      refine ⟨_, rfl, _, _, rfl, rfl, _, rfl, ite2 (fun q => absurd (of_decide_eq_true q) (by omega)) (fun _ => ?_)⟩
      exact ⟨_, rfl, _, _, rfl, rfl, _, rfl, ite2 (fun q => absurd (of_decide_eq_true q) (by omega)) (fun _ => ⟨_, rfl, rfl⟩)⟩
    · rintro σ H' ⟨v, rfl, rfl⟩
      exact k
theorem sc_law_refused : FnScope ["rows", "right", "e"] ["rows", "right"] (defScope s_law_refused) := ⟨rfl, rfl, rfl, by decide +kernel, rfl, by decide +kernel, by decide +kernel⟩
theorem ok_law_refused (T : Txt K mg a) : FnOk P w K mg base CX0 5 a.f_law_refused a.d_law_refused ["rows", "right"] (sp_law_refused K a) := by
  refine T.F_law_refused.ok sc_law_refused (fun vs H Q E h => ?len) (fun cdv A outer s H vs Q E hr h => ?body)
  case len =>
    exact sp_law_refused_len h
  case body =>
    obtain ⟨R, S, F, right, rfl, hR, hS, lF, lC, hB, k⟩ := h
    refine ⟨_, (pss_cons (ps_try_as (i := 2) rfl rfl sc_law_refused.nd rfl rfl ⟨rfl, by decide, .inl T.g_PoolError⟩ takes0
      (fun W pn xe tk _ => (pss_one (ps_expr (pe_callS (ok_solve T) (hr.mono (by decide)) rfl T.g_solve T.F_solve.kp T.d_solve (fun σ => passAt tk σ) (pa_cons (pv 0) (pa_cons (pv 1) pa_nil))))))
      (fun a oe cls d pn hz hf => (pss_one (ps_ret (pe_callB (call_isE' hz hf) (by rfl) T.n_isinstance (by decide +kernel) (pa_cons (pv 2) (pa_cons (pe_glob (v := .ref _) rfl T.g_InvalidArgument rfl) pa_nil)))))))
      (pss_one (ps_ret pe_bl))), ?_⟩
    refine ⟨_, rfl, _, rfl, R, S, F, right, rfl, hR, hS, lF, lC, fun _ H1 sm => ?_, fun z => absurd hB z⟩
    refine ⟨true, T.u_InvalidArgument_PoolError, fun _ b hb => ?_, fun z => Bool.noConfusion z⟩
    exact ⟨_, rfl, _, rfl, rfl, T.E_InvalidArgument, _, _, true, rfl, fun _ z => z, T.i_InvalidArgument_InvalidArgument, k _ sm⟩
theorem sc_law_dot : FnScope ["first", "second", "total", "k"] ["first", "second"] (defScope s_law_dot) := ⟨rfl, rfl, rfl, by decide +kernel, rfl, by decide +kernel, by decide +kernel⟩
theorem ok_law_dot (T : Txt K mg a) : FnOk P w K mg base CX0 1 a.f_law_dot a.d_law_dot ["first", "second"] (sp_law_dot K a) := by
  refine T.F_law_dot.ok sc_law_dot (fun vs H Q E h => ?len) (fun cdv A outer s H vs Q E hr h => ?body)
  case len =>
    exact sp_law_dot_len h
  case body =>
    obtain ⟨d, e, f, g, rfl, hF, hG, hl, lf, hw, k⟩ := h
    refine ⟨_, (pss_cons (ps_set (i := 2) sc_law_dot.nd rfl (Or.inl rfl) pe_int)
      (pss_cons (ps_for PassesOwn.never rfl (pi_range1 (by rfl) T.n_range (pa_cons (pe_callB call_len_seq (by rfl) T.n_len PySem.boot_len (pa_cons (pv 0) pa_nil)) pa_nil)) (pg_name (i := 3) sc_law_dot.nd rfl (Or.inl rfl))
      (pss_one (ps_set (i := 2) sc_law_dot.nd rfl (Or.inl rfl) (pe_op op_mod (pe_callTy call_int1 (by rfl) T.n_int (by decide +kernel) (pa_cons (pe_op op_add (pv 2) (pe_op op_mul (pe_ix ix_list (pv 0) (pv 3) (fun _ _ => rfl)) (pe_ix ix_list (pv 1) (pv 3) (fun _ _ => rfl)))) pa_nil)) pe_int))))
      (pss_one (ps_ret (pv 2))))), ?_⟩
    refine ⟨_, rfl, d, _, rfl, .inl hF, _, rfl, by omega, by rw [List.length_map]; omega, ?_⟩
    rw [Int.toNat_natCast, List.length_map]
    refine for_range (lo := 0) (n := f.length) (fun i σ H' => ∃ (v : Int) (u : Option V), σ = [some (.ref d), some (.ref e), some (.int v), u] ∧ H' = H ∧ Wd v ∧ z v = sumR i fun k => col f k * col g k)
      ⟨0, none, rfl, rfl, ⟨by decide, by decide⟩, z_zero⟩ ?_ ?_
    · rintro i σ H' hi ⟨v, u, rfl, rfl, wv, hv⟩
      have hf : f[i]? = some f[i] := List.getElem?_eq_getElem hi
      have hg : g[i]? = some g[i] := List.getElem?_eq_getElem (by omega)
      obtain ⟨w0, w1⟩ := hw _ (List.getElem_mem hi)
      refine ⟨_, rfl, _, rfl, _, rfl, d, _, _, _, rfl, rfl, hF, at_of (j := i) (by omega) (by rw [List.getElem?_map, hf]; rfl), _, rfl, _, rfl, e, _, _, _, rfl, rfl, hG, at_of (j := i) (by omega) (by rw [List.getElem?_map, hg]; rfl), _, _, rfl, rfl, .inl ⟨by omega, by omega⟩, _, _, rfl, rfl, .inl ⟨_, rfl, _, _, rfl, rfl, (by show (0 : Int) < 65521; decide), ?_⟩⟩
      refine ⟨_, _, rfl, rfl, ⟨Int.emod_nonneg _ (by decide), Int.emod_lt_of_pos _ (by decide)⟩, ?_⟩
      rw [z_mod, z_add, z_mul, hv]
      show _ = sumR i _ + col f i * col g i
      rw [col_in hf, col_in hg]
    · rintro σ H' ⟨v, u, rfl, rfl, wv, hv⟩
      exact ⟨_, rfl, k v wv hv⟩
theorem sc_law_rows : FnScope ["pot", "count", "columns", "rows", "k", "row", "one", "other", "factor", "j"] ["pot", "count", "columns"] (defScope s_law_rows) := ⟨rfl, rfl, rfl, by decide +kernel, rfl, by decide +kernel, by decide +kernel⟩
theorem ok_law_rows (T : Txt K mg a) : FnOk P w K mg base CX0 4 a.f_law_rows a.d_law_rows ["pot", "count", "columns"] (sp_law_rows K a) := by
  refine T.F_law_rows.ok sc_law_rows (fun vs H Q E h => ?len) (fun cdv A outer s H vs Q E hr h => ?body)
  case len =>
    exact sp_law_rows_len h
  case body =>
    obtain ⟨p, l, n, C, rfl, hP, hn, hC, k⟩ := h
    refine ⟨_, (pss_cons (ps_set (i := 3) sc_law_rows.nd rfl (Or.inl rfl) (pe_lst pa_nil))
      (pss_cons (ps_for PassesOwn.never rfl (pi_range1 (by rfl) T.n_range (pa_cons (pv 1) pa_nil)) (pg_name (i := 4) sc_law_rows.nd rfl (Or.inl rfl))
      (pss_cons (ps_set (i := 5) sc_law_rows.nd rfl (Or.inl rfl) (pe_call (ok_law_words T) (hr.mono (by decide)) rfl T.g_law_words T.F_law_words.kp T.d_law_words .nil pass0 (pa_cons (pv 0) (pa_cons (pv 2) pa_nil))))
      (Evl.pss_cut (ps_if (PW.pt (pw_and (pt_cmpR op_gt (pv 4) pe_int (nomark _)) (pw_and1 (pt_cmpR op_eq (pe_call (ok_law_next T) (hr.mono (by decide)) rfl T.g_law_next T.F_law_next.kp T.d_law_next .nil pass0 (pa_cons (pv 0) (pa_cons pe_int pa_nil))) pe_int (nomark _)))))
      (pss_cons (ps_set (i := 6) sc_law_rows.nd rfl (Or.inr rfl) (pe_ix ix_list (pv 3) (pe_call (ok_law_next T) (hr.mono (by decide)) rfl T.g_law_next T.F_law_next.kp T.d_law_next .nil pass0 (pa_cons (pv 0) (pa_cons (pv 4) pa_nil))) (fun _ _ => rfl)))
      (pss_cons (ps_set (i := 7) sc_law_rows.nd rfl (Or.inr rfl) (pe_ix ix_list (pv 3) (pe_call (ok_law_next T) (hr.mono (by decide)) rfl T.g_law_next T.F_law_next.kp T.d_law_next .nil pass0 (pa_cons (pv 0) (pa_cons (pv 4) pa_nil))) (fun _ _ => rfl)))
      (pss_cons (ps_set (i := 8) sc_law_rows.nd rfl (Or.inr rfl) (pe_call (ok_law_word T) (hr.mono (by decide)) rfl T.g_law_word T.F_law_word.kp T.d_law_word .nil pass0 (pa_cons (pv 0) pa_nil)))
      (pss_one (ps_setLc (i := 5) (own := [("j", 9)]) (g := (gName 9)) (by rfl) sc_law_rows.nd rfl rfl (sw_true rfl rfl rfl (by decide +kernel)) (pi_range1 (by rfl) T.n_range (pa_cons (pv 2) pa_nil)) (blkOk_by (own := [("j", 9)]) (N := ["pot", "count", "columns", "rows", "k", "row", "one", "other", "factor", "j"]) (sc := defScope s_law_rows) (by decide +kernel))
      (fun _ _ _ _ _ => (pg_name (i := 9) sc_law_rows.nd rfl (Or.inl rfl))) (fun _ _ _ _ _ => pts_nil) (fun _ _ _ _ _ => (pe_op op_mod (pe_callTy call_int1 (by rfl) T.n_int (by decide +kernel) (pa_cons (pe_op op_add (pe_ix (by exact ix_list : IxR _ (rIxL K)) (pv 6) (pv 9) (fun _ _ => rfl)) (pe_op op_mul (pv 8) (pe_ix (by exact ix_list : IxR _ (rIxL K)) (pv 7) (pv 9) (fun _ _ => rfl)))) pa_nil)) pe_int)))))))
      pss_nil)
      (pss_one (ps_expr (pe_bm PySem.F.plainAttrs_list PySem.F.slot_list_append PySem.F.type_list_append mt_append (pv 3) (pa_cons (pv 5) pa_nil)))))))
      (pss_one (ps_ret (pv 3))))), ?_⟩
    refine ⟨Nat.zero_le _, fun D nD => ?_⟩
    have offD := hP.off nD
    refine ⟨_, rfl, _, rfl, by omega, by omega, ?_⟩
    rw [Int.toNat_natCast]
    refine for_range (lo := 0) (n := n) (fun i σ H' => ∃ (v4 v5 v6 v7 v8 : Option V) (F : List (Addr × List Int)), σ = [some (.ref p), some (.int (n : Int)), some (.int (C : Int)), some (.ref D), v4, v5, v6, v7, v8, none] ∧ Pot H' p l ∧ But p H H' ∧ LA H' D F ∧ F.length = i ∧ ∀ e ∈ F, e.2.length = C ∧ ∀ w ∈ e.2, Wd w)
      ⟨none, none, none, none, none, [], rfl, hP.new nD, (Same.new nD).but, ⟨upd_same, fun _ m => nomatch m⟩, rfl, fun _ m => nomatch m⟩ ?_ ?_
    · rintro i σ H1 hi ⟨v4, v5, v6, v7, v8, F, rfl, P1, b1, L1, lF, hF⟩
      -- row = _law_words(pot, columns)
      refine ⟨_, rfl, _, rfl, p, l, (C : Int), rfl, P1, by omega, by omega, fun W ws H2 lw ww nW dW b2 P2 => ?_⟩
      have nWp : W ≠ p := (P1.off nW).1.symm
      have nWD : W ≠ D := (ne_of_none L1.1 nW).symm
      have L2 := L1.but P1 offD.1.symm b2
      have b12 := b1.trans b2
      rw [Int.toNat_natCast] at lw
      -- the join behind the if
      refine ⟨fun σ H' => ∃ (v6 v7 v8 : Option V) (W : Addr) (ws : List Int), σ = [some (.ref p), some (.int (n : Int)), some (.int (C : Int)), some (.ref D), some (.int (0 + (i : Nat))), some (.ref W), v6, v7, v8, none] ∧ Pot H' p l ∧ But p H H' ∧ LA H' D F ∧ H' W = some (.lst (ws.map V.int)) ∧ W ≠ D ∧ ws.length = C ∧ ∀ w ∈ ws, Wd w, ?_, ?_⟩
      · refine ⟨_, rfl, _, _, rfl, rfl, _, rfl, ?_⟩
        refine ite2 (fun q => ?_) (fun _ => iteF ⟨_, _, _, W, ws, rfl, P2, b12, L2, dW, nWD, lw, ww⟩)
        have i0 : 0 < i := by
          have := of_decide_eq_true q
          omega
        refine ⟨_, rfl, p, l, 3, rfl, P2, by decide, by decide, fun v H3 v0 v1 P3 o3 => ⟨rfl, _, rfl, ?_⟩⟩
        have L3 := L2.but P2 offD.1.symm o3.but
        have dW3 : H3 W = some (.lst (ws.map V.int)) := by rw [o3 _ nWp]; exact dW
        refine ite2 (fun _ => ?_) (fun _ => ⟨_, _, _, W, ws, rfl, P3, b12.trans o3.but, L3, dW3, nWD, lw, ww⟩)
        -- one = rows[_law_next(pot, k)]
        refine ⟨_, rfl, _, rfl, _, rfl, p, l, 0 + (i : Int), rfl, P3, by omega, by omega, fun a1 H4 a10 a11 P4 o4 => ?_⟩
        have L4 := L3.but P3 offD.1.symm o4.but
        obtain ⟨a, rfl⟩ : ∃ a : Nat, a1 = (a : Int) := ⟨a1.toNat, by omega⟩
        have hFa : F[a]? = some F[a] := List.getElem?_eq_getElem (by omega)
        have ma := List.mem_of_getElem? hFa
        refine ⟨D, _, _, _, rfl, rfl, SqL.of L4.1, at_of (j := a) rfl (refs_get hFa), ?_⟩
        -- other = rows[_law_next(pot, k)]
        refine ⟨_, rfl, _, rfl, _, rfl, p, l, 0 + (i : Int), rfl, P4, by omega, by omega, fun b1' H5 b10 b11 P5 o5 => ?_⟩
        have L5 := L4.but P4 offD.1.symm o5.but
        obtain ⟨b, rfl⟩ : ∃ b : Nat, b1' = (b : Int) := ⟨b1'.toNat, by omega⟩
        have hFb : F[b]? = some F[b] := List.getElem?_eq_getElem (by omega)
        have mb := List.mem_of_getElem? hFb
        refine ⟨D, _, _, _, rfl, rfl, SqL.of L5.1, at_of (j := b) rfl (refs_get hFb), ?_⟩
        -- factor = _law_word(pot)
        refine ⟨_, rfl, p, l, rfl, P5, fun fa H6 wfa P6 o6 => ?_⟩
        have L6 := L5.but P5 offD.1.symm o6.but
        have b16 := (((b12.trans o3.but).trans o4.but).trans o5.but).trans o6.but
        have da := SqL.of (K := K) (L6.2 _ ma).1
        have db := SqL.of (K := K) (L6.2 _ mb).1
        have wa := hF _ ma
        have wb := hF _ mb
        -- row = [int(one[j] + factor * other[j]) % 65521 for j in range(columns)]
        refine ⟨_, rfl, _, rfl, by omega, by omega, ?_⟩
        rw [Int.toNat_natCast]
        refine fun G nG => lc_it walk_range (fun j H' => ∃ us : List Int, Same H6 H' ∧ H' G = some (.lst (us.map V.int)) ∧ us.length = j ∧ ∀ w ∈ us, Wd w) ⟨[], Same.new nG, upd_same, rfl, fun _ m => nomatch m⟩ (fun _ _ _ _ => True.intro) ?_ ?_
        · rintro j y H7 H8 hj ⟨us, s7, d7, lu, wu⟩ ⟨rfl, rfl⟩
          have hja : F[a].2[j]? = some F[a].2[j] := List.getElem?_eq_getElem (by omega)
          have hjb : F[b].2[j]? = some F[b].2[j] := List.getElem?_eq_getElem (by omega)
          refine ⟨rfl, _, rfl, _, rfl, F[a].1, _, _, _, rfl, rfl, s7.seq da, at_of (j := j) (by omega) (by rw [List.getElem?_map, hja]; rfl), _, rfl, _, rfl, _, rfl, F[b].1, _, _, _, rfl, rfl, s7.seq db, at_of (j := j) (by omega) (by rw [List.getElem?_map, hjb]; rfl), _, _, rfl, rfl, .inl ⟨by have := wfa.1; omega, by have := wfa.2; omega⟩, _, _, rfl, rfl, .inl ⟨_, rfl, _, _, rfl, rfl, (by show (0 : Int) < 65521; decide), ?_⟩⟩
          refine ⟨_, d7, small _ (by simp; omega), us ++ [(F[a].2[j] + fa * F[b].2[j]) % 65521], same_put s7 nG, ?_, by simp [lu], fun w m => ?_⟩
          · rw [upd_same, List.map_append]
            rfl
          · rcases List.mem_append.mp m with m | m
            · exact wu w m
            · have : w = (F[a].2[j] + fa * F[b].2[j]) % 65521 := by simpa using m
              rw [this]
              exact ⟨Int.emod_nonneg _ (by decide), Int.emod_lt_of_pos _ (by decide)⟩
        · rintro H7 ⟨us, s7, d7, lu, wu⟩
          exact ⟨_, _, _, G, us, rfl, P6.same s7, b16.trans s7.but, L6.same s7, d7, (ne_of_none L6.1 nG).symm, lu, wu⟩
      · rintro σ H3 ⟨v6, v7, v8, W, ws, rfl, P3, b3, L3, dW, nWD, lw, ww⟩
        -- rows.append(row)
        refine ⟨_, rfl, .inl ⟨rfl, _, SqL.of L3.1⟩, _, rfl, D, _, _, rfl, rfl, L3.1, small _ (by rw [refs_len]; omega), ?_⟩
        have e : refs F ++ [V.ref W] = refs (F ++ [(W, ws)]) := by unfold refs; rw [List.map_append]; rfl
        rw [e]
        refine ⟨_, _, _, _, _, F ++ [(W, ws)], rfl, P3.only Only.upd offD.1 offD.2, fun b o e' nb => ?_, LA.put fun e' me => ?_, by simp [lF], fun e' me => ?_⟩
        · rw [upd_ne (ne_of_none e' nD)]
          exact b3 b o e' nb
        · rcases List.mem_append.mp me with me | me
          · exact L3.2 e' me
          · have : e' = (W, ws) := by simpa using me
            subst this
            exact ⟨dW, nWD⟩
        · rcases List.mem_append.mp me with me | me
          · exact hF e' me
          · have : e' = (W, ws) := by simpa using me
            subst this
            exact ⟨lw, ww⟩
    · rintro σ H1 ⟨v4, v5, v6, v7, v8, F, rfl, P1, b1, L1, lF, hF⟩
      exact ⟨_, rfl, k D F H1 lF hF nD L1 b1 P1⟩
theorem sc_law : FnScope ["script", "pot", "columns", "count", "rows", "hidden", "right", "kind", "passed", "found", "k", "j", "row"] ["script"] (defScope s_law) := ⟨rfl, rfl, rfl, by decide +kernel, rfl, by decide +kernel, by decide +kernel⟩
theorem ok_law (T : Txt K mg a) : FnOk P w K mg base CX0 6 a.f_law a.d_law ["script"] (sp_law K a) := by
  refine T.F_law.ok sc_law (fun vs H Q E h => ?len) (fun cdv A outer s H vs Q E hr h => ?body)
  case len =>
    exact sp_law_len h
  case body =>
    obtain ⟨s, ns, rfl, hS, hlen, k⟩ := h
    refine ⟨_, (pss_cons (ps_set (i := 1) sc_law.nd rfl (Or.inl rfl) (pe_call (ok_law_pot T) (hr.mono (by decide)) rfl T.g_law_pot T.F_law_pot.kp T.d_law_pot .nil pass0 (pa_cons (pv 0) pa_nil)))
      (pss_cons (ps_set (i := 2) sc_law.nd rfl (Or.inl rfl) (pe_op op_add pe_int (pe_call (ok_law_next T) (hr.mono (by decide)) rfl T.g_law_next T.F_law_next.kp T.d_law_next .nil pass0 (pa_cons (pv 1) (pa_cons pe_int pa_nil)))))
      (pss_cons (ps_set (i := 3) sc_law.nd rfl (Or.inl rfl) (pe_op op_add pe_int (pe_call (ok_law_next T) (hr.mono (by decide)) rfl T.g_law_next T.F_law_next.kp T.d_law_next .nil pass0 (pa_cons (pv 1) (pa_cons pe_int pa_nil)))))
      (pss_cons (ps_set (i := 4) sc_law.nd rfl (Or.inl rfl) (pe_call (ok_law_rows T) (hr.mono (by decide)) rfl T.g_law_rows T.F_law_rows.kp T.d_law_rows .nil pass0 (pa_cons (pv 1) (pa_cons (pv 3) (pa_cons (pv 2) pa_nil)))))
      (pss_cons (ps_set (i := 5) sc_law.nd rfl (Or.inr rfl) (pe_call (ok_law_words T) (hr.mono (by decide)) rfl T.g_law_words T.F_law_words.kp T.d_law_words .nil pass0 (pa_cons (pv 1) (pa_cons (pv 2) pa_nil))))
      (pss_cons (ps_setLc (i := 6) (own := [("row", 12)]) (g := (gName 12)) (by rfl) sc_law.nd rfl rfl (sw_true rfl rfl rfl (by decide +kernel)) (pi_list (pv 4)) (blkOk_by (own := [("row", 12)]) (N := ["script", "pot", "columns", "count", "rows", "hidden", "right", "kind", "passed", "found", "k", "j", "row"]) (sc := defScope s_law) (by decide +kernel))
      (fun _ _ _ _ _ => (pg_name (i := 12) sc_law.nd rfl (Or.inl rfl))) (fun _ _ _ _ _ => pts_nil) (fun _ _ _ _ _ => (pe_call (ok_law_dot T) (hr.mono (by decide)) rfl T.g_law_dot T.F_law_dot.kp T.d_law_dot .nil pass0 (pa_cons (pv 12) (pa_cons (pv 5) pa_nil)))))
      (pss_cons (ps_set (i := 7) sc_law.nd rfl (Or.inl rfl) (pe_call (ok_law_next T) (hr.mono (by decide)) rfl T.g_law_next T.F_law_next.kp T.d_law_next .nil pass0 (pa_cons (pv 1) (pa_cons pe_int pa_nil))))
      (Evl.pss_cut (ps_if (pt_cmpR op_eq (pv 7) pe_int (nomark _))
      (pss_one (ps_asg (pe_call (ok_law_word T) (hr.mono (by decide)) rfl T.g_law_word T.F_law_word.kp T.d_law_word .nil pass0 (pa_cons (pv 1) pa_nil)) (pg_sub (pv 6) (pe_call (ok_law_next T) (hr.mono (by decide)) rfl T.g_law_next T.F_law_next.kp T.d_law_next .nil pass0 (pa_cons (pv 1) (pa_cons (pv 3) pa_nil))) set_list)))
      pss_nil)
      (Evl.pss_cut (ps_if (pt_cmpR op_eq (pv 7) pe_int (nomark _))
      (pss_one (ps_set (i := 6) sc_law.nd rfl (Or.inl rfl) (pe_call (ok_law_words T) (hr.mono (by decide)) rfl T.g_law_words T.F_law_words.kp T.d_law_words .nil pass0 (pa_cons (pv 1) (pa_cons (pv 3) pa_nil)))))
      pss_nil)
      (pss_cons (ps_set (i := 8) sc_law.nd rfl (Or.inl rfl) (pe_lst (pa_cons (pe_lc (own := [("row", 12)]) (g := (gName 12)) (by rfl) sc_law.nd (pi_list (pv 4)) (blkOk_by (own := [("row", 12)]) (N := ["script", "pot", "columns", "count", "rows", "hidden", "right", "kind", "passed", "found", "k", "j", "row"]) (sc := defScope s_law) (by decide +kernel))
      (fun _ _ _ _ _ => (pg_name (i := 12) sc_law.nd rfl (Or.inl rfl))) (fun _ _ _ _ _ => pts_nil) (fun _ _ _ _ _ => (pe_callTy (by exact call_list_of : CallR _ _ (rListOf K)) (by rfl) T.n_list (by decide +kernel) (pa_cons (pv 12) pa_nil)))) (pa_cons (pe_callTy call_list_of (by rfl) T.n_list (by decide +kernel) (pa_cons (pv 6) pa_nil)) pa_nil))))
      (Evl.pss_cut (ps_set (i := 9) sc_law.nd rfl (Or.inl rfl) (pe_call (ok_solve T) (hr.mono (by decide)) rfl T.g_solve T.F_solve.kp T.d_solve .nil passL (pa_cons (pe_ix ix_list (pv 8) pe_int (fun _ _ => rfl)) (pa_cons (pe_ix ix_list (pv 8) pe_int (fun _ _ => rfl)) pa_nil))))
      (pss_cons (ps_if (PW.pt (pw_or (pt_cmpR (op_neD hr.units) (pv 8) (pe_lst (pa_cons (pv 4) (pa_cons (pv 6) pa_nil))) (nomark _)) (pw_or (pt_not (pt_val (pe_callB call_isi (by rfl) T.n_isinstance (by decide +kernel) (pa_cons (pv 9) (pa_cons (pe_bltn (v := .ty "tuple") (by rfl) T.n_tuple (by decide +kernel) rfl) pa_nil))))) (pw_or1 (pt_cmpR op_ne (pe_callB call_len_seq (by rfl) T.n_len PySem.boot_len (pa_cons (pv 9) pa_nil)) pe_int (nomark _))))))
      (pss_one (ps_ret pe_bl))
      pss_nil)
      (Evl.pss_cut (ps_if (pt_cmpR op_isN (pe_ix ix_tup (pv 9) pe_int (fun _ _ => rfl)) pe_non (nomark _))
      (pss_cons (ps_if (pt_not (pt_val (pe_call (ok_law_is_words T) (hr.mono (by decide)) rfl T.g_law_is_words T.F_law_is_words.kp T.d_law_is_words .nil pass0 (pa_cons (pe_ix ix_tup (pv 9) pe_int (fun _ _ => rfl)) (pa_cons (pv 2) pa_nil)))))
      (pss_one (ps_ret pe_bl))
      pss_nil)
      (pss_one (ps_for PassesOwn.never rfl (pi_range1 (by rfl) T.n_range (pa_cons (pv 3) pa_nil)) (pg_name (i := 10) sc_law.nd rfl (Or.inl rfl))
      (pss_one (ps_if (pt_cmpR op_ne (pe_call (ok_law_dot T) (hr.mono (by decide)) rfl T.g_law_dot T.F_law_dot.kp T.d_law_dot .nil pass0 (pa_cons (pe_ix ix_list (pv 4) (pv 10) (fun _ _ => rfl)) (pa_cons (pe_ix ix_tup (pv 9) pe_int (fun _ _ => rfl)) pa_nil))) (pe_ix ix_list (pv 6) (pv 10) (fun _ _ => rfl)) (nomark _))
      (pss_one (ps_ret pe_bl))
      pss_nil)))))
      (pss_cons (ps_if (PW.pt (pw_or (pt_cmpR op_notN (pe_ix ix_tup (pv 9) pe_int (fun _ _ => rfl)) pe_non (nomark _)) (pw_or (pt_cmpR op_eq (pv 7) pe_int (nomark _)) (pw_or1 (pt_not (pt_val (pe_call (ok_law_is_words T) (hr.mono (by decide)) rfl T.g_law_is_words T.F_law_is_words.kp T.d_law_is_words .nil pass0 (pa_cons (pe_ix ix_tup (pv 9) pe_int (fun _ _ => rfl)) (pa_cons (pv 3) pa_nil)))))))))
      (pss_one (ps_ret pe_bl))
      pss_nil)
      (pss_cons (ps_for PassesOwn.never rfl (pi_range1 (by rfl) T.n_range (pa_cons (pv 2) pa_nil)) (pg_name (i := 11) sc_law.nd rfl (Or.inr rfl))
      (pss_one (ps_if (pt_cmpR op_ne (pe_call (ok_law_dot T) (hr.mono (by decide)) rfl T.g_law_dot T.F_law_dot.kp T.d_law_dot .nil pass0 (pa_cons (pe_lc (own := [("row", 12)]) (g := (gName 12)) (by rfl) sc_law.nd (pi_list (pv 4)) (blkOk_by (own := [("row", 12)]) (N := ["script", "pot", "columns", "count", "rows", "hidden", "right", "kind", "passed", "found", "k", "j", "row"]) (sc := defScope s_law) (by decide +kernel))
      (fun _ _ _ _ _ => (pg_name (i := 12) sc_law.nd rfl (Or.inl rfl))) (fun _ _ _ _ _ => pts_nil) (fun _ _ _ _ _ => (pe_ix (by exact ix_list : IxR _ (rIxL K)) (pv 12) (pv 11) (fun _ _ => rfl)))) (pa_cons (pe_ix ix_tup (pv 9) pe_int (fun _ _ => rfl)) pa_nil))) pe_int (nomark _))
      (pss_one (ps_ret pe_bl))
      pss_nil)))
      (pss_one (ps_if (pt_cmpR op_ne (pe_call (ok_law_dot T) (hr.mono (by decide)) rfl T.g_law_dot T.F_law_dot.kp T.d_law_dot .nil pass0 (pa_cons (pv 6) (pa_cons (pe_ix ix_tup (pv 9) pe_int (fun _ _ => rfl)) pa_nil))) pe_int (nomark _))
      (pss_one (ps_ret pe_bl))
      pss_nil)))))
      (pss_cons (ps_if (PW.pt (pw_or (pt_not (pt_val (pe_call (ok_law_refused T) (hr.mono (by decide)) rfl T.g_law_refused T.F_law_refused.kp T.d_law_refused .nil pass0 (pa_cons (pe_lst pa_nil) (pa_cons (pe_lst pa_nil) pa_nil))))) (pw_or (pt_not (pt_val (pe_call (ok_law_refused T) (hr.mono (by decide)) rfl T.g_law_refused T.F_law_refused.kp T.d_law_refused .nil pass0 (pa_cons (pv 4) (pa_cons (pe_op op_cat (pv 6) (pe_lst (pa_cons pe_int pa_nil))) pa_nil))))) (pw_or1 (pt_not (pt_val (pe_call (ok_law_refused T) (hr.mono (by decide)) rfl T.g_law_refused T.F_law_refused.kp T.d_law_refused .nil pass0 (pa_cons (pe_lst (pa_cons (pe_lst pa_nil) pa_nil)) (pa_cons (pe_lst (pa_cons pe_int pa_nil)) pa_nil)))))))))
      (pss_one (ps_ret pe_bl))
      pss_nil)
      (pss_one (ps_ret (pe_call (ok_law_refused T) (hr.mono (by decide)) rfl T.g_law_refused T.F_law_refused.kp T.d_law_refused .nil pass0 (pa_cons (pe_op op_cat (pv 4) (pe_lst (pa_cons (pe_op op_rep (pe_lst (pa_cons pe_int pa_nil)) (pe_op op_add (pv 2) pe_int)) pa_nil))) (pa_cons (pe_op op_cat (pv 6) (pe_lst (pa_cons pe_int pa_nil))) pa_nil))))))))))))))))))), ?_⟩
    refine ⟨_, rfl, s, ns, rfl, hS, by omega, fun p l H1 hp hl s1 P1 => ?_⟩
    refine ⟨_, rfl, p, l, 6, rfl, P1, by decide, by decide, fun c H2 c0 c1 P2 o2 => ⟨_, _, rfl, rfl, ?_⟩⟩
    refine ⟨_, rfl, p, l, 6, rfl, P2, by decide, by decide, fun c' H3 c0' c1' P3 o3 => ⟨_, _, rfl, rfl, ?_⟩⟩
    obtain ⟨C, eC⟩ : ∃ C : Nat, 1 + c = (C : Int) := ⟨(1 + c).toNat, by omega⟩
    obtain ⟨n, en⟩ : ∃ n : Nat, 1 + c' = (n : Int) := ⟨(1 + c').toNat, by omega⟩
    dsimp only
    rw [eC, en]
    -- rows = _law_rows(pot, count, columns)
    refine ⟨_, rfl, _, rfl, _, rfl, p, l, n, C, rfl, P3, by omega, by omega, fun R F H4 lF hF nR L4 b4 P4 => ?_⟩
    have nRp : R ≠ p := (P3.off nR).1.symm
    -- hidden = _law_words(pot, columns)
    refine ⟨_, rfl, _, rfl, p, l, (C : Int), rfl, P4, by omega, by omega, fun Hd hid H5 lh wh nHd dHd b5 P5 => ?_⟩
    rw [Int.toNat_natCast] at lh
    have L5 := L4.but P4 nRp b5
    have nHp : Hd ≠ p := (P4.off nHd).1.symm
    have rk : ∀ k, k < n → ((snds F).getD k []).length = C ∧ ∀ w ∈ (snds F).getD k [], Wd w := fun k hk => by
      have hFk : F[k]? = some F[k] := List.getElem?_eq_getElem (by omega)
      rw [snds_get hFk]
      exact hF _ (List.mem_of_getElem? hFk)
    -- right = [_law_dot(row, hidden) for row in rows]
    refine ⟨_, rfl, R, rfl, ⟨_, SqL.of L5.1⟩, fun S nS => lc_list (K := K) (a := R) (xs := refs F) (fun i H' => ∃ rt : List Int, Same H5 H' ∧ H' S = some (.lst (rt.map V.int)) ∧ rt.length = i ∧ (∀ w ∈ rt, Wd w) ∧ ∀ k, k < i → sumR C (fun j => col ((snds F).getD k []) j * col hid j) = z (rt.getD k 0))
      ⟨[], Same.new nS, upd_same, rfl, fun _ m => (nomatch m), fun k h => absurd h (by omega)⟩ (fun i H' _ ⟨_, s', _⟩ => s'.seq (SqL.of L5.1)) ?_ ?_⟩
    · rintro i y H' hi ⟨rt, s', d', lr, wr, hr⟩
      obtain ⟨e, he, rfl⟩ := refs_item hi
      have li := item_lt he
      have me := List.mem_of_getElem? he
      have we := hF e me
      refine ⟨rfl, _, rfl, _, rfl, e.1, Hd, e.2, hid, rfl, SqL.of (s' _ _ (L5.2 e me).1), SqL.of (s' _ _ dHd), by omega, by omega, we.2, fun v wv hv => ?_⟩
      refine ⟨_, d', small _ (by simp; omega), rt ++ [v], same_put s' nS, ?_, by simp [lr], fun w m => ?_, fun k hk => ?_⟩
      · rw [upd_same, List.map_append]
        rfl
      · rcases List.mem_append.mp m with m | m
        · exact wr w m
        · have : w = v := by simpa using m
          rw [this]
          exact wv
      · by_cases q : k = i
        · subst q
          rw [snds_get he, List.getD_eq_getElem?_getD, List.getElem?_append_right (by omega), lr, Nat.sub_self]
          show _ = z v
          rw [hv, we.1]
        · rw [hr k (by omega), List.getD_eq_getElem?_getD, List.getD_eq_getElem?_getD, List.getElem?_append_left (by omega)]
    rintro H6 ⟨rt, s6, dS, lr, wr, hr⟩
    rw [refs_len, lF] at lr hr
    have L6 := L5.same s6
    have P6 := P5.same s6
    have nSp : S ≠ p := (P5.off nS).1.symm
    have nSR : S ≠ R := (ne_of_none L5.1 nS).symm
    -- kind = _law_next(pot, 3)
    refine ⟨_, rfl, p, l, 3, rfl, P6, by decide, by decide, fun kd H7 kd0 kd1 P7 o7 => ?_⟩
    have L7 := L6.but P6 nRp o7.but
    have dS7 : H7 S = some (.lst (rt.map V.int)) := by rw [o7 _ nSp]; exact dS
    -- if kind == 1: right[_law_next(pot, count)] = _law_word(pot)
    refine ⟨fun σ H' => ∃ rt : List Int, σ = [some (.ref s), some (.ref p), some (.int (C : Int)), some (.int (n : Int)), some (.ref R), some (.ref Hd), some (.ref S), some (.int kd), none, none, none, none, none] ∧ Pot H' p l ∧ LA H' R F ∧ H' S = some (.lst (rt.map V.int)) ∧ rt.length = n ∧ (∀ w ∈ rt, Wd w) ∧ (kd = 0 → Fits (snds F) rt hid), ?_, ?_⟩
    · have fit : Fits (snds F) rt hid := fun k hk => by
        rw [snds_len, lF] at hk
        rw [lh]
        exact hr k hk
      refine ⟨_, rfl, rfl, _, rfl, ?_⟩
      refine ite2 (fun q => ?_) (fun _ => ⟨rt, rfl, P7, L7, dS7, lr, wr, fun _ => fit⟩)
      have k1 : kd = 1 := V.int.inj (of_decide_eq_true q)
      refine ⟨_, rfl, p, l, rfl, P7, fun v H8 wv P8 o8 => ?_⟩
      refine ⟨_, rfl, _, rfl, _, rfl, p, l, (n : Int), rfl, P8, by omega, by omega, fun i1 H9 i10 i11 P9 o9 => ?_⟩
      obtain ⟨i, rfl⟩ : ∃ i : Nat, i1 = (i : Int) := ⟨i1.toNat, by omega⟩
      have L9 := (L7.but P7 nRp o8.but).but P8 nRp o9.but
      have dS9 : H9 S = some (.lst (rt.map V.int)) := by rw [o9 _ nSp, o8 _ nSp]; exact dS7
      refine ⟨S, _, _, i, rfl, rfl, dS9, ixN_nat (by rw [List.length_map]; omega), ?_⟩
      rw [← List.map_set]
      have nS9 : ∀ e ∈ F, e.1 ≠ S := fun e me => ne_of_none (L5.2 e me).1 nS
      refine ⟨rt.set i v, rfl, P9.only Only.upd nSp.symm (fun q => ?_), ⟨by rw [upd_ne nSR.symm]; exact L9.1, fun e me => ⟨by rw [upd_ne (nS9 e me)]; exact (L9.2 e me).1, (L9.2 e me).2⟩⟩, upd_same, by rw [List.length_set]; exact lr, fun w m => ?_, fun q => absurd q (by omega)⟩
      · obtain ⟨_, _, _, _, _, g2, _⟩ := P5
        have := s6 _ _ g2
        exact (ne_of_none g2 nS) q
      · rcases List.mem_or_eq_of_mem_set m with m | m
        · exact wr w m
        · rw [m]
          exact wv
    · rintro σ H8 ⟨rt, rfl, P8, L8, dS8, lr, wr, fit⟩
      -- if kind == 2: right = _law_words(pot, count)
      refine ⟨fun σ H' => ∃ (S : Addr) (rt : List Int), σ = [some (.ref s), some (.ref p), some (.int (C : Int)), some (.int (n : Int)), some (.ref R), some (.ref Hd), some (.ref S), some (.int kd), none, none, none, none, none] ∧ Pot H' p l ∧ LA H' R F ∧ H' S = some (.lst (rt.map V.int)) ∧ rt.length = n ∧ (∀ w ∈ rt, Wd w) ∧ (kd = 0 → Fits (snds F) rt hid), ?_, ?_⟩
      · refine ⟨_, rfl, rfl, _, rfl, ?_⟩
        refine ite2 (fun q => ?_) (fun _ => ⟨S, rt, rfl, P8, L8, dS8, lr, wr, fit⟩)
        have k1 : kd = 2 := V.int.inj (of_decide_eq_true q)
        exact ⟨_, rfl, _, rfl, p, l, (n : Int), rfl, P8, by omega, by omega, fun S2 r2 H9 l2 w2 n2 d2 b2 P9 => ⟨S2, r2, rfl, P9, L8.but P8 nRp b2, d2, by rw [l2, Int.toNat_natCast], w2, fun q => absurd q (by omega)⟩⟩
      · rintro σ H9 ⟨S, rt, rfl, P9, L9, dS9, lr, wr, fit⟩
        clear dS dS7 dS8 nSp nSR nS hr
        have good : ¬ BadSys (snds F) rt := by
          have g0 := (rk 0 (by omega)).1
          rintro (b | ⟨r, m, b⟩ | b | b)
          · have := congrArg List.length b
            rw [snds_len, List.length_nil] at this
            omega
          · obtain ⟨e, me, rfl⟩ := List.mem_map.mp m
            exact b (by rw [(hF e me).1, g0])
          · omega
          · rw [snds_len] at b
            omega
        have c0l : ((snds F).getD 0 []).length = C := (rk 0 (by omega)).1
        -- passed = [[list(row) for row in rows], list(right)]
        refine ⟨_, rfl, R, rfl, ⟨_, SqL.of L9.1⟩, fun R2 nR2 => lc_list (K := K) (a := R) (xs := refs F) (fun i H' => ∃ G : List (Addr × List Int), Same H9 H' ∧ LA H' R2 G ∧ snds G = (snds F).take i)
          ⟨[], Same.new nR2, ⟨upd_same, fun _ m => nomatch m⟩, rfl⟩ (fun i H' _ ⟨_, s', _⟩ => s'.seq (SqL.of L9.1)) ?_ ?_⟩
        · rintro i y H' hi ⟨G, s', L', hG⟩
          obtain ⟨e, he, rfl⟩ := refs_item hi
          have li := item_lt he
          have lG : G.length ≤ i := by
            have := congrArg List.length hG
            rw [snds_len, List.length_take] at this
            omega
          have me := List.mem_of_getElem? he
          refine ⟨rfl, _, rfl, e.1, _, rfl, .inl (SqL.of (s' _ _ (L9.2 e me).1)), fun W nW => ?_⟩
          have sW := Same.new (o := .lst (e.2.map V.int)) nW
          have nWR : W ≠ R2 := (ne_of_none L'.1 nW).symm
          have Lw := L'.same sW
          refine ⟨_, Lw.1, small _ (by rw [refs_len]; omega), G ++ [(W, e.2)], same_put (s'.trans sW) nR2, ?_, ?_⟩
          · have eq : refs G ++ [V.ref W] = refs (G ++ [(W, e.2)]) := by unfold refs; rw [List.map_append]; rfl
            rw [eq]
            refine LA.put fun e' me' => ?_
            rcases List.mem_append.mp me' with me' | me'
            · exact Lw.2 e' me'
            · have : e' = (W, e.2) := by simpa using me'
              subst this
              exact ⟨upd_same, nWR⟩
          · have g : (snds F)[i]? = some e.2 := by rw [List.getElem?_map, he]; rfl
            rw [take_snoc g, ← hG]
            show (G ++ [(W, e.2)]).map (·.2) = _
            rw [List.map_append]
            rfl
        rintro H10 ⟨G, s10, LG, hG⟩
        rw [List.take_of_length_le (by rw [refs_len, snds_len]; exact Nat.le_refl _)] at hG
        have dS10 := s10 _ _ dS9
        have L10 := L9.same s10
        refine ⟨_, rfl, S, _, rfl, .inl (SqL.of dS10), fun S2 nS2 => ?_⟩
        have sS2 := Same.new (o := .lst (rt.map V.int)) nS2
        refine ⟨(by show 2 ≤ sizeLine; decide), fun Ps nPs => ?_⟩
        have sPs := Same.new (o := .lst [V.ref R2, V.ref S2]) nPs
        have s912 := (s10.trans sS2).trans sPs
        have LG12 := (LG.same sS2).same sPs
        have dS2 := sPs _ _ (upd_same (H := H10) (a := S2) (o := .lst (rt.map V.int)))
        have dPs : upd (upd H10 S2 (.lst (rt.map V.int))) Ps (.lst [V.ref R2, V.ref S2]) Ps = some (.lst [V.ref R2, V.ref S2]) := upd_same
        have P12 := P9.same s912
        have L12 := L9.same s912
        have dS12 := s912 _ _ dS9
        generalize upd (upd H10 S2 (.lst (rt.map V.int))) Ps (.lst [V.ref R2, V.ref S2]) = H12 at LG12 dS2 dPs P12 L12 dS12 s912 ⊢
        have lG : G.length = n := by rw [← snds_len, hG, snds_len, lF]
        -- found = solve(passed[0], passed[1])
        refine ⟨fun σ H' => ∃ (t D : Addr), σ = [some (.ref s), some (.ref p), some (.int (C : Int)), some (.int (n : Int)), some (.ref R), some (.ref Hd), some (.ref S), some (.int kd), some (.ref Ps), some (.ref t), none, none, none] ∧ Same H12 H' ∧
          ((∃ x : List Int, H' t = some (.tup [.ref D, .non]) ∧ H' D = some (.lst (x.map V.int)) ∧ x.length = C ∧ (∀ w ∈ x, Wd w) ∧ Fits (snds F) rt x) ∨ (∃ f : List Int, H' t = some (.tup [.non, .ref D]) ∧ H' D = some (.lst (f.map V.int)) ∧ f.length = n ∧ (∀ w ∈ f, Wd w) ∧ Refutes (snds F) rt f C)), ?_, ?_⟩
        · refine ⟨_, rfl, Ps, _, _, _, rfl, rfl, SqL.of dPs, at_of (j := 0) rfl rfl, _, rfl, Ps, _, _, _, rfl, rfl, SqL.of dPs, at_of (j := 1) rfl rfl, R2, S2, G, rt, rfl, LG12.rl, SqL.of dS2, by omega, by rw [hG, c0l]; omega, fun b => absurd (by rw [hG] at b; exact b) good, fun _ => ⟨fun t D x H' s' ht hD lx wx fx => ?_, fun t D f H' s' ht hD lf wf rf => ?_⟩⟩
          · rw [hG] at lx fx
            exact ⟨t, D, rfl, s', .inl ⟨x, ht, hD, by rw [lx, c0l], wx, fx⟩⟩
          · rw [hG] at rf
            rw [c0l] at rf
            exact ⟨t, D, rfl, s', .inr ⟨f, ht, hD, by omega, wf, rf⟩⟩
        · rintro σ H13 ⟨t, D, rfl, s13, res⟩
          have P13 := P12.same s13
          have L13 := L12.same s13
          have LG13 := LG12.same s13
          have dS13 := s13 _ _ dS12
          have dS2' := s13 _ _ dS2
          have dPs' := s13 _ _ dPs
          have dt : ∃ u v, H13 t = some (.tup [u, v]) := by
            rcases res with ⟨_, h, _⟩ | ⟨_, h, _⟩ <;> exact ⟨_, _, h⟩
          obtain ⟨u, v, dt⟩ := dt
          -- if passed != [rows, right] or ..
          refine ⟨_, rfl, _, rfl, _, rfl, (by show 2 ≤ sizeLine; decide), fun q nq => ?_⟩
          have sq := Same.new (o := .lst [V.ref R, V.ref S]) nq
          have d1 := dp_sys (K := K) (F := G) (right := rt) (SqL.of (sq _ _ dPs')) (LG13.same sq).rl (SqL.of (sq _ _ dS2'))
          rw [hG] at d1
          refine ⟨_, _, d1, dp_sys (F := F) (SqL.of upd_same) (L13.same sq).rl (SqL.of (sq _ _ dS13)), sys_shaped _ _, sys_shaped _ _, _, rfl, ?_⟩
          rw [sys_eqv]
          refine iteF ?_
          have dt' := sq _ _ dt
          refine ⟨_, rfl, _, _, _, _, true, rfl, .ty "tuple", .base (.tup dt'), kit_ty (by decide +kernel), true, rfl, iteF ?_⟩
          refine ⟨_, rfl, t, _, rfl, .inr (SqT.of dt'), rfl, _, rfl, iteNS rfl ?_⟩
          have P14 := P13.same sq
          have L14 := L13.same sq
          have dS14 := sq _ _ dS13
          have res' : ((∃ x : List Int, upd H13 q (.lst [V.ref R, V.ref S]) t = some (.tup [.ref D, .non]) ∧ upd H13 q (.lst [V.ref R, V.ref S]) D = some (.lst (x.map V.int)) ∧ x.length = C ∧ (∀ w ∈ x, Wd w) ∧ Fits (snds F) rt x) ∨ (∃ f : List Int, upd H13 q (.lst [V.ref R, V.ref S]) t = some (.tup [.non, .ref D]) ∧ upd H13 q (.lst [V.ref R, V.ref S]) D = some (.lst (f.map V.int)) ∧ f.length = n ∧ (∀ w ∈ f, Wd w) ∧ Refutes (snds F) rt f C)) := by
            rcases res with ⟨x, h1, h2, h3⟩ | ⟨x, h1, h2, h3⟩
            · exact .inl ⟨x, sq _ _ h1, sq _ _ h2, h3⟩
            · exact .inr ⟨x, sq _ _ h1, sq _ _ h2, h3⟩
          clear dt dt' res d1
          generalize upd H13 q (.lst [V.ref R, V.ref S]) = H14 at P14 L14 dS14 res' ⊢
          -- if found[1] is None
          refine ⟨fun σ H' => ∃ v10 v11 : Option V, σ = [some (.ref s), some (.ref p), some (.int (C : Int)), some (.int (n : Int)), some (.ref R), some (.ref Hd), some (.ref S), some (.int kd), some (.ref Ps), some (.ref t), v10, v11, none] ∧ Same H14 H', ?_, ?_⟩
          · rcases res' with ⟨x, ht, hD, lx, wx, fx⟩ | ⟨f, ht, hD, lf, wf, rf⟩
            · refine ⟨_, rfl, t, _, _, _, rfl, rfl, SqT.of ht, at_of (j := 1) rfl rfl, rfl, _, rfl, ?_⟩
              refine ite2 (fun _ => ?_) (fun q => absurd rfl q)
              refine ⟨_, rfl, t, _, _, _, rfl, rfl, SqT.of ht, at_of (j := 0) rfl rfl, _, rfl, D, x, (C : Int), rfl, hD, wx, by omega, true, rfl, iteF ?_⟩
              refine ⟨_, rfl, _, rfl, by omega, by omega, ?_⟩
              rw [Int.toNat_natCast]
              refine for_range (lo := 0) (n := n) (fun i σ H' => ∃ v10 : Option V, σ = [some (.ref s), some (.ref p), some (.int (C : Int)), some (.int (n : Int)), some (.ref R), some (.ref Hd), some (.ref S), some (.int kd), some (.ref Ps), some (.ref t), v10, none, none] ∧ H' = H14) ⟨none, rfl, rfl⟩ ?_ ?_
              · rintro i σ H' hi ⟨v10, rfl, rfl⟩
                have hFi : F[i]? = some F[i] := List.getElem?_eq_getElem (by omega)
                have mFi := List.mem_of_getElem? hFi
                have wi := hF _ mFi
                have hri : rt[i]? = some rt[i] := List.getElem?_eq_getElem (by omega)
                refine ⟨_, rfl, _, rfl, R, _, _, _, rfl, rfl, SqL.of L14.1, at_of (j := i) (by omega) (refs_get hFi), _, rfl, t, _, _, _, rfl, rfl, SqT.of ht, at_of (j := 0) rfl rfl, F[i].1, D, F[i].2, x, rfl, SqL.of (L14.2 _ mFi).1, SqL.of hD, by omega, by omega, wi.2, fun v wv hv => ?_⟩
                refine ⟨_, rfl, _, rfl, S, _, _, _, rfl, rfl, SqL.of dS14, at_of (j := i) (by omega) (by rw [List.getElem?_map, hri]; rfl), rfl, _, rfl, ?_⟩
                have ev : v = rt[i] := by
                  have wri := wr _ (List.getElem_mem (show i < rt.length by omega))
                  refine z_inj wv.1 wv.2 wri.1 wri.2 ?_
                  have := fx i (by rw [snds_len]; omega)
                  rw [snds_get hFi, getD_item hri, lx] at this
                  rw [hv, wi.1]
                  exact this
                exact iteNS (congrArg V.int ev) ⟨_, rfl, rfl⟩
              · rintro σ H' ⟨v10, rfl, rfl⟩
                exact ⟨_, _, rfl, Same.refl _⟩
            · refine ⟨_, rfl, t, _, _, _, rfl, rfl, SqT.of ht, at_of (j := 1) rfl rfl, rfl, _, rfl, ?_⟩
              refine ite2 (fun q => by cases q) (fun _ => ?_)
              refine ⟨_, rfl, t, _, _, _, rfl, rfl, SqT.of ht, at_of (j := 0) rfl rfl, rfl, _, rfl, iteF ?_⟩
              refine ⟨_, rfl, rfl, _, rfl, ?_⟩
              refine ite2 (fun q => ?_) (fun _ => ?_)
              · exfalso
                have k0 : kd = 0 := V.int.inj (of_decide_eq_true q)
                exact fits_refutes lh (fit k0) rf
              refine ⟨_, rfl, t, _, _, _, rfl, rfl, SqT.of ht, at_of (j := 1) rfl rfl, _, rfl, D, f, (n : Int), rfl, hD, wf, by omega, true, rfl, iteF ?_⟩
              -- for j in range(columns)
              refine ⟨_, rfl, _, rfl, by omega, by omega, ?_⟩
              rw [Int.toNat_natCast]
              refine for_range (lo := 0) (n := C) (fun i σ H' => ∃ v11 : Option V, σ = [some (.ref s), some (.ref p), some (.int (C : Int)), some (.int (n : Int)), some (.ref R), some (.ref Hd), some (.ref S), some (.int kd), some (.ref Ps), some (.ref t), none, v11, none] ∧ Same H14 H') ⟨none, rfl, Same.refl _⟩ ?_ ?_
              · rintro i σ H' hi ⟨v11, rfl, s'⟩
                have L' := L14.same s'
                refine ⟨_, rfl, R, rfl, ⟨_, SqL.of L'.1⟩, fun W nW => lc_list (K := K) (a := R) (xs := refs F) (fun j H'' => Same H' H'' ∧ H'' W = some (.lst ((((snds F).map fun r => r.getD i 0).take j).map V.int))) ⟨Same.new nW, upd_same⟩ (fun j H'' _ q => q.1.seq (SqL.of L'.1)) ?_ ?_⟩
                · rintro j y H'' hj ⟨s'', d''⟩
                  obtain ⟨e, he, rfl⟩ := refs_item hj
                  have me := List.mem_of_getElem? he
                  have li := item_lt he
                  have we := hF e me
                  have hc : e.2[i]? = some e.2[i] := List.getElem?_eq_getElem (by omega)
                  have g : ((snds F).map fun r => r.getD i 0)[j]? = some e.2[i] := by rw [List.getElem?_map, List.getElem?_map, he]; show some (e.2.getD i 0) = _; rw [getD_item hc]
                  refine ⟨rfl, _, rfl, _, rfl, e.1, _, _, _, rfl, rfl, SqL.of (s'' _ _ (L'.2 e me).1), at_of (j := i) (by omega) (by rw [List.getElem?_map, hc]; rfl), _, d'', small _ (by simp; omega), same_put s'' nW, ?_⟩
                  rw [upd_same, take_snoc g, List.map_append]
                  rfl
                · rintro H'' ⟨s'', d''⟩
                  rw [List.take_of_length_le (by rw [List.length_map, snds_len, refs_len]; exact Nat.le_refl _)] at d''
                  refine ⟨_, rfl, t, _, _, _, rfl, rfl, SqT.of (s'' _ _ (s' _ _ ht)), at_of (j := 1) rfl rfl, W, D, (snds F).map (fun r => r.getD i 0), f, rfl, SqL.of d'', SqL.of (s'' _ _ (s' _ _ hD)), by rw [List.length_map, snds_len]; omega, by rw [List.length_map, snds_len]; omega, fun w m => ?_, fun v wv hv => ?_⟩
                  · obtain ⟨r, mr, rfl⟩ := List.mem_map.mp m
                    obtain ⟨e, me, rfl⟩ := List.mem_map.mp mr
                    have we := hF e me
                    have hc : e.2[i]? = some e.2[i] := List.getElem?_eq_getElem (by omega)
                    show Wd (e.2.getD i 0)
                    rw [getD_item hc]
                    exact we.2 _ (List.getElem_mem _)
                  · have z0 : z v = 0 := by
                      rw [hv, List.length_map, ← rf.1 i hi]
                      refine sumR_ext fun k hk => ?_
                      rw [snds_len] at hk
                      have hFk : F[k]? = some F[k] := List.getElem?_eq_getElem hk
                      rw [snds_get hFk, col_in (l := (snds F).map fun r => r.getD i 0) (w := F[k].2.getD i 0) (by rw [List.getElem?_map, List.getElem?_map, hFk]; rfl)]
                      rfl
                    have v0 : v = 0 := by
                      have := (z_z _).mp z0
                      obtain ⟨w0, w1⟩ := wv
                      omega
                    exact ⟨rfl, _, rfl, iteNS (congrArg V.int v0) ⟨_, rfl, s'.trans s''⟩⟩
              · rintro σ H' ⟨v11, rfl, s'⟩
                -- if _law_dot(right, found[1]) != 1
                refine ⟨_, rfl, _, rfl, t, _, _, _, rfl, rfl, SqT.of (s' _ _ ht), at_of (j := 1) rfl rfl, S, D, rt, f, rfl, SqL.of (s' _ _ dS14), SqL.of (s' _ _ hD), by omega, by omega, wr, fun v wv hv => ?_⟩
                have v1 : v = 1 := by
                  refine z_inj wv.1 wv.2 (by decide) (by decide) ?_
                  rw [hv, z_one, ← rf.2, snds_len, lF, lr]
                  rfl
                exact ⟨rfl, _, rfl, iteNS (congrArg V.int v1) ⟨_, _, rfl, s'⟩⟩
          · rintro σ H15 ⟨v10, v11, rfl, s15⟩
            have L15 := L14.same s15
            have dS15 := s15 _ _ dS14
            -- if not _law_refused([], []) or not _law_refused(rows, right + [0]) or not _law_refused([[]], [0])
            refine ⟨Nat.zero_le _, fun q1 n1 => ⟨Nat.zero_le _, fun q2 n2 => ?_⟩⟩
            have S1 := Same.new (o := .lst []) n1
            have S2' := Same.new (o := .lst []) n2
            refine ⟨q1, q2, [], [], rfl, ⟨SqL.of (S2' _ _ upd_same), fun _ m => nomatch m⟩, SqL.of upd_same, by simp, by simp, .inl rfl, fun H16 s16 => ⟨true, rfl, iteF ?_⟩⟩
            have sA := (S1.trans S2').trans s16
            have L16 := L15.same sA
            have dS16 := sA _ _ dS15
            refine ⟨_, rfl, _, rfl, (by show 1 ≤ sizeLine; decide), fun q3 n3 => ?_⟩
            have S3 := Same.new (o := .lst [V.int 0]) n3
            refine ⟨S, q3, _, _, rfl, rfl, S3 _ _ dS16, upd_same, Nat.le_of_lt (small _ (by simp; omega)), fun q4 n4 => ?_⟩
            have S4 := Same.new (o := .lst (rt.map V.int ++ [V.int 0])) n4
            have hq4 : ∀ H0 : Hp, SqL K (upd H0 q4 (.lst (rt.map V.int ++ [V.int 0]))) q4 ((rt ++ [0]).map V.int) := fun H0 => by
              rw [List.map_append]
              exact SqL.of upd_same
            have L17 := (L16.same S3).same S4
            refine ⟨R, q4, F, rt ++ [0], rfl, L17.rl, hq4 _, by omega, by omega, .inr (.inr (.inr (by rw [snds_len]; simp; omega))), fun H18 s18 => ⟨true, rfl, iteF ?_⟩⟩
            have sB := (S3.trans S4).trans s18
            have L18 := L16.same sB
            have dS18 := sB _ _ dS16
            refine ⟨Nat.zero_le _, fun q5 n5 => ⟨(by show 1 ≤ sizeLine; decide), fun q6 n6 => ⟨(by show 1 ≤ sizeLine; decide), fun q7 n7 => ?_⟩⟩⟩
            have S5 := Same.new (o := .lst []) n5
            have S6 := Same.new (o := .lst [V.ref q5]) n6
            have S7 := Same.new (o := .lst [V.int 0]) n7
            refine ⟨q6, q7, [(q5, [])], [0], rfl, ⟨SqL.of (S7 _ _ upd_same), fun e m => ?_⟩, SqL.of upd_same, by simp, by simp, .inr (.inr (.inl rfl)), fun H20 s20 => ⟨true, rfl, iteF ?_⟩⟩
            · have : e = (q5, []) := by simpa using m
              subst this
              exact SqL.of (S7 _ _ (S6 _ _ upd_same))
            have sC := ((S5.trans S6).trans S7).trans s20
            have L20 := L18.same sC
            have dS20 := sC _ _ dS18
            -- return _law_refused(rows + [[0] * (columns + 1)], right + [0])
            refine ⟨_, rfl, (by show 1 ≤ sizeLine; decide), fun q8 n8 => ?_⟩
            have S8 := Same.new (o := .lst [V.int 0]) n8
            refine ⟨_, rfl, _, _, rfl, rfl, q8, ((C + 1 : Nat) : Int), _, rfl, rfl, upd_same, by omega, by omega, ?_, fun q9 n9 => ?_⟩
            · rw [Int.toNat_natCast]
              exact Nat.le_of_lt (small _ (by simp; omega))
            rw [Int.toNat_natCast, rep_zero]
            have S9 := Same.new (o := .lst ((List.replicate (C + 1) (0 : Int)).map V.int)) n9
            refine ⟨(by show 1 ≤ sizeLine; decide), fun q10 n10 => ?_⟩
            have S10 := Same.new (o := .lst [V.ref q9]) n10
            have L23 := ((L20.same S8).same S9).same S10
            refine ⟨R, q10, _, _, rfl, rfl, L23.1, upd_same, Nat.le_of_lt (small _ (by rw [refs_len]; simp; omega)), fun q11 n11 => ?_⟩
            have S11 := Same.new (o := .lst (refs F ++ [V.ref q9])) n11
            have dS24 := S11 _ _ (S10 _ _ (S9 _ _ (S8 _ _ dS20)))
            refine ⟨_, rfl, (by show 1 ≤ sizeLine; decide), fun q12 n12 => ?_⟩
            have S12 := Same.new (o := .lst [V.int 0]) n12
            refine ⟨S, q12, _, _, rfl, rfl, S12 _ _ dS24, upd_same, Nat.le_of_lt (small _ (by simp; omega)), fun q13 n13 => ?_⟩
            have S13 := Same.new (o := .lst (rt.map V.int ++ [V.int 0])) n13
            have hq13 : ∀ H0 : Hp, SqL K (upd H0 q13 (.lst (rt.map V.int ++ [V.int 0]))) q13 ((rt ++ [0]).map V.int) := fun H0 => by
              rw [List.map_append]
              exact SqL.of upd_same
            refine ⟨q11, q13, F ++ [(q9, List.replicate (C + 1) 0)], rt ++ [0], rfl, ⟨SqL.of ?_, fun e m => ?_⟩, hq13 _, by simp; omega, ?_, .inr (.inl ⟨List.replicate (C + 1) 0, by simp, ?_⟩), fun H' _ => k H'⟩
            · refine S13 _ _ (S12 _ _ (upd_same.trans ?_))
              unfold refs
              rw [List.map_append]
              rfl
            · rcases List.mem_append.mp m with m | m
              · exact SqL.of (S13 _ _ (S12 _ _ (S11 _ _ (L23.2 e m).1)))
              · have : e = (q9, List.replicate (C + 1) 0) := by simpa using m
                subst this
                exact SqL.of (S13 _ _ (S12 _ _ (S11 _ _ (S10 _ _ upd_same))))
            · have h0 : F[0]? = some F[0] := List.getElem?_eq_getElem (by omega)
              have : (snds (F ++ [(q9, List.replicate (C + 1) 0)])).getD 0 [] = F[0].2 := snds_get (by rw [List.getElem?_append_left (by omega)]; exact h0)
              rw [this, (hF _ (List.mem_of_getElem? h0)).1]
              omega
            · have h0 : F[0]? = some F[0] := List.getElem?_eq_getElem (by omega)
              have : (snds (F ++ [(q9, List.replicate (C + 1) 0)])).getD 0 [] = F[0].2 := snds_get (by rw [List.getElem?_append_left (by omega)]; exact h0)
              rw [this, (hF _ (List.mem_of_getElem? h0)).1, List.length_replicate]
              omega
end
theorem all_mk {l : PySem.W.OpenLaw} {w : World} {K : PySem.W.Frag} {h : Heap} {mg : Str → Option Value} {fa : Addr} (X : K.In h) (G : h.Ns mainGlobals mg) (hfa : mg "law" = some (.ref fa))
    {f_inverse : Addr} {oc_inverse kV_inverse dc_inverse pm_inverse cd_inverse ct_inverse : Value} {od_inverse an_inverse : Option Addr} {sl_inverse : Array (Option Value)}
    {f_check_system : Addr} {oc_check_system kV_check_system dc_check_system pm_check_system cd_check_system ct_check_system : Value} {od_check_system an_check_system : Option Addr} {sl_check_system : Array (Option Value)}
    {f_combination : Addr} {oc_combination kV_combination dc_combination pm_combination cd_combination ct_combination : Value} {od_combination an_combination : Option Addr} {sl_combination : Array (Option Value)}
    {f_pivot_index : Addr} {oc_pivot_index kV_pivot_index dc_pivot_index pm_pivot_index cd_pivot_index ct_pivot_index : Value} {od_pivot_index an_pivot_index : Option Addr} {sl_pivot_index : Array (Option Value)}
    {f_without : Addr} {oc_without kV_without dc_without pm_without cd_without ct_without : Value} {od_without an_without : Option Addr} {sl_without : Array (Option Value)}
    {f_eliminate : Addr} {oc_eliminate kV_eliminate dc_eliminate pm_eliminate cd_eliminate ct_eliminate : Value} {od_eliminate an_eliminate : Option Addr} {sl_eliminate : Array (Option Value)}
    {f_reduce_lines : Addr} {oc_reduce_lines kV_reduce_lines dc_reduce_lines pm_reduce_lines cd_reduce_lines ct_reduce_lines : Value} {od_reduce_lines an_reduce_lines : Option Addr} {sl_reduce_lines : Array (Option Value)}
    {f_solve : Addr} {oc_solve kV_solve dc_solve pm_solve cd_solve ct_solve : Value} {od_solve an_solve : Option Addr} {sl_solve : Array (Option Value)}
    {f_law_pot : Addr} {oc_law_pot kV_law_pot dc_law_pot pm_law_pot cd_law_pot ct_law_pot : Value} {od_law_pot an_law_pot : Option Addr} {sl_law_pot : Array (Option Value)}
    {f_law_next : Addr} {oc_law_next kV_law_next dc_law_next pm_law_next cd_law_next ct_law_next : Value} {od_law_next an_law_next : Option Addr} {sl_law_next : Array (Option Value)}
    {f_law_word : Addr} {oc_law_word kV_law_word dc_law_word pm_law_word cd_law_word ct_law_word : Value} {od_law_word an_law_word : Option Addr} {sl_law_word : Array (Option Value)}
    {f_law_words : Addr} {oc_law_words kV_law_words dc_law_words pm_law_words cd_law_words ct_law_words : Value} {od_law_words an_law_words : Option Addr} {sl_law_words : Array (Option Value)}
    {f_law_is_words : Addr} {oc_law_is_words kV_law_is_words dc_law_is_words pm_law_is_words cd_law_is_words ct_law_is_words : Value} {od_law_is_words an_law_is_words : Option Addr} {sl_law_is_words : Array (Option Value)}
    {f_law_refused : Addr} {oc_law_refused kV_law_refused dc_law_refused pm_law_refused cd_law_refused ct_law_refused : Value} {od_law_refused an_law_refused : Option Addr} {sl_law_refused : Array (Option Value)}
    {f_law_dot : Addr} {oc_law_dot kV_law_dot dc_law_dot pm_law_dot cd_law_dot ct_law_dot : Value} {od_law_dot an_law_dot : Option Addr} {sl_law_dot : Array (Option Value)}
    {f_law_rows : Addr} {oc_law_rows kV_law_rows dc_law_rows pm_law_rows cd_law_rows ct_law_rows : Value} {od_law_rows an_law_rows : Option Addr} {sl_law_rows : Array (Option Value)}
    {f_law : Addr} {oc_law kV_law dc_law pm_law cd_law ct_law : Value} {od_law an_law : Option Addr} {sl_law : Array (Option Value)}
    {c_PoolError : Addr}
    {c_InvalidArgument : Addr}
    {tk_PRIME : Tok}
    (a_inverse : PySem.W.nsIn K mainGlobals "inverse" = some (some (.ref f_inverse)))
    (l_inverse : K.lookup f_inverse = some ⟨oc_inverse, od_inverse, .func (PySem.W.fnOf "inverse" "inverse" (defArgs s_inverse) (defBody s_inverse) (defScope s_inverse) .none kV_inverse dc_inverse pm_inverse an_inverse cd_inverse ct_inverse), sl_inverse⟩)
    (q_inverse : PySem.W.codeIn K cd_inverse "inverse" = true)
    (k_inverse : PySem.W.keepIn K (.ref f_inverse) = true)
    (a_check_system : PySem.W.nsIn K mainGlobals "check_system" = some (some (.ref f_check_system)))
    (l_check_system : K.lookup f_check_system = some ⟨oc_check_system, od_check_system, .func (PySem.W.fnOf "check_system" "check_system" (defArgs s_check_system) (defBody s_check_system) (defScope s_check_system) .none kV_check_system dc_check_system pm_check_system an_check_system cd_check_system ct_check_system), sl_check_system⟩)
    (q_check_system : PySem.W.codeIn K cd_check_system "check_system" = true)
    (k_check_system : PySem.W.keepIn K (.ref f_check_system) = true)
    (a_combination : PySem.W.nsIn K mainGlobals "combination" = some (some (.ref f_combination)))
    (l_combination : K.lookup f_combination = some ⟨oc_combination, od_combination, .func (PySem.W.fnOf "combination" "combination" (defArgs s_combination) (defBody s_combination) (defScope s_combination) .none kV_combination dc_combination pm_combination an_combination cd_combination ct_combination), sl_combination⟩)
    (q_combination : PySem.W.codeIn K cd_combination "combination" = true)
    (k_combination : PySem.W.keepIn K (.ref f_combination) = true)
    (a_pivot_index : PySem.W.nsIn K mainGlobals "pivot_index" = some (some (.ref f_pivot_index)))
    (l_pivot_index : K.lookup f_pivot_index = some ⟨oc_pivot_index, od_pivot_index, .func (PySem.W.fnOf "pivot_index" "pivot_index" (defArgs s_pivot_index) (defBody s_pivot_index) (defScope s_pivot_index) .none kV_pivot_index dc_pivot_index pm_pivot_index an_pivot_index cd_pivot_index ct_pivot_index), sl_pivot_index⟩)
    (q_pivot_index : PySem.W.codeIn K cd_pivot_index "pivot_index" = true)
    (k_pivot_index : PySem.W.keepIn K (.ref f_pivot_index) = true)
    (a_without : PySem.W.nsIn K mainGlobals "without" = some (some (.ref f_without)))
    (l_without : K.lookup f_without = some ⟨oc_without, od_without, .func (PySem.W.fnOf "without" "without" (defArgs s_without) (defBody s_without) (defScope s_without) .none kV_without dc_without pm_without an_without cd_without ct_without), sl_without⟩)
    (q_without : PySem.W.codeIn K cd_without "without" = true)
    (k_without : PySem.W.keepIn K (.ref f_without) = true)
    (a_eliminate : PySem.W.nsIn K mainGlobals "eliminate" = some (some (.ref f_eliminate)))
    (l_eliminate : K.lookup f_eliminate = some ⟨oc_eliminate, od_eliminate, .func (PySem.W.fnOf "eliminate" "eliminate" (defArgs s_eliminate) (defBody s_eliminate) (defScope s_eliminate) .none kV_eliminate dc_eliminate pm_eliminate an_eliminate cd_eliminate ct_eliminate), sl_eliminate⟩)
    (q_eliminate : PySem.W.codeIn K cd_eliminate "eliminate" = true)
    (k_eliminate : PySem.W.keepIn K (.ref f_eliminate) = true)
    (a_reduce_lines : PySem.W.nsIn K mainGlobals "reduce_lines" = some (some (.ref f_reduce_lines)))
    (l_reduce_lines : K.lookup f_reduce_lines = some ⟨oc_reduce_lines, od_reduce_lines, .func (PySem.W.fnOf "reduce_lines" "reduce_lines" (defArgs s_reduce_lines) (defBody s_reduce_lines) (defScope s_reduce_lines) .none kV_reduce_lines dc_reduce_lines pm_reduce_lines an_reduce_lines cd_reduce_lines ct_reduce_lines), sl_reduce_lines⟩)
    (q_reduce_lines : PySem.W.codeIn K cd_reduce_lines "reduce_lines" = true)
    (k_reduce_lines : PySem.W.keepIn K (.ref f_reduce_lines) = true)
    (a_solve : PySem.W.nsIn K mainGlobals "solve" = some (some (.ref f_solve)))
    (l_solve : K.lookup f_solve = some ⟨oc_solve, od_solve, .func (PySem.W.fnOf "solve" "solve" (defArgs s_solve) (defBody s_solve) (defScope s_solve) .none kV_solve dc_solve pm_solve an_solve cd_solve ct_solve), sl_solve⟩)
    (q_solve : PySem.W.codeIn K cd_solve "solve" = true)
    (k_solve : PySem.W.keepIn K (.ref f_solve) = true)
    (a_law_pot : PySem.W.nsIn K mainGlobals "_law_pot" = some (some (.ref f_law_pot)))
    (l_law_pot : K.lookup f_law_pot = some ⟨oc_law_pot, od_law_pot, .func (PySem.W.fnOf "_law_pot" "_law_pot" (defArgs s_law_pot) (defBody s_law_pot) (defScope s_law_pot) .none kV_law_pot dc_law_pot pm_law_pot an_law_pot cd_law_pot ct_law_pot), sl_law_pot⟩)
    (q_law_pot : PySem.W.codeIn K cd_law_pot "_law_pot" = true)
    (k_law_pot : PySem.W.keepIn K (.ref f_law_pot) = true)
    (a_law_next : PySem.W.nsIn K mainGlobals "_law_next" = some (some (.ref f_law_next)))
    (l_law_next : K.lookup f_law_next = some ⟨oc_law_next, od_law_next, .func (PySem.W.fnOf "_law_next" "_law_next" (defArgs s_law_next) (defBody s_law_next) (defScope s_law_next) .none kV_law_next dc_law_next pm_law_next an_law_next cd_law_next ct_law_next), sl_law_next⟩)
    (q_law_next : PySem.W.codeIn K cd_law_next "_law_next" = true)
    (k_law_next : PySem.W.keepIn K (.ref f_law_next) = true)
    (a_law_word : PySem.W.nsIn K mainGlobals "_law_word" = some (some (.ref f_law_word)))
    (l_law_word : K.lookup f_law_word = some ⟨oc_law_word, od_law_word, .func (PySem.W.fnOf "_law_word" "_law_word" (defArgs s_law_word) (defBody s_law_word) (defScope s_law_word) .none kV_law_word dc_law_word pm_law_word an_law_word cd_law_word ct_law_word), sl_law_word⟩)
    (q_law_word : PySem.W.codeIn K cd_law_word "_law_word" = true)
    (k_law_word : PySem.W.keepIn K (.ref f_law_word) = true)
    (a_law_words : PySem.W.nsIn K mainGlobals "_law_words" = some (some (.ref f_law_words)))
    (l_law_words : K.lookup f_law_words = some ⟨oc_law_words, od_law_words, .func (PySem.W.fnOf "_law_words" "_law_words" (defArgs s_law_words) (defBody s_law_words) (defScope s_law_words) .none kV_law_words dc_law_words pm_law_words an_law_words cd_law_words ct_law_words), sl_law_words⟩)
    (q_law_words : PySem.W.codeIn K cd_law_words "_law_words" = true)
    (k_law_words : PySem.W.keepIn K (.ref f_law_words) = true)
    (a_law_is_words : PySem.W.nsIn K mainGlobals "_law_is_words" = some (some (.ref f_law_is_words)))
    (l_law_is_words : K.lookup f_law_is_words = some ⟨oc_law_is_words, od_law_is_words, .func (PySem.W.fnOf "_law_is_words" "_law_is_words" (defArgs s_law_is_words) (defBody s_law_is_words) (defScope s_law_is_words) .none kV_law_is_words dc_law_is_words pm_law_is_words an_law_is_words cd_law_is_words ct_law_is_words), sl_law_is_words⟩)
    (q_law_is_words : PySem.W.codeIn K cd_law_is_words "_law_is_words" = true)
    (k_law_is_words : PySem.W.keepIn K (.ref f_law_is_words) = true)
    (a_law_refused : PySem.W.nsIn K mainGlobals "_law_refused" = some (some (.ref f_law_refused)))
    (l_law_refused : K.lookup f_law_refused = some ⟨oc_law_refused, od_law_refused, .func (PySem.W.fnOf "_law_refused" "_law_refused" (defArgs s_law_refused) (defBody s_law_refused) (defScope s_law_refused) .none kV_law_refused dc_law_refused pm_law_refused an_law_refused cd_law_refused ct_law_refused), sl_law_refused⟩)
    (q_law_refused : PySem.W.codeIn K cd_law_refused "_law_refused" = true)
    (k_law_refused : PySem.W.keepIn K (.ref f_law_refused) = true)
    (a_law_dot : PySem.W.nsIn K mainGlobals "_law_dot" = some (some (.ref f_law_dot)))
    (l_law_dot : K.lookup f_law_dot = some ⟨oc_law_dot, od_law_dot, .func (PySem.W.fnOf "_law_dot" "_law_dot" (defArgs s_law_dot) (defBody s_law_dot) (defScope s_law_dot) .none kV_law_dot dc_law_dot pm_law_dot an_law_dot cd_law_dot ct_law_dot), sl_law_dot⟩)
    (q_law_dot : PySem.W.codeIn K cd_law_dot "_law_dot" = true)
    (k_law_dot : PySem.W.keepIn K (.ref f_law_dot) = true)
    (a_law_rows : PySem.W.nsIn K mainGlobals "_law_rows" = some (some (.ref f_law_rows)))
    (l_law_rows : K.lookup f_law_rows = some ⟨oc_law_rows, od_law_rows, .func (PySem.W.fnOf "_law_rows" "_law_rows" (defArgs s_law_rows) (defBody s_law_rows) (defScope s_law_rows) .none kV_law_rows dc_law_rows pm_law_rows an_law_rows cd_law_rows ct_law_rows), sl_law_rows⟩)
    (q_law_rows : PySem.W.codeIn K cd_law_rows "_law_rows" = true)
    (k_law_rows : PySem.W.keepIn K (.ref f_law_rows) = true)
    (a_law : PySem.W.nsIn K mainGlobals "law" = some (some (.ref f_law)))
    (l_law : K.lookup f_law = some ⟨oc_law, od_law, .func (PySem.W.fnOf "law" "law" (defArgs s_law) (defBody s_law) (defScope s_law) .none kV_law dc_law pm_law an_law cd_law ct_law), sl_law⟩)
    (q_law : PySem.W.codeIn K cd_law "law" = true)
    (k_law : PySem.W.keepIn K (.ref f_law) = true)
    (a_PRIME : PySem.W.nsIn K mainGlobals "PRIME" = some (some (.int 65521 tk_PRIME)))
    (n_len : PySem.W.nsIn K mainGlobals "len" = some none)
    (n_range : PySem.W.nsIn K mainGlobals "range" = some none)
    (n_zip : PySem.W.nsIn K mainGlobals "zip" = some none)
    (n_enumerate : PySem.W.nsIn K mainGlobals "enumerate" = some none)
    (n_list : PySem.W.nsIn K mainGlobals "list" = some none)
    (n_int : PySem.W.nsIn K mainGlobals "int" = some none)
    (n_abs : PySem.W.nsIn K mainGlobals "abs" = some none)
    (n_isinstance : PySem.W.nsIn K mainGlobals "isinstance" = some none)
    (n_bool : PySem.W.nsIn K mainGlobals "bool" = some none)
    (n_tuple : PySem.W.nsIn K mainGlobals "tuple" = some none)
    (a_PoolError : PySem.W.nsIn K mainGlobals "PoolError" = some (some (.ref c_PoolError)))
    (x_PoolError : PySem.W.excIn K c_PoolError [.type "ValueError", .type "Exception", .type "BaseException", .type "object"] "ValueError.__new__" = true)
    (k_PoolError : PySem.W.keepIn K (.ref c_PoolError) = true)
    (b_PoolError : PySem.W.subIn K (.ref c_PoolError) (.type "BaseException") = some true)
    (t_PoolError : PySem.W.typeIn K (.ref c_PoolError) = some (.type "type"))
    (E1_PoolError : PySem.W.findIn K (.ref c_PoolError) "__getattribute__" = some (some (.builtin "BaseException.__getattribute__")))
    (E2_PoolError : PySem.W.findIn K (.ref c_PoolError) "__getattr__" = some none)
    (E3_PoolError : PySem.W.hasDictIn K c_PoolError = true)
    (E4_PoolError : PySem.W.findIn K (.ref c_PoolError) "__class__" = some (some (.builtin "object.__class__")))
    (s_PoolError : PySem.W.subIn K (.ref c_PoolError) (.ref c_PoolError) = some true)
    (E5_PoolError : PySem.W.mroIn K c_PoolError (.type "object") = some true)
    (a_InvalidArgument : PySem.W.nsIn K mainGlobals "InvalidArgument" = some (some (.ref c_InvalidArgument)))
    (x_InvalidArgument : PySem.W.excIn K c_InvalidArgument [.type "ValueError", .type "Exception", .type "BaseException", .type "object"] "ValueError.__new__" = true)
    (k_InvalidArgument : PySem.W.keepIn K (.ref c_InvalidArgument) = true)
    (b_InvalidArgument : PySem.W.subIn K (.ref c_InvalidArgument) (.type "BaseException") = some true)
    (t_InvalidArgument : PySem.W.typeIn K (.ref c_InvalidArgument) = some (.type "type"))
    (E1_InvalidArgument : PySem.W.findIn K (.ref c_InvalidArgument) "__getattribute__" = some (some (.builtin "BaseException.__getattribute__")))
    (E2_InvalidArgument : PySem.W.findIn K (.ref c_InvalidArgument) "__getattr__" = some none)
    (E3_InvalidArgument : PySem.W.hasDictIn K c_InvalidArgument = true)
    (E4_InvalidArgument : PySem.W.findIn K (.ref c_InvalidArgument) "__class__" = some (some (.builtin "object.__class__")))
    (s_InvalidArgument : PySem.W.subIn K (.ref c_InvalidArgument) (.ref c_InvalidArgument) = some true)
    (E5_InvalidArgument : PySem.W.mroIn K c_InvalidArgument (.type "object") = some true)
    (E6 : PySem.W.specialIn K (.builtin "object.__class__") "__get__" = some (some (.builtin "getset_descriptor.__get__")))
    (E7 : PySem.W.takesIn K (.builtin "object.__class__") = some true)
    (u_InvalidArgument_PoolError : PySem.W.subIn K (.ref c_InvalidArgument) (.ref c_PoolError) = some true) :
    ∃ fd : FuncData, (∀ (s : Shared) (v : Value), BindsTo s fd ⟨[v], []⟩ [("script", v)]) ∧ ∀ base : Heap, K.In base → base.Ns mainGlobals mg → FnOk l.prog w K mg base CX0 6 fa fd ["script"] (sp_law0 K) := by
  have e := hfa.symm.trans (PySem.W.mg_of X G a_law)
  cases e
  have F_inverse := fun_mk (st := s_inverse) l_inverse q_inverse k_inverse
  have d_inverse := F_inverse.binds (ps := ["a"]) fun _ _ _ _ _ _ us hl => match us, hl with | [_], _ => rfl
  have F_check_system := fun_mk (st := s_check_system) l_check_system q_check_system k_check_system
  have d_check_system := F_check_system.binds (ps := ["rows", "right"]) fun _ _ _ _ _ _ us hl => match us, hl with | [_, _], _ => rfl
  have F_combination := fun_mk (st := s_combination) l_combination q_combination k_combination
  have d_combination := F_combination.binds (ps := ["rows", "right", "at"]) fun _ _ _ _ _ _ us hl => match us, hl with | [_, _, _], _ => rfl
  have F_pivot_index := fun_mk (st := s_pivot_index) l_pivot_index q_pivot_index k_pivot_index
  have d_pivot_index := F_pivot_index.binds (ps := ["lines", "first", "column"]) fun _ _ _ _ _ _ us hl => match us, hl with | [_, _, _], _ => rfl
  have F_without := fun_mk (st := s_without) l_without q_without k_without
  have d_without := F_without.binds (ps := ["line", "column", "pivot"]) fun _ _ _ _ _ _ us hl => match us, hl with | [_, _, _], _ => rfl
  have F_eliminate := fun_mk (st := s_eliminate) l_eliminate q_eliminate k_eliminate
  have d_eliminate := F_eliminate.binds (ps := ["lines", "target", "chosen", "column"]) fun _ _ _ _ _ _ us hl => match us, hl with | [_, _, _, _], _ => rfl
  have F_reduce_lines := fun_mk (st := s_reduce_lines) l_reduce_lines q_reduce_lines k_reduce_lines
  have d_reduce_lines := F_reduce_lines.binds (ps := ["lines", "columns"]) fun _ _ _ _ _ _ us hl => match us, hl with | [_, _], _ => rfl
  have F_solve := fun_mk (st := s_solve) l_solve q_solve k_solve
  have d_solve := F_solve.binds (ps := ["rows", "right"]) fun _ _ _ _ _ _ us hl => match us, hl with | [_, _], _ => rfl
  have F_law_pot := fun_mk (st := s_law_pot) l_law_pot q_law_pot k_law_pot
  have d_law_pot := F_law_pot.binds (ps := ["script"]) fun _ _ _ _ _ _ us hl => match us, hl with | [_], _ => rfl
  have F_law_next := fun_mk (st := s_law_next) l_law_next q_law_next k_law_next
  have d_law_next := F_law_next.binds (ps := ["pot", "limit"]) fun _ _ _ _ _ _ us hl => match us, hl with | [_, _], _ => rfl
  have F_law_word := fun_mk (st := s_law_word) l_law_word q_law_word k_law_word
  have d_law_word := F_law_word.binds (ps := ["pot"]) fun _ _ _ _ _ _ us hl => match us, hl with | [_], _ => rfl
  have F_law_words := fun_mk (st := s_law_words) l_law_words q_law_words k_law_words
  have d_law_words := F_law_words.binds (ps := ["pot", "count"]) fun _ _ _ _ _ _ us hl => match us, hl with | [_, _], _ => rfl
  have F_law_is_words := fun_mk (st := s_law_is_words) l_law_is_words q_law_is_words k_law_is_words
  have d_law_is_words := F_law_is_words.binds (ps := ["value", "count"]) fun _ _ _ _ _ _ us hl => match us, hl with | [_, _], _ => rfl
  have F_law_refused := fun_mk (st := s_law_refused) l_law_refused q_law_refused k_law_refused
  have d_law_refused := F_law_refused.binds (ps := ["rows", "right"]) fun _ _ _ _ _ _ us hl => match us, hl with | [_, _], _ => rfl
  have F_law_dot := fun_mk (st := s_law_dot) l_law_dot q_law_dot k_law_dot
  have d_law_dot := F_law_dot.binds (ps := ["first", "second"]) fun _ _ _ _ _ _ us hl => match us, hl with | [_, _], _ => rfl
  have F_law_rows := fun_mk (st := s_law_rows) l_law_rows q_law_rows k_law_rows
  have d_law_rows := F_law_rows.binds (ps := ["pot", "count", "columns"]) fun _ _ _ _ _ _ us hl => match us, hl with | [_, _, _], _ => rfl
  have F_law := fun_mk (st := s_law) l_law q_law k_law
  have d_law := F_law.binds (ps := ["script"]) fun _ _ _ _ _ _ us hl => match us, hl with | [_], _ => rfl
  have T : Txt K mg ⟨f_inverse, _, f_check_system, _, f_combination, _, f_pivot_index, _, f_without, _, f_eliminate, _, f_reduce_lines, _, f_solve, _, f_law_pot, _, f_law_next, _, f_law_word, _, f_law_words, _, f_law_is_words, _, f_law_refused, _, f_law_dot, _, f_law_rows, _, fa, _, c_PoolError, c_InvalidArgument⟩ := {
    F_inverse := F_inverse, g_inverse := PySem.W.mg_of X G a_inverse, d_inverse := d_inverse,
    F_check_system := F_check_system, g_check_system := PySem.W.mg_of X G a_check_system, d_check_system := d_check_system,
    F_combination := F_combination, g_combination := PySem.W.mg_of X G a_combination, d_combination := d_combination,
    F_pivot_index := F_pivot_index, g_pivot_index := PySem.W.mg_of X G a_pivot_index, d_pivot_index := d_pivot_index,
    F_without := F_without, g_without := PySem.W.mg_of X G a_without, d_without := d_without,
    F_eliminate := F_eliminate, g_eliminate := PySem.W.mg_of X G a_eliminate, d_eliminate := d_eliminate,
    F_reduce_lines := F_reduce_lines, g_reduce_lines := PySem.W.mg_of X G a_reduce_lines, d_reduce_lines := d_reduce_lines,
    F_solve := F_solve, g_solve := PySem.W.mg_of X G a_solve, d_solve := d_solve,
    F_law_pot := F_law_pot, g_law_pot := PySem.W.mg_of X G a_law_pot, d_law_pot := d_law_pot,
    F_law_next := F_law_next, g_law_next := PySem.W.mg_of X G a_law_next, d_law_next := d_law_next,
    F_law_word := F_law_word, g_law_word := PySem.W.mg_of X G a_law_word, d_law_word := d_law_word,
    F_law_words := F_law_words, g_law_words := PySem.W.mg_of X G a_law_words, d_law_words := d_law_words,
    F_law_is_words := F_law_is_words, g_law_is_words := PySem.W.mg_of X G a_law_is_words, d_law_is_words := d_law_is_words,
    F_law_refused := F_law_refused, g_law_refused := PySem.W.mg_of X G a_law_refused, d_law_refused := d_law_refused,
    F_law_dot := F_law_dot, g_law_dot := PySem.W.mg_of X G a_law_dot, d_law_dot := d_law_dot,
    F_law_rows := F_law_rows, g_law_rows := PySem.W.mg_of X G a_law_rows, d_law_rows := d_law_rows,
    F_law := F_law, g_law := PySem.W.mg_of X G a_law, d_law := d_law,
    g_PRIME := ⟨_, PySem.W.mg_of X G a_PRIME, ⟨_, rfl⟩⟩,
    n_len := PySem.W.mg_none_of X G n_len,
    n_range := PySem.W.mg_none_of X G n_range,
    n_zip := PySem.W.mg_none_of X G n_zip,
    n_enumerate := PySem.W.mg_none_of X G n_enumerate,
    n_list := PySem.W.mg_none_of X G n_list,
    n_int := PySem.W.mg_none_of X G n_int,
    n_abs := PySem.W.mg_none_of X G n_abs,
    n_isinstance := PySem.W.mg_none_of X G n_isinstance,
    n_bool := PySem.W.mg_none_of X G n_bool,
    n_tuple := PySem.W.mg_none_of X G n_tuple,
    g_PoolError := PySem.W.mg_of X G a_PoolError, x_PoolError := x_PoolError, k_PoolError := k_PoolError, b_PoolError := b_PoolError, t_PoolError := t_PoolError, E_PoolError := ⟨E1_PoolError, E2_PoolError, b_PoolError, E3_PoolError, E4_PoolError, E6, E7, E5_PoolError⟩,
    g_InvalidArgument := PySem.W.mg_of X G a_InvalidArgument, x_InvalidArgument := x_InvalidArgument, k_InvalidArgument := k_InvalidArgument, b_InvalidArgument := b_InvalidArgument, t_InvalidArgument := t_InvalidArgument, E_InvalidArgument := ⟨E1_InvalidArgument, E2_InvalidArgument, b_InvalidArgument, E3_InvalidArgument, E4_InvalidArgument, E6, E7, E5_InvalidArgument⟩,
    u_InvalidArgument_PoolError := PySem.W.exm_ref b_PoolError E3_PoolError t_PoolError u_InvalidArgument_PoolError,
    i_InvalidArgument_InvalidArgument := kit_self }
  exact ⟨PySem.W.fnOf "law" "law" (defArgs s_law) (defBody s_law) (defScope s_law) .none kV_law dc_law pm_law an_law cd_law ct_law, fun s v => .of_eq rfl, fun base _ _ => (ok_law T).imp fun vs H Q E h => h⟩
theorem walk {l : PySem.W.OpenLaw} {q : Program} {loose : List Str} {XP : (Str → Option Value) → Heap → Prop} {YP : World → Heap → Prop} {d : DefRec} {K : Params → PySem.W.Frag} (hn : l.most = some 63) (hdf : d.params.defaults = [])
    (hY : ∀ (w : World) (h : Heap), YP w h → (K w.params).In h)
    (F : ∀ (w : World) (mg : Str → Option Value) (fa : Addr) (h : Heap), (K w.params).In h → h.Ns mainGlobals mg → mg d.name = some (.ref fa) →
      ∃ fd : FuncData, (∀ (s : Shared) (u : Value), BindsTo s fd ⟨[u], []⟩ [("script", u)]) ∧ ∀ base : Heap, (K w.params).In base → base.Ns mainGlobals mg → FnOk l.prog w (K w.params) mg base CX0 6 fa fd ["script"] (sp_law0 (K w.params))) :
    PySem.W.WalkO q loose XP YP l.row.toRowW d [] (fun f vs => PySem.call f vs) :=
  L2.walk_of (n := 63) (k := 6) (x := "script") (CX := fun _ => CX0) (sp := fun w => sp_law0 (K w.params)) hn (by decide) hdf ⟨rfl, by decide, by decide⟩ hY F (fun _ _ a ns hl _ hS => ⟨a, ns, rfl, hS, hl, fun _ => rfl⟩) fun _ _ _ _ _ z => z
end PP
open PySem PySem.W PyProof.Rows
set_option maxRecDepth 100000 in
set_option maxHeartbeats 0 in
theorem PySem.Challenge.cw_paritypool_k06_solution_or_refutation_holds : PySem.Challenge.rw_paritypool_k06_solution_or_refutation.Holds := by
  w_on; o_law; k_head; (case hw => w_witness2)
  k_fill
  refine PP.walk (l := PySem.Challenge.rw_paritypool_k06_solution_or_refutation) rfl rfl (fun w h Y => PySem.W.kIn_of Y) ?F
  case F =>
    intro w mg fa h KX G hmg
    refine' PP.all_mk KX G hmg ?a_inverse ?l_inverse ?q_inverse ?k_inverse ?a_check_system ?l_check_system ?q_check_system ?k_check_system ?a_combination ?l_combination ?q_combination ?k_combination ?a_pivot_index ?l_pivot_index ?q_pivot_index ?k_pivot_index ?a_without ?l_without ?q_without ?k_without ?a_eliminate ?l_eliminate ?q_eliminate ?k_eliminate ?a_reduce_lines ?l_reduce_lines ?q_reduce_lines ?k_reduce_lines ?a_solve ?l_solve ?q_solve ?k_solve ?a_law_pot ?l_law_pot ?q_law_pot ?k_law_pot ?a_law_next ?l_law_next ?q_law_next ?k_law_next ?a_law_word ?l_law_word ?q_law_word ?k_law_word ?a_law_words ?l_law_words ?q_law_words ?k_law_words ?a_law_is_words ?l_law_is_words ?q_law_is_words ?k_law_is_words ?a_law_refused ?l_law_refused ?q_law_refused ?k_law_refused ?a_law_dot ?l_law_dot ?q_law_dot ?k_law_dot ?a_law_rows ?l_law_rows ?q_law_rows ?k_law_rows ?a_law ?l_law ?q_law ?k_law ?a_PRIME ?n_len ?n_range ?n_zip ?n_enumerate ?n_list ?n_int ?n_abs ?n_isinstance ?n_bool ?n_tuple ?a_PoolError ?x_PoolError ?k_PoolError ?b_PoolError ?t_PoolError ?E1_PoolError ?E2_PoolError ?E3_PoolError ?E4_PoolError ?s_PoolError ?E5_PoolError ?a_InvalidArgument ?x_InvalidArgument ?k_InvalidArgument ?b_InvalidArgument ?t_InvalidArgument ?E1_InvalidArgument ?E2_InvalidArgument ?E3_InvalidArgument ?E4_InvalidArgument ?s_InvalidArgument ?E5_InvalidArgument ?E6 ?E7 ?u_InvalidArgument_PoolError
    (case a_inverse => k_is)
    (case l_inverse => k_is)
    (case q_inverse => k_is)
    (case k_inverse => k_is)
    (case a_check_system => k_is)
    (case l_check_system => k_is)
    (case q_check_system => k_is)
    (case k_check_system => k_is)
    (case a_combination => k_is)
    (case l_combination => k_is)
    (case q_combination => k_is)
    (case k_combination => k_is)
    (case a_pivot_index => k_is)
    (case l_pivot_index => k_is)
    (case q_pivot_index => k_is)
    (case k_pivot_index => k_is)
    (case a_without => k_is)
    (case l_without => k_is)
    (case q_without => k_is)
    (case k_without => k_is)
    (case a_eliminate => k_is)
    (case l_eliminate => k_is)
    (case q_eliminate => k_is)
    (case k_eliminate => k_is)
    (case a_reduce_lines => k_is)
    (case l_reduce_lines => k_is)
    (case q_reduce_lines => k_is)
    (case k_reduce_lines => k_is)
    (case a_solve => k_is)
    (case l_solve => k_is)
    (case q_solve => k_is)
    (case k_solve => k_is)
    (case a_law_pot => k_is)
    (case l_law_pot => k_is)
    (case q_law_pot => k_is)
    (case k_law_pot => k_is)
    (case a_law_next => k_is)
    (case l_law_next => k_is)
    (case q_law_next => k_is)
    (case k_law_next => k_is)
    (case a_law_word => k_is)
    (case l_law_word => k_is)
    (case q_law_word => k_is)
    (case k_law_word => k_is)
    (case a_law_words => k_is)
    (case l_law_words => k_is)
    (case q_law_words => k_is)
    (case k_law_words => k_is)
    (case a_law_is_words => k_is)
    (case l_law_is_words => k_is)
    (case q_law_is_words => k_is)
    (case k_law_is_words => k_is)
    (case a_law_refused => k_is)
    (case l_law_refused => k_is)
    (case q_law_refused => k_is)
    (case k_law_refused => k_is)
    (case a_law_dot => k_is)
    (case l_law_dot => k_is)
    (case q_law_dot => k_is)
    (case k_law_dot => k_is)
    (case a_law_rows => k_is)
    (case l_law_rows => k_is)
    (case q_law_rows => k_is)
    (case k_law_rows => k_is)
    (case a_law => k_is)
    (case l_law => k_is)
    (case q_law => k_is)
    (case k_law => k_is)
    (case a_PRIME => k_is)
    (case n_len => k_is)
    (case n_range => k_is)
    (case n_zip => k_is)
    (case n_enumerate => k_is)
    (case n_list => k_is)
    (case n_int => k_is)
    (case n_abs => k_is)
    (case n_isinstance => k_is)
    (case n_bool => k_is)
    (case n_tuple => k_is)
    (case a_PoolError => k_is)
    (case x_PoolError => k_exc)
    (case k_PoolError => k_is)
    (case b_PoolError => k_is)
    (case t_PoolError => k_is)
    (case E1_PoolError => k_is)
    (case E2_PoolError => k_is)
    (case E3_PoolError => k_is)
    (case E4_PoolError => k_is)
    (case s_PoolError => first | rfl | k_is)
    (case E5_PoolError => k_is)
    (case a_InvalidArgument => k_is)
    (case x_InvalidArgument => k_exc)
    (case k_InvalidArgument => k_is)
    (case b_InvalidArgument => k_is)
    (case t_InvalidArgument => k_is)
    (case E1_InvalidArgument => k_is)
    (case E2_InvalidArgument => k_is)
    (case E3_InvalidArgument => k_is)
    (case E4_InvalidArgument => k_is)
    (case s_InvalidArgument => first | rfl | k_is)
    (case E5_InvalidArgument => k_is)
    (case E6 => k_is)
    (case E7 => k_is)
    (case u_InvalidArgument_PoolError => k_is)
