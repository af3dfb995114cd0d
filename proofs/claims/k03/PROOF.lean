import PyProof.Rows.All
import Wide.All
import OpenK.AllK
import Wide.FinOn
import HandS.ForMost
import HandS.ForExc
import HandS.ExcIs
import HandS.IsInst
import HandS.Evl
import HandS.Walk
import HandS.Zip
import HandS.More
import PySem.Challenge.RW_paritypool_k03_sums_and_products
set_option Elab.async false
set_option linter.all false
set_option maxRecDepth 100000
set_option maxHeartbeats 2000000
namespace PP
open PySem L2
def top (i : Nat) : Stmt := (PySem.Challenge.pw_paritypool_k03_sums_and_products).main.body.getD i (.Pass ⟨0, 0, 0, 0⟩)
abbrev s_normal : Stmt := top 2
abbrev s_plus : Stmt := top 3
abbrev s_times : Stmt := top 4
abbrev s_evaluate : Stmt := top 5
abbrev s_law_pot : Stmt := top 7
abbrev s_law_next : Stmt := top 8
abbrev s_law_word : Stmt := top 9
abbrev s_law_words : Stmt := top 10
abbrev s_law_is_int : Stmt := top 11
abbrev s_law_is_normal : Stmt := top 12
abbrev s_law_polynomial : Stmt := top 13
abbrev s_law_horner : Stmt := top 14
abbrev s_law : Stmt := top 15
/-! small rules of one's own -/
section
variable {X : Cx}
theorem pe_const {x : Str} {v : V} {pos : Pos} (h : ∃ u, X.mg x = some u ∧ RelV v u) (hg : Gl X x := by rfl) (hd : (x == ("__debug__" : Str)) = false := by decide) : PE X (.Name x pos) (tC v) := by
  obtain ⟨u, h1, h2⟩ := h
  exact pe_glob hg h1 h2 hd
/-- isinstance of a caught error, whatever class the clause has caught -/
theorem call_isE' {a : Addr} {cls : Value} {d : Option Addr} {oe : Obj} {pn : List (Addr × Obj)} (hz : Zc cls d oe) (hf : ∃ vs, oe.data = .fields vs) :
    CallR (X.suite a ((a, oe) :: pn)) (.builtin "isinstance") (fun xs H Q => ∃ D, cls = .ref D ∧ d = none ∧ ExcC X.K D ∧ rIsE X.K D a xs H Q) := by
  intro pins s σ H xs us Q I r h
  obtain ⟨D, rfl, rfl, C, h⟩ := h
  exact call_isE C hz hf pins s σ H xs us Q I r h
end
/-- all but p is as it was, what is free too -/
def Only (p : Addr) (H H' : Hp) : Prop := ∀ b, b ≠ p → H' b = H b
theorem Only.upd {p : Addr} {H : Hp} {o : HO} : Only p H (upd H p o) := fun _ h => upd_ne h
theorem Only.refl {p : Addr} {H : Hp} : Only p H H := fun _ _ => rfl
theorem Only.trans {p : Addr} {H H1 H2 : Hp} (x : Only p H H1) (y : Only p H1 H2) : Only p H H2 := fun b h => (y b h).trans (x b h)
/-! which class is asked of a caught error -/
theorem kit_self {K : PySem.W.Frag} {c : Value} : PySem.W.kitOne K c c = some true := by
  unfold PySem.W.kitOne
  rw [if_pos (by simp)]
theorem kit_type {K : PySem.W.Frag} {D : Addr} {n : String} {b : Bool} (m : PySem.W.kitMeta n = true) (h : PySem.W.subIn K (.ref D) (.type n) = some b) : PySem.W.kitOne K (.ref D) (.type n) = some b := by
  unfold PySem.W.kitOne
  rw [if_neg (by intro z; cases (beq_iff_eq.mp z))]
  show (if PySem.W.kitMeta n = true then PySem.W.subIn K (.ref D) (.type n) else none) = some b
  rw [if_pos m]
  exact h
theorem kit_cls_of {K : PySem.W.Frag} {C : Addr} {t : Value} {b : Bool} (hd : PySem.W.hasDictIn K C = true) (ht : PySem.W.typeIn K (.ref C) = some (.type "type")) (h : PySem.W.subIn K t (.ref C) = some b) : PySem.W.kitCls K t (.ref C) = some b := by
  obtain ⟨cd, hc, _⟩ := PySem.W.any_some hd
  show (if ((PySem.W.clsIn K C).isSome && PySem.W.typeIn K (.ref C) == some (.type "type")) = true then PySem.W.subIn K t (.ref C) else none) = some b
  rw [if_pos (by rw [hc, ht]; rfl)]
  exact h
theorem kit_yes {K : PySem.W.Frag} {C D : Addr} (hd : PySem.W.hasDictIn K C = true) (ht : PySem.W.typeIn K (.ref C) = some (.type "type")) (h : PySem.W.subIn K (.ref D) (.ref C) = some true) : PySem.W.kitOne K (.ref D) (.ref C) = some true := by
  unfold PySem.W.kitOne
  split
  · rfl
  · exact kit_cls_of hd ht h
theorem kit_no {K : PySem.W.Frag} {C D : Addr} (hd : PySem.W.hasDictIn K C = true) (ht : PySem.W.typeIn K (.ref C) = some (.type "type")) (h : PySem.W.subIn K (.ref D) (.ref C) = some false) (hs : PySem.W.subIn K (.ref D) (.ref D) = some true) : PySem.W.kitOne K (.ref D) (.ref C) = some false := by
  unfold PySem.W.kitOne
  split
  · rename_i z
    have e : D = C := by
      have := beq_iff_eq.mp z
      injection this
    rw [← e] at h
    rw [h] at hs
    cases hs
  · exact kit_cls_of hd ht h
/-- len of a list or tuple; list of one -/
abbrev rLenS (K : PySem.W.Frag) := Evl.rLenS K
abbrev rListOf (K : PySem.W.Frag) := Evl.rListS K
/-! the prime, the inverse -/
theorem no_div (d : Nat) (h1 : 2 ≤ d) (h2 : d ≤ 255) : ¬ d ∣ 65521 := by
  intro h
  have e : 65521 % d = 0 := Nat.mod_eq_zero_of_dvd h
  have key : ∀ d : Fin 256, 2 ≤ d.val → ¬ 65521 % d.val = 0 := by decide +kernel
  exact key ⟨d, by omega⟩ h1 e
theorem prime_q (d : Nat) (h : d ∣ 65521) : d = 1 ∨ d = 65521 := by
  obtain ⟨e, he⟩ := h
  by_cases a : d ≤ 255
  · by_cases b : 2 ≤ d
    · exact absurd ⟨e, he⟩ (no_div d b a)
    · have : d ≠ 0 := by rintro rfl; omega
      omega
  · by_cases b : 2 ≤ e
    · by_cases c : e ≤ 255
      · exact absurd ⟨d, by rw [Nat.mul_comm]; exact he⟩ (no_div e b c)
      · have h1 : 256 * 256 ≤ d * e := Nat.mul_le_mul (by omega) (by omega)
        omega
    · have : e ≠ 0 := by rintro rfl; omega
      have e1 : e = 1 := by omega
      subst e1
      omega
theorem gcd_q (x : Int) (h : x % 65521 ≠ 0) : Int.gcd 65521 (x % 65521) = 1 := by
  have d1 : (Int.gcd 65521 (x % 65521) : Nat) ∣ 65521 := by
    have := Int.gcd_dvd_left (65521 : Int) (x % 65521)
    have h2 : ((Int.gcd 65521 (x % 65521) : Nat) : Int) ∣ ((65521 : Nat) : Int) := this
    exact Int.natCast_dvd_natCast.mp h2
  rcases prime_q _ d1 with e | e
  · exact e
  · exfalso
    have d2 := Int.gcd_dvd_right (65521 : Int) (x % 65521)
    rw [e] at d2
    obtain ⟨c, hc⟩ := d2
    have e2 : ((65521 : Nat) : Int) = 65521 := rfl
    rw [e2] at hc
    have p1 := Int.emod_nonneg x (show (65521 : Int) ≠ 0 by decide)
    have p2 := Int.emod_lt_of_pos x (show (0 : Int) < 65521 by decide)
    omega
theorem gcd_turn {n m : Int} (h : Int.gcd n m = 1) : Int.gcd m (n - n / m * m) = 1 := by
  rw [Int.gcd_sub_mul_right_right, Int.gcd_comm]
  exact h
/-- the inverse of a word, by what it is -/
noncomputable def invP (x : Int) : Int := open Classical in if h : ∃ b : Int, 0 ≤ b ∧ b < 65521 ∧ x * b % 65521 = 1 then h.choose else 0
theorem inv_unique {x b c : Int} (hb : 0 ≤ b ∧ b < 65521 ∧ x * b % 65521 = 1) (hc : 0 ≤ c ∧ c < 65521 ∧ x * c % 65521 = 1) : b = c := by
  have e1 : b * (x * c) % 65521 = b := by
    rw [Int.mul_emod, hc.2.2, Int.mul_one, Int.emod_emod_of_dvd _ (Int.dvd_refl _), Int.emod_eq_of_lt hb.1 hb.2.1]
  have e2 : c * (x * b) % 65521 = c := by
    rw [Int.mul_emod, hb.2.2, Int.mul_one, Int.emod_emod_of_dvd _ (Int.dvd_refl _), Int.emod_eq_of_lt hc.1 hc.2.1]
  have e3 : b * (x * c) = c * (x * b) := by grind
  rw [← e1, e3, e2]
theorem invP_eq {x b : Int} (h : 0 ≤ b ∧ b < 65521 ∧ x * b % 65521 = 1) : invP x = b := by
  have hx : ∃ b : Int, 0 ≤ b ∧ b < 65521 ∧ x * b % 65521 = 1 := ⟨b, h⟩
  unfold invP
  rw [dif_pos hx]
  exact inv_unique hx.choose_spec h
/-- one turn of Euclid's algorithm -/
theorem euclid_turn {x n m f g : Int} (h1 : (x * f - n) % 65521 = 0) (h2 : (x * g - m) % 65521 = 0) : (x * (f - n / m * g) - (n - n / m * m)) % 65521 = 0 := by
  have e : x * (f - n / m * g) - (n - n / m * m) = (x * f - n) - n / m * (x * g - m) := by grind
  rw [e, Int.sub_emod, h1, Int.mul_emod, h2, Int.mul_zero]
  rfl
theorem euclid_end {x f : Int} (h : (x * f - 1) % 65521 = 0) : 0 ≤ f % 65521 ∧ f % 65521 < 65521 ∧ x * (f % 65521) % 65521 = 1 := by
  refine ⟨Int.emod_nonneg _ (by decide), Int.emod_lt_of_pos _ (by decide), ?_⟩
  have e : x * (f % 65521) % 65521 = x * f % 65521 := by rw [Int.mul_emod, Int.emod_emod_of_dvd _ (Int.dvd_refl _), ← Int.mul_emod]
  rw [e]
  omega
/-- the inverse exists (Euclid, run in the mathematics) -/
theorem inv_ex : ∀ (k : Nat) (x n m f g : Int), m.toNat ≤ k → 0 ≤ m → 0 < n → (x * f - n) % 65521 = 0 → (x * g - m) % 65521 = 0 → Int.gcd n m = 1 → ∃ b : Int, 0 ≤ b ∧ b < 65521 ∧ x * b % 65521 = 1
  | k, x, n, m, f, g, hk, hm, hn, h1, h2, hg => by
    by_cases e : m = 0
    · subst e
      have : n = 1 := by
        rw [Int.gcd_zero_right] at hg
        omega
      subst this
      exact ⟨_, euclid_end h1⟩
    · have hm' : 0 < m := by omega
      match k, hk with
      | 0, hk => omega
      | k + 1, hk =>
        have r : n - n / m * m = n % m := by
          have := Int.mul_ediv_add_emod n m
          rw [Int.mul_comm] at this
          omega
        have r1 := Int.emod_nonneg n (show m ≠ 0 by omega)
        have r2 := Int.emod_lt_of_pos n hm'
        exact inv_ex k x m (n - n / m * m) g (f - n / m * g) (by omega) (by omega) hm' h2 (euclid_turn h1 h2) (gcd_turn hg)
theorem invP_spec {x : Int} (h : x % 65521 ≠ 0) : 0 ≤ invP x ∧ invP x < 65521 ∧ x * invP x % 65521 = 1 := by
  have p1 := Int.emod_nonneg x (show (65521 : Int) ≠ 0 by decide)
  obtain ⟨b, hb⟩ := inv_ex (x % 65521).toNat x 65521 (x % 65521) 0 1 (Nat.le_refl _) p1 (by decide) (by omega) (by omega) (gcd_q x h)
  rw [invP_eq hb]
  exact hb
/-! the field of words -/
def Zp : Type := Fin 65521
instance : Lean.Grind.CommRing Zp := inferInstanceAs (Lean.Grind.CommRing (Fin 65521))
instance : Lean.Grind.IsCharP Zp 65521 := inferInstanceAs (Lean.Grind.IsCharP (Fin 65521) 65521)
instance : DecidableEq Zp := inferInstanceAs (DecidableEq (Fin 65521))
def z (n : Int) : Zp := Lean.Grind.Ring.intCast.intCast n
theorem z_eq {a b : Int} : z a = z b ↔ a % 65521 = b % 65521 := Lean.Grind.IsCharP.intCast_ext_iff (α := Zp) 65521
theorem z_mod (a : Int) : z (a % 65521) = z a := z_eq.mpr (Int.emod_emod_of_dvd _ (Int.dvd_refl _))
theorem z_add (a b : Int) : z (a + b) = z a + z b := Lean.Grind.Ring.intCast_add a b
theorem z_sub (a b : Int) : z (a - b) = z a - z b := Lean.Grind.Ring.intCast_sub a b
theorem z_mul (a b : Int) : z (a * b) = z a * z b := Lean.Grind.Ring.intCast_mul a b
theorem z_neg (a : Int) : z (-a) = -z a := Lean.Grind.Ring.intCast_neg a
theorem z_zero : z 0 = 0 := Lean.Grind.Ring.intCast_zero
theorem z_one : z 1 = 1 := Lean.Grind.Ring.intCast_one
theorem z_z (a : Int) : z a = 0 ↔ a % 65521 = 0 := by
  rw [← z_zero, z_eq]
  rfl
theorem z_inj {a b : Int} (ha : 0 ≤ a) (ha' : a < 65521) (hb : 0 ≤ b) (hb' : b < 65521) (h : z a = z b) : a = b := by
  have := z_eq.mp h
  rw [Int.emod_eq_of_lt ha ha', Int.emod_eq_of_lt hb hb'] at this
  exact this
theorem z_mod_eq {a b : Int} (h : z a = z b) : a % 65521 = b % 65521 := z_eq.mp h
theorem z_surj (x : Zp) : ∃ n : Int, 0 ≤ n ∧ n < 65521 ∧ z n = x := by
  refine ⟨((show Fin 65521 from x).val : Int), by omega, by omega, ?_⟩
  show (Fin.intCast ((show Fin 65521 from x).val : Int) : Fin 65521) = x
  unfold Fin.intCast
  rw [if_pos (by omega), Int.natAbs_natCast]
  exact Fin.ofNat_val_eq_self _
theorem z_invP {n : Int} (h : z n ≠ 0) : z n * z (invP n) = 1 := by
  have h' : n % 65521 ≠ 0 := fun e => h ((z_z n).mpr e)
  obtain ⟨b0, b1, b2⟩ := invP_spec h'
  rw [← z_mul, ← z_one, z_eq]
  exact b2
theorem zp_inv {a : Zp} (h : a ≠ 0) : ∃ b : Zp, a * b = 1 := by
  obtain ⟨n, _, _, rfl⟩ := z_surj a
  exact ⟨_, z_invP h⟩
theorem zp_div {a b : Zp} (h : a * b = 0) : a = 0 ∨ b = 0 := by
  by_cases ha : a = 0
  · exact .inl ha
  · obtain ⟨c, hc⟩ := zp_inv ha
    right
    have : b = c * (a * b) := by grind
    rw [this, h]
    grind
theorem zp_01 : (1 : Zp) ≠ 0 := by
  rw [← z_one, ← z_zero]
  intro h
  have := z_eq.mp h
  omega
theorem zp_mul_ne {a b : Zp} (ha : a ≠ 0) (hb : b ≠ 0) : a * b ≠ 0 := fun h => (zp_div h).elim ha hb
/-! ### functions that are polynomials with n coefficients -/
def Pol : Nat → (Zp → Zp) → Prop
  | 0, f => ∀ x, f x = 0
  | n + 1, f => ∃ (c : Zp) (g : Zp → Zp), Pol n g ∧ ∀ x, f x = c + x * g x
theorem Pol.ext : ∀ {n : Nat} {f g : Zp → Zp}, Pol n f → (∀ x, g x = f x) → Pol n g
  | 0, _, _, h, e => fun x => (e x).trans (h x)
  | _ + 1, _, _, ⟨c, g, h, q⟩, e => ⟨c, g, h, fun x => (e x).trans (q x)⟩
theorem pol_nil : ∀ n : Nat, Pol n fun _ => 0
  | 0 => fun _ => rfl
  | n + 1 => ⟨0, fun _ => 0, pol_nil n, fun x => by grind⟩
theorem Pol.up : ∀ {n : Nat} {f : Zp → Zp}, Pol n f → Pol (n + 1) f
  | 0, f, h => ⟨0, fun _ => 0, fun _ => rfl, fun x => by rw [h x]; grind⟩
  | n + 1, _, ⟨c, g, h, q⟩ => ⟨c, g, h.up, q⟩
theorem Pol.mono {n m : Nat} {f : Zp → Zp} (h : Pol n f) (l : n ≤ m) : Pol m f := by
  induction l with
  | refl => exact h
  | step _ ih => exact ih.up
theorem Pol.add : ∀ {n : Nat} {f g : Zp → Zp}, Pol n f → Pol n g → Pol n fun x => f x + g x
  | 0, f, g, h, k => fun x => by show f x + g x = 0; rw [h x, k x]; grind
  | n + 1, f, g, ⟨c, u, h, p⟩, ⟨d, v, k, q⟩ => ⟨c + d, fun x => u x + v x, Pol.add h k, fun x => by show f x + g x = _; rw [p x, q x]; grind⟩
theorem Pol.smul : ∀ {n : Nat} {f : Zp → Zp} (a : Zp), Pol n f → Pol n fun x => f x * a
  | 0, f, a, h => fun x => by show f x * a = 0; rw [h x]; grind
  | n + 1, f, a, ⟨c, u, h, p⟩ => ⟨c * a, fun x => u x * a, Pol.smul a h, fun x => by show f x * a = _; rw [p x]; grind⟩
theorem Pol.const (c : Zp) : Pol 1 fun _ => c := ⟨c, fun _ => 0, fun _ => rfl, fun x => by grind⟩
theorem Pol.xmul {n : Nat} {f : Zp → Zp} (h : Pol n f) : Pol (n + 1) fun x => x * f x := ⟨0, f, h, fun x => by grind⟩
theorem Pol.lin {n : Nat} {f : Zp → Zp} (a : Zp) (h : Pol n f) : Pol (n + 1) fun x => (x - a) * f x :=
  (h.xmul.add (h.up.smul (-a))).ext fun x => by grind
theorem Pol.sub {n : Nat} {f g : Zp → Zp} (h : Pol n f) (k : Pol n g) : Pol n fun x => f x - g x :=
  (h.add (k.smul (-1))).ext fun x => by grind
/-- a polynomial less its value at a is a multiple of x - a -/
theorem Pol.at : ∀ {n : Nat} {f : Zp → Zp} (a : Zp), Pol (n + 1) f → ∃ g, Pol n g ∧ ∀ x, f x = f a + (x - a) * g x
  | 0, f, a, ⟨c, g, h, q⟩ => ⟨fun _ => 0, fun _ => rfl, fun x => by rw [q x, q a, h x, h a]; grind⟩
  | n + 1, f, a, ⟨c, g, h, q⟩ => by
    obtain ⟨k, hk, e⟩ := Pol.at a h
    refine ⟨fun x => g a + x * k x, ⟨g a, k, hk, fun _ => rfl⟩, fun x => ?_⟩
    have e1 := e x
    rw [q x, q a]
    grind
/-- as many zeros as coefficients: it is zero -/
theorem Pol.roots : ∀ {n : Nat} {f : Zp → Zp} (xs : List Zp), Pol n f → xs.Nodup → n ≤ xs.length → (∀ a ∈ xs, f a = 0) → ∀ x, f x = 0
  | 0, _, _, h, _, _, _ => h
  | n + 1, f, [], _, _, hl, _ => absurd hl (by simp)
  | n + 1, f, a :: r, h, hn, hl, hz => by
    obtain ⟨g, hg, e⟩ := Pol.at a h
    have ha : f a = 0 := hz a (by simp)
    have hn' := List.nodup_cons.mp hn
    have g0 : ∀ x, g x = 0 := Pol.roots r hg hn'.2 (by simpa using hl) fun b hb => by
      have hb0 := hz b (List.mem_cons_of_mem _ hb)
      rw [e b, ha] at hb0
      have : (b - a) * g b = 0 := by grind
      rcases zp_div this with q | q
      · exfalso
        have : b = a := by grind
        exact hn'.1 (this ▸ hb)
      · exact q
    intro x
    rw [e x, ha, g0 x]
    grind
/-! ### products of differences -/
def prodZ : List Int → Zp → Zp
  | [], _ => 1
  | o :: os, x => (x - z o) * prodZ os x
theorem prodZ_pol : ∀ os : List Int, Pol (os.length + 1) (prodZ os)
  | [] => (Pol.const 1).ext fun _ => rfl
  | o :: os => (Pol.lin (z o) (prodZ_pol os)).ext fun _ => rfl
theorem prodZ_root {o : Int} {x : Zp} : ∀ {os : List Int}, o ∈ os → x = z o → prodZ os x = 0
  | [], h, _ => by simp at h
  | p :: os, h, e => by
    show (x - z p) * prodZ os x = 0
    rcases List.mem_cons.mp h with q | q
    · rw [e, q]
      grind
    · rw [prodZ_root q e]
      grind
theorem prodZ_ne {x : Zp} : ∀ {os : List Int}, (∀ o ∈ os, x ≠ z o) → prodZ os x ≠ 0
  | [], _ => zp_01
  | p :: os, h => by
    refine zp_mul_ne (fun e => h p (by simp) ?_) (prodZ_ne fun o ho => h o (List.mem_cons_of_mem _ ho))
    grind
/-- as the program multiplies -/
def prodM (os : List Int) (x acc : Int) : Int := os.foldl (fun acc o => acc * (x - o) % 65521) acc
theorem prodM_z : ∀ (os : List Int) (x acc : Int), z (prodM os x acc) = z acc * prodZ os (z x)
  | [], x, acc => by
    show z acc = z acc * 1
    grind
  | o :: os, x, acc => by
    show z (prodM os x (acc * (x - o) % 65521)) = z acc * ((z x - z o) * prodZ os (z x))
    rw [prodM_z os x, z_mod, z_mul, z_sub]
    grind
theorem prodM_word : ∀ (os : List Int) (x acc : Int), 0 ≤ acc → acc < 65521 → 0 ≤ prodM os x acc ∧ prodM os x acc < 65521
  | [], _, _, h0, h1 => ⟨h0, h1⟩
  | o :: os, x, acc, _, _ => prodM_word os x _ (Int.emod_nonneg _ (by decide)) (Int.emod_lt_of_pos _ (by decide))
theorem prodM_snoc (os : List Int) (o x acc : Int) : prodM (os ++ [o]) x acc = prodM os x acc * (x - o) % 65521 := by
  unfold prodM
  rw [List.foldl_append]
  rfl
/-- a place's factor -/
noncomputable def wgt (p : Int) (os : List Int) (x : Int) : Int := prodM os x 1 * invP (prodM os p 1) % 65521
theorem wgt_word (p : Int) (os : List Int) (x : Int) : 0 ≤ wgt p os x ∧ wgt p os x < 65521 := ⟨Int.emod_nonneg _ (by decide), Int.emod_lt_of_pos _ (by decide)⟩
theorem wgt_z (p : Int) (os : List Int) (x : Int) : z (wgt p os x) = prodZ os (z x) * z (invP (prodM os p 1)) := by
  unfold wgt
  rw [z_mod, z_mul, prodM_z, z_one]
  grind
theorem wgt_ok {p : Int} {os : List Int} (h : ∀ o ∈ os, z p ≠ z o) : prodM os p 1 % 65521 ≠ 0 := fun e => by
  have := (z_z _).mpr e
  rw [prodM_z, z_one] at this
  refine prodZ_ne h ?_
  grind
/-- all places but the i-th -/
def others (ws : List Int) (i : Nat) : List Int := ws.take i ++ ws.drop (i + 1)
noncomputable def weightsM (ws : List Int) (x : Int) : List Int := (List.range ws.length).map fun i => wgt (ws.getD i 0) (others ws i) x
theorem weightsM_length (ws : List Int) (x : Int) : (weightsM ws x).length = ws.length := by simp [weightsM]
theorem weightsM_get {ws : List Int} {x : Int} {i : Nat} (h : i < ws.length) : (weightsM ws x)[i]? = some (wgt (ws.getD i 0) (others ws i) x) := by
  unfold weightsM
  rw [List.getElem?_map, List.getElem?_range h]
  rfl
/-- no two places are equal modulo the prime -/
def Apart (ws : List Int) : Prop := (ws.map z).Nodup
theorem apart_ne {ws : List Int} (h : Apart ws) {i j : Nat} (hi : i < ws.length) (hj : j < ws.length) (n : i ≠ j) : z (ws.getD i 0) ≠ z (ws.getD j 0) := fun e => by
  refine n ((List.getElem_inj (xs := ws.map z) (h₀ := by simpa using hi) (h₁ := by simpa using hj) h).mp ?_)
  rw [List.getElem_map, List.getElem_map]
  simpa [List.getD_eq_getElem?_getD, hi, hj] using e
theorem mem_others {ws : List Int} {i : Nat} {o : Int} : o ∈ others ws i ↔ ∃ j, j < ws.length ∧ j ≠ i ∧ o = ws.getD j 0 := by
  unfold others
  rw [List.mem_append, List.mem_iff_getElem?, List.mem_iff_getElem?]
  constructor
  · rintro (⟨j, h⟩ | ⟨j, h⟩)
    · rw [List.getElem?_take] at h
      by_cases c : j < i
      · rw [if_pos c] at h
        obtain ⟨hl, e⟩ := List.getElem?_eq_some_iff.mp h
        exact ⟨j, hl, by omega, by simp [List.getD_eq_getElem?_getD, hl, e]⟩
      · rw [if_neg c] at h
        cases h
    · rw [List.getElem?_drop] at h
      obtain ⟨hl, e⟩ := List.getElem?_eq_some_iff.mp h
      exact ⟨_, hl, by omega, by simp [List.getD_eq_getElem?_getD, hl, e]⟩
  · rintro ⟨j, hl, n, rfl⟩
    by_cases c : j < i
    · exact .inl ⟨j, by rw [List.getElem?_take, if_pos c, List.getElem?_eq_getElem hl]; simp [List.getD_eq_getElem?_getD, hl]⟩
    · refine .inr ⟨j - (i + 1), ?_⟩
      rw [List.getElem?_drop, show i + 1 + (j - (i + 1)) = j by omega, List.getElem?_eq_getElem hl]
      simp [List.getD_eq_getElem?_getD, hl]
theorem others_length {ws : List Int} {i : Nat} (h : i < ws.length) : (others ws i).length + 1 = ws.length := by
  unfold others
  rw [List.length_append, List.length_take, List.length_drop]
  omega
theorem others_apart {ws : List Int} (h : Apart ws) {i : Nat} (hi : i < ws.length) : ∀ o ∈ others ws i, z (ws.getD i 0) ≠ z o := fun o ho => by
  obtain ⟨j, hl, n, rfl⟩ := mem_others.mp ho
  exact apart_ne h hi hl (Ne.symm n)
/-! ### sums -/
def sumR : Nat → (Nat → Zp) → Zp
  | 0, _ => 0
  | n + 1, g => sumR n g + g n
theorem sumR_ext : ∀ {n : Nat} {f g : Nat → Zp}, (∀ i, i < n → f i = g i) → sumR n f = sumR n g
  | 0, _, _, _ => rfl
  | n + 1, f, g, h => by
    show sumR n f + f n = sumR n g + g n
    rw [sumR_ext fun i hi => h i (by omega), h n (by omega)]
theorem sumR_zero : ∀ {n : Nat} {f : Nat → Zp}, (∀ i, i < n → f i = 0) → sumR n f = 0
  | 0, _, _ => rfl
  | n + 1, f, h => by
    show sumR n f + f n = 0
    rw [sumR_zero fun i hi => h i (by omega), h n (by omega)]
    grind
theorem sumR_one : ∀ {n : Nat} {f : Nat → Zp} {j : Nat}, j < n → (∀ i, i < n → i ≠ j → f i = 0) → sumR n f = f j
  | n + 1, f, j, hj, h => by
    show sumR n f + f n = f j
    by_cases c : j = n
    · subst c
      rw [sumR_zero fun i hi => h i (by omega) (by omega)]
      grind
    · rw [sumR_one (j := j) (by omega) fun i hi n' => h i (by omega) n', h n (by omega) (by omega)]
      grind
theorem sumR_pol {m : Nat} : ∀ {n : Nat} {F : Nat → Zp → Zp}, (∀ i, i < n → Pol m (F i)) → Pol m fun x => sumR n fun i => F i x
  | 0, _, _ => (pol_nil m).ext fun _ => rfl
  | n + 1, F, h => (Pol.add (sumR_pol (n := n) fun i hi => h i (by omega)) (h n (by omega))).ext fun _ => rfl
/-- the sum of factors times values -/
def dotR (us vs : List Int) : Int := ((List.range us.length).map fun i => us.getD i 0 * vs.getD i 0).sum
theorem sum_range_z : ∀ (n : Nat) (f : Nat → Int), z ((List.range n).map f).sum = sumR n fun i => z (f i)
  | 0, _ => z_zero
  | n + 1, f => by
    rw [List.range_succ, List.map_append, List.sum_append, z_add, sum_range_z n f]
    show _ + z ((f n) + 0) = _
    rw [Int.add_zero]
    rfl
theorem dotR_z (us vs : List Int) : z (dotR us vs) = sumR us.length fun i => z (us.getD i 0) * z (vs.getD i 0) := by
  unfold dotR
  rw [sum_range_z]
  exact sumR_ext fun i _ => z_mul _ _
/-- the value at x, as the program reckons it -/
noncomputable def valM (ws ys : List Int) (x : Int) : Int := dotR (weightsM ws x) ys % 65521
theorem valM_word (ws ys : List Int) (x : Int) : 0 ≤ valM ws ys x ∧ valM ws ys x < 65521 := ⟨Int.emod_nonneg _ (by decide), Int.emod_lt_of_pos _ (by decide)⟩
theorem valM_z (ws ys : List Int) (x : Int) : z (valM ws ys x) = sumR ws.length fun i => prodZ (others ws i) (z x) * (z (invP (prodM (others ws i) (ws.getD i 0) 1)) * z (ys.getD i 0)) := by
  unfold valM
  rw [z_mod, dotR_z, weightsM_length]
  refine sumR_ext fun i hi => ?_
  have e : (weightsM ws x).getD i 0 = wgt (ws.getD i 0) (others ws i) x := by rw [List.getD_eq_getElem?_getD, weightsM_get hi]; rfl
  rw [e, wgt_z]
  grind
/-- at a place it is the point's own value -/
theorem valM_node {ws ys : List Int} (h : Apart ws) {x : Int} {j : Nat} (hj : j < ws.length) (e : z x = z (ws.getD j 0)) : z (valM ws ys x) = z (ys.getD j 0) := by
  rw [valM_z, sumR_one hj fun i hi n => ?_]
  · have p := others_apart h hj
    have q := wgt_ok p
    have r : z (prodM (others ws j) (ws.getD j 0) 1) * z (invP (prodM (others ws j) (ws.getD j 0) 1)) = 1 := z_invP fun e => q ((z_z _).mp e)
    rw [prodM_z, z_one] at r
    rw [e]
    grind
  · rw [prodZ_root (mem_others.mpr ⟨j, hj, Ne.symm n, rfl⟩) e]
    grind
/-- the values of a polynomial at the places give its value anywhere -/
theorem valM_pol {ws ys : List Int} (h : Apart ws) {f : Zp → Zp} (hf : Pol ws.length f) (hy : ∀ i, i < ws.length → z (ys.getD i 0) = f (z (ws.getD i 0))) (x : Int) : z (valM ws ys x) = f (z x) := by
  have P : Pol ws.length fun x => (sumR ws.length fun i => prodZ (others ws i) x * (z (invP (prodM (others ws i) (ws.getD i 0) 1)) * z (ys.getD i 0))) - f x := by
    refine Pol.sub (sumR_pol fun i hi => Pol.smul _ ?_) hf
    have := prodZ_pol (others ws i)
    rw [others_length hi] at this
    exact this
  have R := Pol.roots (ws.map z) P h (by simp) (fun a ha => ?_) (z x)
  · rw [valM_z]
    have R' : (sumR ws.length fun i => prodZ (others ws i) (z x) * (z (invP (prodM (others ws i) (ws.getD i 0) 1)) * z (ys.getD i 0))) - f (z x) = 0 := R
    grind
  · obtain ⟨p, hp, rfl⟩ := List.mem_map.mp ha
    obtain ⟨j, hj⟩ := List.mem_iff_getElem?.mp hp
    obtain ⟨hl, e⟩ := List.getElem?_eq_some_iff.mp hj
    have ep : ws.getD j 0 = p := by simp [List.getD_eq_getElem?_getD, hl, e]
    have v := valM_node (ys := ys) h (x := p) hl (by rw [ep])
    rw [valM_z, hy j hl, ep] at v
    show (sumR ws.length fun i => prodZ (others ws i) (z p) * (z (invP (prodM (others ws i) (ws.getD i 0) 1)) * z (ys.getD i 0))) - f (z p) = 0
    rw [v]
    grind
/-! a polynomial's value -/
def pev : List Int → Zp → Zp
  | [], _ => 0
  | c :: r, x => z c + x * pev r x
theorem pev_pol : ∀ ns : List Int, Pol ns.length (pev ns)
  | [] => fun _ => rfl
  | c :: r => ⟨z c, pev r, pev_pol r, fun _ => rfl⟩
/-- as it is reckoned: from the highest coefficient down -/
def horn : List Int → Int → Int
  | [], _ => 0
  | c :: r, x => (horn r x * x + c) % 65521
theorem horn_z : ∀ (ns : List Int) (x : Int), z (horn ns x) = pev ns (z x)
  | [], _ => z_zero
  | c :: r, x => by
    show z ((horn r x * x + c) % 65521) = z c + z x * pev r (z x)
    rw [z_mod, z_add, z_mul, horn_z r x]
    grind
theorem horn_word : ∀ (ns : List Int) (x : Int), 0 ≤ horn ns x ∧ horn ns x < 65521
  | [], _ => by show (0 : Int) ≤ 0 ∧ (0 : Int) < 65521; omega
  | _ :: _, _ => ⟨Int.emod_nonneg _ (by decide), Int.emod_lt_of_pos _ (by decide)⟩
theorem horn_drop {ns : List Int} {x c : Int} {i : Nat} (h : ns[i]? = some c) : horn (ns.drop i) x = (horn (ns.drop (i + 1)) x * x + c) % 65521 := by
  obtain ⟨hl, e⟩ := List.getElem?_eq_some_iff.mp h
  rw [List.drop_eq_getElem_cons hl, e]
  rfl
/-! polynomials by their values: degree, normal forms -/
def Wd (w : Int) : Prop := 0 ≤ w ∧ w < 65521
/-- a list of words whose last one is not 0 -/
def Norm (r : List Int) : Prop := (∀ w ∈ r, Wd w) ∧ (r = [] ∨ r.getD (r.length - 1) 0 ≠ 0)
def pw (x : Zp) : Nat → Zp
  | 0 => 1
  | n + 1 => x * pw x n
theorem pev_append : ∀ (a b : List Int) (x : Zp), pev (a ++ b) x = pev a x + pw x a.length * pev b x
  | [], b, x => by
    show pev b x = 0 + 1 * pev b x
    grind
  | c :: a, b, x => by
    show z c + x * pev (a ++ b) x = (z c + x * pev a x) + (x * pw x a.length) * pev b x
    rw [pev_append a b x]
    grind
theorem pev_zeros : ∀ {a : List Int}, (∀ w ∈ a, z w = 0) → ∀ x, pev a x = 0
  | [], _, _ => rfl
  | c :: a, h, x => by
    show z c + x * pev a x = 0
    rw [h c (by simp), pev_zeros (fun w m => h w (List.mem_cons_of_mem _ m))]
    grind
theorem pev_mod : ∀ (a : List Int) (x : Zp), pev (a.map (· % 65521)) x = pev a x
  | [], _ => rfl
  | c :: a, x => by
    show z (c % 65521) + x * pev (a.map (· % 65521)) x = z c + x * pev a x
    rw [z_mod, pev_mod a x]
/-- one place of the list gets another number -/
theorem pev_set : ∀ {a : List Int} {i : Nat} {c d : Int} (x : Zp), a[i]? = some c → pev (a.set i d) x = pev a x + pw x i * (z d - z c)
  | [], _, _, _, _, h => by simp at h
  | b :: a, 0, c, d, x, h => by
    have e : b = c := Option.some.inj h
    subst e
    show z d + x * pev a x = (z b + x * pev a x) + 1 * (z d - z b)
    grind
  | b :: a, i + 1, c, d, x, h => by
    show z b + x * pev (a.set i d) x = (z b + x * pev a x) + (x * pw x i) * (z d - z c)
    rw [pev_set (i := i) (c := c) x h]
    grind
theorem pw_add (x : Zp) : ∀ n m : Nat, pw x (n + m) = pw x n * pw x m
  | 0, m => by
    rw [Nat.zero_add]
    show pw x m = 1 * pw x m
    grind
  | n + 1, m => by
    rw [Nat.succ_add]
    show x * pw x (n + m) = (x * pw x n) * pw x m
    rw [pw_add x n m]
    grind
theorem pev_snoc (a : List Int) (c : Int) (x : Zp) : pev (a ++ [c]) x = pev a x + pw x a.length * z c := by
  rw [pev_append]
  show _ + _ * (z c + x * 0) = _
  grind
/-! all words as places -/
def allZ (n : Nat) : List Zp := (List.range n).map fun (k : Nat) => z ((k : Int) + 1)
theorem allZ_nodup {n : Nat} (h : n ≤ 65520) : (allZ n).Nodup := by
  unfold allZ List.Nodup
  rw [List.pairwise_map]
  refine (List.nodup_range (n := n)).imp_of_mem fun {a b} ha hb ne e => ?_
  have h1 := List.mem_range.mp ha
  have h2 := List.mem_range.mp hb
  have := z_eq.mp e
  omega
theorem allZ_ne {n : Nat} (h : n ≤ 65520) : ∀ a ∈ allZ n, a ≠ 0 := fun a ha e => by
  obtain ⟨k, hk, rfl⟩ := List.mem_map.mp ha
  have h1 := List.mem_range.mp hk
  have := (z_z _).mp e
  omega
/-- zero but perhaps at 0: zero -/
theorem Pol.punct {n : Nat} {f : Zp → Zp} (h : Pol n f) (hn : n ≤ 65520) (hz : ∀ x, x ≠ 0 → f x = 0) : ∀ x, f x = 0 :=
  Pol.roots (allZ n) h (allZ_nodup hn) (by simp [allZ]) fun a ha => hz a (allZ_ne hn a ha)
theorem Pol.pw : ∀ (n : Nat) (c : Zp), Pol (n + 1) fun x => c * PP.pw x n
  | 0, c => (Pol.const c).ext fun x => by show c * 1 = c; grind
  | n + 1, c => ((Pol.pw n c).xmul).ext fun x => by show c * (x * PP.pw x n) = x * (c * PP.pw x n); grind
/-- a power beyond the coefficients has the factor 0 -/
theorem lead_zero : ∀ (n : Nat) {c : Zp} {h : Zp → Zp}, n ≤ 60000 → Pol n h → (∀ x, c * pw x n = h x) → c = 0
  | 0, c, h, _, hp, e => by
    have := e 0
    rw [hp 0] at this
    have : c * 1 = 0 := this
    grind
  | n + 1, c, h, hn, ⟨d, g, hg, q⟩, e => by
    have e0 : d = 0 := by
      have h0 := e 0
      rw [q 0] at h0
      have : c * (0 * pw 0 n) = d + 0 * g 0 := h0
      grind
    have F : ∀ x, c * pw x n - g x = 0 := Pol.punct (n := n + 1) (Pol.sub (Pol.pw n c) hg.up) (by omega) fun x hx => by
      have h1 := e x
      rw [q x, e0] at h1
      have h2 : c * (x * pw x n) = 0 + x * g x := h1
      have h3 : x * (c * pw x n - g x) = 0 := by grind
      exact (zp_div h3).resolve_left hx
    exact lead_zero n (by omega) hg fun x => by
      have := F x
      grind
/-- a normal list has no more words than its values need -/
theorem norm_le {r : List Int} {n : Nat} (h : Norm r) (hn : n ≤ 60000) (hp : Pol n (pev r)) (hr : r.length ≤ 60000) : r.length ≤ n := by
  refine Classical.byContradiction fun c => ?_
  obtain ⟨hw, hl⟩ := h
  have rne : r ≠ [] := fun e => by rw [e] at c; simp at c
  have hl := hl.resolve_left rne
  have e : r = r.take (r.length - 1) ++ [r.getD (r.length - 1) 0] := by
    have hlt : r.length - 1 < r.length := by
      have := List.length_pos_iff.mpr rne
      omega
    conv => lhs; rw [← List.take_append_drop (r.length - 1) r]
    rw [List.drop_eq_getElem_cons hlt, show r.length - 1 + 1 = r.length by omega, List.drop_length]
    simp [List.getD_eq_getElem?_getD, hlt]
  have P1 : Pol (r.length - 1) (pev (r.take (r.length - 1))) := (pev_pol _).mono (by rw [List.length_take]; omega)
  have P2 : Pol (r.length - 1) (pev r) := hp.mono (by omega)
  have z0 := lead_zero (r.length - 1) (c := z (r.getD (r.length - 1) 0)) (by omega) (Pol.sub P2 P1) fun x => by
    have := pev_snoc (r.take (r.length - 1)) (r.getD (r.length - 1) 0) x
    rw [← e, List.length_take, Nat.min_eq_left (by omega)] at this
    show _ = pev r x - pev (r.take (r.length - 1)) x
    grind
  have w := hw (r.getD (r.length - 1) 0) (by
    have hlt : r.length - 1 < r.length := by
      have := List.length_pos_iff.mpr rne
      omega
    rw [List.getD_eq_getElem?_getD, List.getElem?_eq_getElem hlt]
    exact List.getElem_mem hlt)
  have := (z_z _).mp z0
  obtain ⟨w0, w1⟩ := w
  omega
/-- the same values everywhere: the same words -/
theorem pev_inj : ∀ {a b : List Int}, a.length = b.length → a.length ≤ 60000 → (∀ w ∈ a, Wd w) → (∀ w ∈ b, Wd w) → (∀ x, pev a x = pev b x) → a = b
  | [], [], _, _, _, _, _ => rfl
  | [], _ :: _, h, _, _, _, _ => by simp at h
  | _ :: _, [], h, _, _, _, _ => by simp at h
  | c :: a, d :: b, hl, hz, ha, hb, e => by
    have e0 : z c = z d := by
      have : z c + 0 * pev a 0 = z d + 0 * pev b 0 := e 0
      grind
    have wc := ha c (by simp)
    have wd := hb d (by simp)
    have ecd : c = d := z_inj wc.1 wc.2 wd.1 wd.2 e0
    have hl' : a.length = b.length := by simpa using hl
    have hz' : a.length + 1 ≤ 60000 := by simpa using hz
    have F : ∀ x, pev a x - pev b x = 0 := Pol.punct (n := a.length) (Pol.sub (pev_pol a) ((pev_pol b).mono (by omega))) (by omega) fun x hx => by
      have h1 : z c + x * pev a x = z d + x * pev b x := e x
      have h3 : x * (pev a x - pev b x) = 0 := by grind
      exact (zp_div h3).resolve_left hx
    rw [ecd, pev_inj hl' (by omega) (fun w m => ha w (List.mem_cons_of_mem _ m)) (fun w m => hb w (List.mem_cons_of_mem _ m)) fun x => by have := F x; grind]
theorem norm_inj {a b : List Int} (ha : Norm a) (hb : Norm b) (la : a.length ≤ 60000) (lb : b.length ≤ 60000) (e : ∀ x, pev a x = pev b x) : a = b := by
  have h1 := norm_le ha lb ((pev_pol b).ext e) la
  have h2 := norm_le hb la ((pev_pol a).ext fun x => (e x).symm) lb
  exact pev_inj (by omega) la ha.1 hb.1 e
/-! products -/
theorem Pol.mul : ∀ {n m : Nat} {f g : Zp → Zp}, Pol n f → Pol m g → Pol (n + m) fun x => f x * g x
  | 0, m, f, g, h, _ => (pol_nil (0 + m)).ext fun x => by show f x * g x = 0; rw [h x]; grind
  | n + 1, m, f, g, ⟨c, u, h, q⟩, k => by
    have A := (Pol.mul h k).xmul
    have B := (k.smul c).mono (show m ≤ n + m + 1 by omega)
    rw [show n + 1 + m = n + m + 1 by omega]
    exact (B.add A).ext fun x => by show f x * g x = g x * c + x * (u x * g x); rw [q x]; grind
/-- the highest coefficient -/
theorem norm_lead {a : List Int} (h : Norm a) (ne : a ≠ []) : ∃ (c : Zp) (g : Zp → Zp), c ≠ 0 ∧ Pol (a.length - 1) g ∧ ∀ x, pev a x = g x + c * pw x (a.length - 1) := by
  have hlt : a.length - 1 < a.length := by
    have := List.length_pos_iff.mpr ne
    omega
  refine ⟨z (a.getD (a.length - 1) 0), pev (a.take (a.length - 1)), fun e => ?_, (pev_pol _).mono (by rw [List.length_take]; omega), fun x => ?_⟩
  · have w : Wd (a.getD (a.length - 1) 0) := h.1 _ (by rw [List.getD_eq_getElem?_getD, List.getElem?_eq_getElem hlt]; exact List.getElem_mem hlt)
    have := (z_z _).mp e
    have ne0 := h.2.resolve_left ne
    obtain ⟨w0, w1⟩ := w
    omega
  · have e : a = a.take (a.length - 1) ++ [a.getD (a.length - 1) 0] := by
      conv => lhs; rw [← List.take_append_drop (a.length - 1) a]
      rw [List.drop_eq_getElem_cons hlt, show a.length - 1 + 1 = a.length by omega, List.drop_length]
      simp [List.getD_eq_getElem?_getD, hlt]
    have := pev_snoc (a.take (a.length - 1)) (a.getD (a.length - 1) 0) x
    rw [← e, List.length_take, Nat.min_eq_left (by omega)] at this
    rw [this]
    grind
theorem norm_mul {a b r : List Int} (ha : Norm a) (hb : Norm b) (hr : Norm r) (na : a ≠ []) (nb : b ≠ []) (la : a.length ≤ 1000) (lb : b.length ≤ 1000) (lr : r.length ≤ 60000) (e : ∀ x, pev r x = pev a x * pev b x) : r.length = a.length + b.length - 1 := by
  obtain ⟨c, g, hc, hg, eg⟩ := norm_lead ha na
  obtain ⟨d, k, hd, hk, ek⟩ := norm_lead hb nb
  have pa := List.length_pos_iff.mpr na
  have pb := List.length_pos_iff.mpr nb
  -- what is below the highest power
  have low : Pol (a.length - 1 + (b.length - 1)) fun x => pev r x - (c * d) * pw x (a.length - 1 + (b.length - 1)) := by
    have A := (hg.mul ((Pol.pw (b.length - 1) d).add hk.up)).mono (show a.length - 1 + (b.length - 1 + 1) ≤ a.length - 1 + (b.length - 1) + 1 by omega)
    have B : ∀ n m : Nat, ∀ u : Zp → Zp, Pol m u → Pol (n + m) fun x => pw x n * u x := by
      intro n
      induction n with
      | zero => exact fun m u hu => by rw [Nat.zero_add]; exact hu.ext fun x => by show 1 * u x = u x; grind
      | succ n ih => exact fun m u hu => by rw [Nat.succ_add]; exact ((ih m u hu).xmul).ext fun x => by show (x * pw x n) * u x = x * (pw x n * u x); grind
    have C := (B (a.length - 1) (b.length - 1) k hk).smul c
    have D := (B (b.length - 1) (a.length - 1) g hg).smul d
    have G : Pol (a.length - 1 + (b.length - 1)) fun x => g x * k x := hg.mul hk
    rw [Nat.add_comm (b.length - 1)] at D
    refine ((C.add D).add G).ext fun x => ?_
    show pev r x - (c * d) * pw x (a.length - 1 + (b.length - 1)) = (pw x (a.length - 1) * k x * c + pw x (b.length - 1) * g x * d) + g x * k x
    rw [e x, eg x, ek x, pw_add]
    grind
  have up : Pol (a.length - 1 + (b.length - 1) + 1) (pev r) := (low.up.add (Pol.pw _ (c * d))).ext fun x => by
    show pev r x = (pev r x - (c * d) * pw x _) + (c * d) * pw x _
    grind
  have h1 := norm_le hr (by omega) up lr
  by_cases q : r.length ≤ a.length - 1 + (b.length - 1)
  · exfalso
    have P := (pev_pol r).mono q
    have := lead_zero (a.length - 1 + (b.length - 1)) (c := c * d) (by omega) (P.sub low) fun x => by
      show _ = pev r x - (pev r x - (c * d) * pw x _)
      grind
    exact zp_mul_ne hc hd this
  · omega
theorem norm_snoc {a : List Int} {c : Int} (h : ∀ w ∈ a, Wd w) (hc : Wd c) (n : c ≠ 0) : Norm (a ++ [c]) := by
  refine ⟨fun w m => ?_, .inr ?_⟩
  · rcases List.mem_append.mp m with m | m
    · exact h w m
    · have : w = c := by simpa using m
      rw [this]
      exact hc
  · rw [List.length_append, List.length_singleton, Nat.add_sub_cancel, List.getD_eq_getElem?_getD]
    simpa using n
theorem norm_nil : Norm [] := ⟨fun _ m => (nomatch m), .inl rfl⟩
/-! heaps, slices, points -/
theorem _root_.L2.Same.tup {K : PySem.W.Frag} {H H' : Hp} {a : Addr} {xs : List V} (e : Same H H') (h : SqT K H a xs) : SqT K H' a xs := by
  rcases h with (h | ⟨o, h⟩) | h
  · exact .inl (.inl (e _ _ h))
  · exact .inl (.inr ⟨o, e _ _ h⟩)
  · exact .inr h
theorem _root_.L2.Same.new {H : Hp} {p : Addr} {o : HO} (h : H p = none) : Same H (upd H p o) := fun _ _ e => by
  rw [upd_ne (ne_of_none e h)]
  exact e
/-- what was tracked is as it was, but for p -/
def But (p : Addr) (H H' : Hp) : Prop := ∀ b o, H b = some o → b ≠ p → H' b = some o
theorem Only.but {p : Addr} {H H' : Hp} (h : Only p H H') : But p H H' := fun b _ e n => (h b n).trans e
theorem _root_.L2.Same.but {p : Addr} {H H' : Hp} (h : Same H H') : But p H H' := fun b o e _ => h b o e
theorem But.trans {p : Addr} {H H1 H2 : Hp} (x : But p H H1) (y : But p H1 H2) : But p H H2 := fun b o e n => y b o (x b o e n) n
theorem But.same {p : Addr} {H0 H H' : Hp} (y : But p H H') (x : Same H0 H) (h : H0 p = none) : Same H0 H' := fun b o e => y b o (x b o e) (ne_of_none e h)
theorem But.new {p q : Addr} {H H' : Hp} {o : HO} (x : But p H H') (h : H' q = none) : But p H (upd H' q o) := x.trans (Same.new h).but
theorem _root_.L2.Same.at {H H' : Hp} {b : Addr} {o : HO} (s : Same H H') (e : H b = some o) : H' b = some o := s b o e
theorem cut_take (xs : List V) (i : Nat) : cutV xs none (some (i : Int)) = xs.take i := by
  unfold cutV
  rw [HT.sIx_none, HT.sIx_nat, List.drop_zero, Nat.sub_zero]
  by_cases h : i ≤ xs.length
  · rw [Nat.min_eq_left h]
  · rw [Nat.min_eq_right (by omega), List.take_of_length_le (by omega), List.take_of_length_le (by omega)]
theorem cut_drop (xs : List V) (i : Nat) : cutV xs (some (i : Int)) none = xs.drop i := by
  unfold cutV
  rw [HT.sIx_none, HT.sIx_nat]
  by_cases h : i ≤ xs.length
  · rw [Nat.min_eq_left h, List.take_of_length_le (by rw [List.length_drop]; omega)]
  · rw [Nat.min_eq_right (by omega), List.drop_of_length_le (by omega), List.drop_of_length_le (by omega), List.take_nil]
theorem take_snoc {α : Type} {l : List α} {i : Nat} {x : α} (h : l[i]? = some x) : l.take (i + 1) = l.take i ++ [x] := by
  rw [List.take_add_one, h]
  rfl
theorem item_lt {α : Type} {l : List α} {i : Nat} {x : α} (h : l[i]? = some x) : i < l.length := (List.getElem?_eq_some_iff.mp h).1
theorem small (n : Nat) (h : n ≤ 1000) : n < sizeLine := Nat.lt_of_le_of_lt h (by decide)
theorem getD_item {α : Type} {l : List α} {i : Nat} {x d : α} (h : l[i]? = some x) : l.getD i d = x := by rw [List.getD_eq_getElem?_getD, h]; rfl
/-! data: == of lists of ints, of pairs -/
theorem eqvAll_ints : ∀ xs ys : List Int, PyData.eqvAll (xs.map .int) (ys.map .int) = decide (xs = ys)
  | [], [] => by simp [PyData.eqvAll]
  | [], _ :: _ => by simp [PyData.eqvAll]
  | _ :: _, [] => by simp [PyData.eqvAll]
  | x :: xs, y :: ys => by
    simp only [List.map_cons, PyData.eqvAll, PyData.eqv, eqvAll_ints xs ys]
    by_cases h : x = y <;> by_cases k : xs = ys <;> simp [h, k]
theorem canLayAll_ints : ∀ xs : List Int, PyData.canLayAll0 (xs.map .int) = true
  | [] => rfl
  | x :: xs => by simp [PyData.canLayAll0, PyData.canLay0, canLayAll_ints xs]
theorem depthAll_ints : ∀ xs : List Int, PyData.depthAll (xs.map .int) = 0
  | [] => rfl
  | x :: xs => by simp [PyData.depthAll, PyData.depth, depthAll_ints xs]
theorem shaped_ints (xs : List Int) : SeqAt.shaped (.list (xs.map .int)) = true := by
  simp [SeqAt.shaped, PyData.canLay0, canLayAll_ints, PyData.depth, depthAll_ints]
theorem dpAll_ints {K : PySem.W.Frag} {H : Hp} : ∀ xs : List Int, DpAll K H (xs.map V.int) (xs.map .int)
  | [] => .nil
  | x :: xs => .cons (.int x) (dpAll_ints xs)
theorem dp_ints {K : PySem.W.Frag} {H : Hp} {a : Addr} {xs : List Int} (h : SqL K H a (xs.map V.int)) : Dp K H (.ref a) (.list (xs.map .int)) := .lst h (dpAll_ints xs)
theorem eqv_ints (xs ys : List Int) : PyData.eqv (.list (xs.map .int)) (.list (ys.map .int)) = decide (xs = ys) := by
  simp only [PyData.eqv]
  exact eqvAll_ints xs ys
/-- rows of ints -/
def rowD (xs : List Int) : PyData := .list (xs.map .int)
theorem rows_data : ∀ xss : List (List Int), PyData.canLayAll0 (xss.map rowD) = true ∧ PyData.depthAll (xss.map rowD) ≤ 1
  | [] => ⟨rfl, Nat.zero_le _⟩
  | xs :: xss => by
    obtain ⟨h1, h2⟩ := rows_data xss
    refine ⟨by simp [PyData.canLayAll0, PyData.canLay0, rowD, canLayAll_ints, h1], ?_⟩
    simp only [List.map_cons, PyData.depthAll, rowD, PyData.depth, depthAll_ints]
    omega
theorem rows_shaped (xss : List (List Int)) : SeqAt.shaped (.list (xss.map rowD)) = true := by
  obtain ⟨h1, h2⟩ := rows_data xss
  have e : PyData.depth (.list (xss.map rowD)) = PyData.depthAll (xss.map rowD) + 1 := by simp only [PyData.depth]
  unfold SeqAt.shaped
  rw [Bool.and_eq_true]
  exact ⟨by simp only [PyData.canLay0]; exact h1, decide_eq_true (by rw [e]; omega)⟩
theorem eqvAll_rows : ∀ xss yss : List (List Int), PyData.eqvAll (xss.map rowD) (yss.map rowD) = decide (xss = yss)
  | [], [] => by simp [PyData.eqvAll]
  | [], _ :: _ => by simp [PyData.eqvAll]
  | _ :: _, [] => by simp [PyData.eqvAll]
  | x :: xs, y :: ys => by
    have h := eqv_ints x y
    simp only [List.map_cons, PyData.eqvAll, rowD, eqvAll_rows xs ys, h]
    by_cases h : x = y <;> by_cases k : xs = ys <;> simp [h, k]
theorem eqv_rows (xss yss : List (List Int)) : PyData.eqv (.list (xss.map rowD)) (.list (yss.map rowD)) = decide (xss = yss) := by
  simp only [PyData.eqv]
  exact eqvAll_rows xss yss
theorem dp_two {K : PySem.W.Frag} {H : Hp} {a b c : Addr} {xs ys : List Int} (h : SqL K H a [V.ref b, V.ref c]) (hb : SqL K H b (xs.map V.int)) (hc : SqL K H c (ys.map V.int)) : Dp K H (.ref a) (.list ([xs, ys].map rowD)) :=
  .lst h (.cons (dp_ints hb) (.cons (dp_ints hc) .nil))
/-! xs[i] op= e, i not below 0 -/
def rGetL (K : PySem.W.Frag) : V → V → Hp → VK → Prop := fun x y H Q => ∃ (p : Addr) (xs : List V) (i : Int) (j : Nat) (v : V), x = .ref p ∧ y = .int i ∧ i = (j : Int) ∧ SqL K H p xs ∧ xs[j]? = some v ∧ Q v H
theorem pget_list {X : Cx} : PGet X (rGetL X.K) := by
  intro pins s σ H o i ov iv Q I ro ri h
  obtain ⟨p, xs, _, j, v, rfl, rfl, rfl, hS, hv, q⟩ := h
  cases ro
  obtain ⟨t, rfl⟩ := ri
  obtain ⟨its, r, pl, hz⟩ := I.list hS
  obtain ⟨u, hu, ru⟩ := r.get hv
  have hl : j < xs.length := (List.getElem?_eq_some_iff.mp hv).1
  have hn := line63
  exact PySem.wpAny_getItem_list pl.isList (by omega) (by omega) (by rw [Int.toNat_natCast]; simpa using hu) ⟨v, H, I, ru, q⟩
theorem rep_zero (n : Nat) : (List.replicate n [V.int 0]).flatten = (List.replicate n (0 : Int)).map V.int := by
  induction n with
  | zero => rfl
  | succ n ih => rw [List.replicate_succ, List.flatten_cons, ih, List.replicate_succ]; rfl
theorem pev_rep (n : Nat) (x : Zp) : pev (List.replicate n (0 : Int)) x = 0 := pev_zeros (fun w m => by rw [(List.mem_replicate.mp m).2]; exact z_zero) x
theorem ixN_nat {n j : Nat} (h : j < n) : ixN n (j : Int) = some j := by
  unfold ixN
  rw [if_pos (by omega), if_pos (by omega), Int.toNat_natCast]
/-- where things stand -/
structure Ad where
  f_normal : Addr
  d_normal : FuncData
  f_plus : Addr
  d_plus : FuncData
  f_times : Addr
  d_times : FuncData
  f_evaluate : Addr
  d_evaluate : FuncData
  f_law_pot : Addr
  d_law_pot : FuncData
  f_law_next : Addr
  d_law_next : FuncData
  f_law_word : Addr
  d_law_word : FuncData
  f_law_words : Addr
  d_law_words : FuncData
  f_law_is_int : Addr
  d_law_is_int : FuncData
  f_law_is_normal : Addr
  d_law_is_normal : FuncData
  f_law_polynomial : Addr
  d_law_polynomial : FuncData
  f_law_horner : Addr
  d_law_horner : FuncData
  f_law : Addr
  d_law : FuncData
/-- what the top has written -/
structure Txt (K : PySem.W.Frag) (mg : Str → Option Value) (a : Ad) : Prop where
  F_normal : Fun K "normal" "normal" s_normal a.f_normal a.d_normal
  g_normal : mg "normal" = some (.ref a.f_normal)
  d_normal : Binds K a.d_normal ["numbers"] []
  F_plus : Fun K "plus" "plus" s_plus a.f_plus a.d_plus
  g_plus : mg "plus" = some (.ref a.f_plus)
  d_plus : Binds K a.d_plus ["first", "second"] []
  F_times : Fun K "times" "times" s_times a.f_times a.d_times
  g_times : mg "times" = some (.ref a.f_times)
  d_times : Binds K a.d_times ["first", "second"] []
  F_evaluate : Fun K "evaluate" "evaluate" s_evaluate a.f_evaluate a.d_evaluate
  g_evaluate : mg "evaluate" = some (.ref a.f_evaluate)
  d_evaluate : Binds K a.d_evaluate ["polynomial", "x"] []
  F_law_pot : Fun K "_law_pot" "_law_pot" s_law_pot a.f_law_pot a.d_law_pot
  g_law_pot : mg "_law_pot" = some (.ref a.f_law_pot)
  d_law_pot : Binds K a.d_law_pot ["script"] []
  F_law_next : Fun K "_law_next" "_law_next" s_law_next a.f_law_next a.d_law_next
  g_law_next : mg "_law_next" = some (.ref a.f_law_next)
  d_law_next : Binds K a.d_law_next ["pot", "limit"] []
  F_law_word : Fun K "_law_word" "_law_word" s_law_word a.f_law_word a.d_law_word
  g_law_word : mg "_law_word" = some (.ref a.f_law_word)
  d_law_word : Binds K a.d_law_word ["pot"] []
  F_law_words : Fun K "_law_words" "_law_words" s_law_words a.f_law_words a.d_law_words
  g_law_words : mg "_law_words" = some (.ref a.f_law_words)
  d_law_words : Binds K a.d_law_words ["pot", "count"] []
  F_law_is_int : Fun K "_law_is_int" "_law_is_int" s_law_is_int a.f_law_is_int a.d_law_is_int
  g_law_is_int : mg "_law_is_int" = some (.ref a.f_law_is_int)
  d_law_is_int : Binds K a.d_law_is_int ["value"] []
  F_law_is_normal : Fun K "_law_is_normal" "_law_is_normal" s_law_is_normal a.f_law_is_normal a.d_law_is_normal
  g_law_is_normal : mg "_law_is_normal" = some (.ref a.f_law_is_normal)
  d_law_is_normal : Binds K a.d_law_is_normal ["value"] []
  F_law_polynomial : Fun K "_law_polynomial" "_law_polynomial" s_law_polynomial a.f_law_polynomial a.d_law_polynomial
  g_law_polynomial : mg "_law_polynomial" = some (.ref a.f_law_polynomial)
  d_law_polynomial : Binds K a.d_law_polynomial ["pot", "most"] []
  F_law_horner : Fun K "_law_horner" "_law_horner" s_law_horner a.f_law_horner a.d_law_horner
  g_law_horner : mg "_law_horner" = some (.ref a.f_law_horner)
  d_law_horner : Binds K a.d_law_horner ["numbers", "x"] []
  F_law : Fun K "law" "law" s_law a.f_law a.d_law
  g_law : mg "law" = some (.ref a.f_law)
  d_law : Binds K a.d_law ["script"] []
  g_PRIME : ∃ u, mg "PRIME" = some u ∧ RelV (.int 65521) u
  n_len : mg "len" = none
  n_max : mg "max" = none
  n_enumerate : mg "enumerate" = none
  n_reversed : mg "reversed" = none
  n_list : mg "list" = none
  n_int : mg "int" = none
  n_abs : mg "abs" = none
  n_range : mg "range" = none
  n_isinstance : mg "isinstance" = none
  n_bool : mg "bool" = none
/-! the promises -/
/-! the draws: a list of the script, a place in it, a rest, a seed -/
/-- at p stands a pot, its script's list at l -/
def Pot (H : Hp) (p l : Addr) : Prop := ∃ (ns : List Int) (i acc seed : Int), H p = some (.lst [.ref l, .int i, .int acc, .int seed]) ∧ H l = some (.lst (ns.map V.int)) ∧ 0 ≤ i ∧ 0 ≤ acc ∧ 0 ≤ seed ∧ seed < 2147483647
theorem Pot.ne {H : Hp} {p l : Addr} (h : Pot H p l) : l ≠ p := by
  obtain ⟨ns, i, acc, seed, h1, h2, _⟩ := h
  refine ne_of h2 h1 fun e => ?_
  have e1 := HO.lst.inj e
  cases ns with
  | nil => cases e1
  | cons a r => rw [List.map_cons] at e1; injection e1 with e2 _; cases e2
theorem Pot.same {H H' : Hp} {p l : Addr} (h : Pot H p l) (s : Same H H') : Pot H' p l := by
  obtain ⟨ns, i, acc, seed, h1, h2, h3⟩ := h
  exact ⟨ns, i, acc, seed, s _ _ h1, s _ _ h2, h3⟩
theorem Pot.only {H H' : Hp} {p l q : Addr} (h : Pot H p l) (s : Only q H H') (n1 : p ≠ q) (n2 : l ≠ q) : Pot H' p l := by
  obtain ⟨ns, i, acc, seed, h1, h2, h3⟩ := h
  exact ⟨ns, i, acc, seed, by rw [s _ n1]; exact h1, by rw [s _ n2]; exact h2, h3⟩
/-- a draw's answer below the limit -/
def sp_law_next (K : PySem.W.Frag) (a : Ad) : Sp := fun vs H Q _ => ∃ (p l : Addr) (m : Int), vs = [.ref p, .int m] ∧ Pot H p l ∧ 0 < m ∧ m < 1073741824 ∧
  ∀ (v : Int) (H' : Hp), 0 ≤ v → v < m → Pot H' p l → Only p H H' → Q (.int v) H'
theorem sp_law_next_len {K : PySem.W.Frag} {a : Ad} {vs : List V} {H : Hp} {Q : VK} {E : XK} (h : sp_law_next K a vs H Q E) : vs.length = 2 := by
  obtain ⟨p, l, m, rfl, _⟩ := h
  rfl
def sp_law_pot (K : PySem.W.Frag) (a : Ad) : Sp := fun vs H Q _ => ∃ (s : Addr) (ns : List Int), vs = [.ref s] ∧ SqL K H s (ns.map V.int) ∧ ns.length ≤ 1000 ∧
  ∀ (p l : Addr) (H' : Hp), H p = none → H l = none → Same H H' → Pot H' p l → Q (.ref p) H'
theorem sp_law_pot_len {K : PySem.W.Frag} {a : Ad} {vs : List V} {H : Hp} {Q : VK} {E : XK} (h : sp_law_pot K a vs H Q E) : vs.length = 1 := by
  obtain ⟨s, ns, rfl, _⟩ := h
  rfl
/-- the law itself: True at every script -/
def sp_law0 (K : PySem.W.Frag) : Sp := fun vs H Q _ => ∃ (s : Addr) (ns : List Int), vs = [.ref s] ∧ SqL K H s (ns.map V.int) ∧ ns.length ≤ 63 ∧ ∀ H', Q (.bl true) H'
def sp_law (K : PySem.W.Frag) (a : Ad) : Sp := sp_law0 K
theorem sp_law_len {K : PySem.W.Frag} {a : Ad} {vs : List V} {H : Hp} {Q : VK} {E : XK} (h : sp_law K a vs H Q E) : vs.length = 1 := by
  obtain ⟨s, ns, rfl, _⟩ := h
  rfl
theorem int_item {ns : List Int} {i : Nat} {y : V} (h : (ns.map V.int)[i]? = some y) : ∃ z, ns[i]? = some z ∧ y = V.int z := by
  rw [List.getElem?_map] at h
  cases e : ns[i]? with
  | none => rw [e] at h; cases h
  | some z => rw [e] at h; exact ⟨z, rfl, (Option.some.inj h).symm⟩
/-- the pot's own object is no list of refs alone, no tuple -/
theorem Pot.list {H : Hp} {p l : Addr} (h : Pot H p l) : ∃ i acc seed : Int, H p = some (.lst [.ref l, .int i, .int acc, .int seed]) := by
  obtain ⟨ns, i, acc, seed, h1, _⟩ := h
  exact ⟨i, acc, seed, h1⟩
theorem But.seq {K : PySem.W.Frag} {H H' : Hp} {p a : Addr} {xs : List V} (b : But p H H') (n : a ≠ p) (h : SqL K H a xs) : SqL K H' a xs := by
  rcases h with (h | ⟨o, h⟩) | h
  · exact .inl (.inl (b _ _ h n))
  · exact .inl (.inr ⟨o, b _ _ h n⟩)
  · exact .inr h
theorem But.tup {K : PySem.W.Frag} {H H' : Hp} {p l a : Addr} {xs : List V} (P : Pot H p l) (b : But p H H') (h : SqT K H a xs) : SqT K H' a xs := by
  obtain ⟨i, acc, seed, hp⟩ := P.list
  rcases h with (h | ⟨o, h⟩) | h
  · exact .inl (.inl (b _ _ h (ne_of h hp (by intro q; cases q))))
  · exact .inl (.inr ⟨o, b _ _ h (ne_of h hp (by intro q; cases q))⟩)
  · exact .inr h
theorem Pot.noList {H : Hp} {p l a : Addr} (P : Pot H p l) {xs : List V} (h : H a = some (.lst xs)) (hx : ∀ i acc seed : Int, xs ≠ [.ref l, .int i, .int acc, .int seed]) : a ≠ p := by
  obtain ⟨i, acc, seed, hp⟩ := P.list
  exact ne_of h hp fun q => hx i acc seed (HO.lst.inj q)
theorem Pot.off {H : Hp} {p l q : Addr} (P : Pot H p l) (h : H q = none) : p ≠ q ∧ l ≠ q := by
  obtain ⟨_, _, _, _, g1, g2, _⟩ := P
  exact ⟨ne_of_none g1 h, ne_of_none g2 h⟩
theorem Pot.new {H : Hp} {p l q : Addr} {o : HO} (P : Pot H p l) (h : H q = none) : Pot (upd H q o) p l := P.same (Same.new h)
/-- an int is an int -/
def sp_law_is_int (K : PySem.W.Frag) (a : Ad) : Sp := fun vs H Q _ => ∃ x : Int, vs = [.int x] ∧ Q (.bl true) H
theorem sp_law_is_int_len {K : PySem.W.Frag} {a : Ad} {vs : List V} {H : Hp} {Q : VK} {E : XK} (h : sp_law_is_int K a vs H Q E) : vs.length = 1 := by
  obtain ⟨x, rfl, _⟩ := h
  rfl
/-! words drawn, a polynomial's value -/
def sp_law_word (K : PySem.W.Frag) (a : Ad) : Sp := fun vs H Q _ => ∃ (p l : Addr), vs = [.ref p] ∧ Pot H p l ∧ ∀ (v : Int) (H' : Hp), Wd v → Pot H' p l → Only p H H' → Q (.int v) H'
theorem sp_law_word_len {K : PySem.W.Frag} {a : Ad} {vs : List V} {H : Hp} {Q : VK} {E : XK} (h : sp_law_word K a vs H Q E) : vs.length = 1 := by
  obtain ⟨p, l, rfl, _⟩ := h
  rfl
def sp_law_words (K : PySem.W.Frag) (a : Ad) : Sp := fun vs H Q _ => ∃ (p l : Addr) (n : Int), vs = [.ref p, .int n] ∧ Pot H p l ∧ 0 ≤ n ∧ n ≤ 500 ∧
  ∀ (D : Addr) (ws : List Int) (H' : Hp), ws.length = n.toNat → (∀ w ∈ ws, Wd w) → H D = none → H' D = some (.lst (ws.map V.int)) → But p H H' → Pot H' p l → Q (.ref D) H'
theorem sp_law_words_len {K : PySem.W.Frag} {a : Ad} {vs : List V} {H : Hp} {Q : VK} {E : XK} (h : sp_law_words K a vs H Q E) : vs.length = 2 := by
  obtain ⟨p, l, n, rfl, _⟩ := h
  rfl
def sp_law_horner (K : PySem.W.Frag) (a : Ad) : Sp := fun vs H Q _ => ∃ (d : Addr) (ns : List Int) (x : Int), vs = [.ref d, .int x] ∧ SqL K H d (ns.map V.int) ∧ ns.length ≤ 500 ∧ Q (.int (horn ns x)) H
theorem sp_law_horner_len {K : PySem.W.Frag} {a : Ad} {vs : List V} {H : Hp} {Q : VK} {E : XK} (h : sp_law_horner K a vs H Q E) : vs.length = 2 := by
  obtain ⟨d, ns, x, rfl, _⟩ := h
  rfl
def sp_normal (K : PySem.W.Frag) (a : Ad) : Sp := fun vs H Q _ => ∃ (d : Addr) (ns : List Int), vs = [.ref d] ∧ SqL K H d (ns.map V.int) ∧ ns.length ≤ 500 ∧
  ∀ (D : Addr) (r : List Int) (H' : Hp), Same H H' → H D = none → H' D = some (.lst (r.map V.int)) → Norm r → (∀ x, pev r x = pev ns x) → (∀ k : Nat, (∀ (j : Nat) (c : Int), k ≤ j → ns[j]? = some c → z c = 0) → r.length ≤ k) → Q (.ref D) H'
theorem sp_normal_len {K : PySem.W.Frag} {a : Ad} {vs : List V} {H : Hp} {Q : VK} {E : XK} (h : sp_normal K a vs H Q E) : vs.length = 1 := by
  obtain ⟨d, ns, rfl, _⟩ := h
  rfl
def sp_plus (K : PySem.W.Frag) (a : Ad) : Sp := fun vs H Q _ => ∃ (d e : Addr) (f g : List Int), vs = [.ref d, .ref e] ∧ SqL K H d (f.map V.int) ∧ SqL K H e (g.map V.int) ∧ f.length ≤ 200 ∧ g.length ≤ 200 ∧
  ∀ (D : Addr) (r : List Int) (H' : Hp), Same H H' → H D = none → H' D = some (.lst (r.map V.int)) → Norm r → (∀ x, pev r x = pev f x + pev g x) → r.length ≤ max f.length g.length → Q (.ref D) H'
theorem sp_plus_len {K : PySem.W.Frag} {a : Ad} {vs : List V} {H : Hp} {Q : VK} {E : XK} (h : sp_plus K a vs H Q E) : vs.length = 2 := by
  obtain ⟨d, e, f, g, rfl, _⟩ := h
  rfl
def sp_times (K : PySem.W.Frag) (a : Ad) : Sp := fun vs H Q _ => ∃ (d e : Addr) (f g : List Int), vs = [.ref d, .ref e] ∧ SqL K H d (f.map V.int) ∧ SqL K H e (g.map V.int) ∧ f.length ≤ 200 ∧ g.length ≤ 200 ∧ (∀ w ∈ f, Wd w) ∧
  ∀ (D : Addr) (r : List Int) (H' : Hp), Same H H' → H D = none → H' D = some (.lst (r.map V.int)) → Norm r → (∀ x, pev r x = pev f x * pev g x) → r.length ≤ f.length + g.length → Q (.ref D) H'
theorem sp_times_len {K : PySem.W.Frag} {a : Ad} {vs : List V} {H : Hp} {Q : VK} {E : XK} (h : sp_times K a vs H Q E) : vs.length = 2 := by
  obtain ⟨d, e, f, g, rfl, _⟩ := h
  rfl
def sp_evaluate (K : PySem.W.Frag) (a : Ad) : Sp := fun vs H Q _ => ∃ (d : Addr) (ns : List Int) (x : Int), vs = [.ref d, .int x] ∧ SqL K H d (ns.map V.int) ∧ ns.length ≤ 500 ∧ Q (.int (horn ns x)) H
theorem sp_evaluate_len {K : PySem.W.Frag} {a : Ad} {vs : List V} {H : Hp} {Q : VK} {E : XK} (h : sp_evaluate K a vs H Q E) : vs.length = 2 := by
  obtain ⟨d, ns, x, rfl, _⟩ := h
  rfl
def sp_law_is_normal (K : PySem.W.Frag) (a : Ad) : Sp := fun vs H Q _ => ∃ (d : Addr) (r : List Int), vs = [.ref d] ∧ H d = some (.lst (r.map V.int)) ∧ Norm r ∧ Q (.bl true) H
theorem sp_law_is_normal_len {K : PySem.W.Frag} {a : Ad} {vs : List V} {H : Hp} {Q : VK} {E : XK} (h : sp_law_is_normal K a vs H Q E) : vs.length = 1 := by
  obtain ⟨d, r, rfl, _⟩ := h
  rfl
def sp_law_polynomial (K : PySem.W.Frag) (a : Ad) : Sp := fun vs H Q _ => ∃ (p l : Addr) (m : Int), vs = [.ref p, .int m] ∧ Pot H p l ∧ 0 ≤ m ∧ m ≤ 100 ∧
  ∀ (D : Addr) (r : List Int) (H' : Hp), Norm r → (r.length : Int) ≤ m → H D = none → H' D = some (.lst (r.map V.int)) → But p H H' → Pot H' p l → Q (.ref D) H'
theorem sp_law_polynomial_len {K : PySem.W.Frag} {a : Ad} {vs : List V} {H : Hp} {Q : VK} {E : XK} (h : sp_law_polynomial K a vs H Q E) : vs.length = 2 := by
  obtain ⟨p, l, m, rfl, _⟩ := h
  rfl
section
variable {P : Program} {w : World} {K : PySem.W.Frag} {mg : Str → Option Value} {base : Heap} {a : Ad}
theorem sc_normal : FnScope ["numbers", "many", "number"] ["numbers"] (defScope s_normal) := ⟨rfl, rfl, rfl, by decide +kernel, rfl, by decide +kernel, by decide +kernel⟩
theorem ok_normal (T : Txt K mg a) : FnOk P w K mg base CX0 1 a.f_normal a.d_normal ["numbers"] (sp_normal K a) := by
  refine T.F_normal.ok sc_normal (fun vs H Q E h => ?len) (fun cdv A outer s H vs Q E hr h => ?body)
  case len =>
    exact sp_normal_len h
  case body =>
    obtain ⟨d, ns, rfl, hS, hl, k⟩ := h
    refine ⟨_, (pss_cons (ps_set (i := 1) sc_normal.nd rfl (Or.inl rfl) (pe_callB call_len_seq (by rfl) T.n_len PySem.boot_len (pa_cons (pv 0) pa_nil)))
      (Evl.pss_cut (ps_while PassesOwn.never (PW.pt (pw_and (pt_cmpR op_gt (pv 1) pe_int (nomark _)) (pw_and1 (pt_cmpR op_eq (pe_op op_mod (pe_ix ix_list (pv 0) (pe_op op_sub (pv 1) pe_int) (fun _ _ => rfl)) (pe_const T.g_PRIME)) pe_int (nomark _)))))
      (pss_one (ps_aug (i := 1) sc_normal.nd rfl (Or.inl rfl) pe_int ip_sub)))
      (pss_one (ps_ret (pe_lc (own := [("number", 2)]) (g := (gName 2)) (by rfl) sc_normal.nd (pi_list (pe_slice sl_list (pv 0) po_none (po_some (pv 1)))) (blkOk_by (own := [("number", 2)]) (N := ["numbers", "many", "number"]) (sc := defScope s_normal) (by decide +kernel))
      (fun _ _ _ _ _ => (pg_name (i := 2) sc_normal.nd rfl (Or.inl rfl))) (fun _ _ _ _ _ => pts_nil) (fun _ _ _ _ _ => (pe_op op_mod (pv 2) (pe_const T.g_PRIME)))))))), ?_⟩
    refine ⟨_, rfl, d, _, rfl, .inl hS, ?_⟩
    rw [List.length_map]
    refine ⟨fun σ H' => ∃ m : Nat, σ = [some (.ref d), some (.int (m : Int)), none] ∧ H' = H ∧ m ≤ ns.length ∧ (∀ (j : Nat) (c : Int), m ≤ j → ns[j]? = some c → z c = 0) ∧ (m = 0 ∨ 0 < m ∧ z (ns.getD (m - 1) 0) ≠ 0), ?_, ?_⟩
    · refine ⟨fun n σ H' => ∃ m : Nat, σ = [some (.ref d), some (.int (m : Int)), none] ∧ H' = H ∧ n = m ∧ m ≤ ns.length ∧ ∀ (j : Nat) (c : Int), m ≤ j → ns[j]? = some c → z c = 0,
        ⟨_, _, rfl, rfl, rfl, Nat.le_refl _, fun j c h1 h2 => absurd (item_lt h2) (by omega)⟩, ?_⟩
      rintro n σ H' ⟨m, rfl, rfl, rfl, h1, h2⟩
      refine ⟨_, rfl, _, _, rfl, rfl, _, rfl, ?_⟩
      refine ite2 (fun e => ?_) (fun e => iteF ⟨n, rfl, rfl, h1, h2, .inl ?_⟩)
      · have n0 : (0 : Int) < (n : Int) := of_decide_eq_true e
        have hc : ns[n - 1]? = some ns[n - 1] := List.getElem?_eq_getElem (by omega)
        refine ⟨_, rfl, _, rfl, _, _, rfl, rfl, d, _, _, _, rfl, rfl, hS, at_of (j := n - 1) (by omega) (by rw [List.getElem?_map, hc]; rfl), _, _, rfl, rfl, (by show (0 : Int) < 65521; decide), rfl, _, rfl, ?_⟩
        refine ite2 (fun e2 => ?_) (fun e2 => ?_)
        · have z0 : z ns[n - 1] = 0 := (z_z _).mpr (V.int.inj (of_decide_eq_true e2))
          refine ⟨fun σ' H'' => ∃ m', m' < n ∧ _, fun _ _ q => q, ?_⟩
          refine ⟨_, rfl, _, _, rfl, rfl, ?_⟩
          refine ⟨n - 1, by omega, n - 1, ?_, rfl, rfl, by omega, fun j c h3 h4 => ?_⟩
          · show [some (V.ref d), some (V.int ((n : Int) - 1)), none] = _
            rw [show (n : Int) - 1 = ((n - 1 : Nat) : Int) by omega]
          · by_cases q : j = n - 1
            · subst q
              rw [hc] at h4
              rw [← Option.some.inj h4]
              exact z0
            · exact h2 j c (by omega) h4
        · refine ⟨n, rfl, rfl, h1, h2, .inr ⟨by omega, fun q => e2 (decide_eq_true (congrArg V.int ?_))⟩⟩
          have g : ns.getD (n - 1) 0 = ns[n - 1] := getD_item hc
          rw [g] at q
          exact (z_z _).mp q
      · have : ¬ (0 : Int) < (n : Int) := fun q => e (decide_eq_true q)
        omega
    · rintro σ H' ⟨m, rfl, rfl, h1, h2, h3⟩
      refine ⟨_, rfl, _, rfl, _, rfl, d, _, rfl, hS, fun q nq => ?_⟩
      rw [cut_take]
      have sq := Same.new (o := .lst ((ns.map V.int).take m)) nq
      have hq : SqL K (upd H' q (.lst ((ns.map V.int).take m))) q ((ns.take m).map V.int) := by
        rw [List.map_take]
        exact SqL.of upd_same
      refine ⟨q, rfl, ⟨_, hq⟩, fun D new => lc_list (K := K) (a := q) (xs := (ns.take m).map V.int) (fun i H2 => Same (upd H' q (.lst ((ns.map V.int).take m))) H2 ∧ H2 D = some (.lst (((ns.take i).map (· % 65521)).map V.int))) ⟨Same.new new, upd_same⟩ (fun i H2 _ p => p.1.seq hq) ?_ ?_⟩
      · rintro i y H2 hi ⟨s2, d2⟩
        obtain ⟨c, hc, rfl⟩ := int_item hi
        have hc' : ns[i]? = some c := by
          rw [List.getElem?_take] at hc
          split at hc
          · exact hc
          · cases hc
        refine ⟨rfl, _, rfl, _, _, rfl, rfl, (by show (0 : Int) < 65521; decide), _, d2, small _ (by simp; omega), fun b o e => ?_, ?_⟩
        · rw [upd_ne (ne_of_none e new)]
          exact s2 b o e
        · rw [upd_same, take_snoc hc', List.map_append, List.map_append]
          rfl
      · rintro H2 ⟨s2, d2⟩
        rw [List.length_map, List.length_take, Nat.min_eq_left h1] at d2
        have e0 : ns = ns.take m ++ ns.drop m := (List.take_append_drop m ns).symm
        refine k D ((ns.take m).map (· % 65521)) H2 (sq.trans s2) (sq.free new) d2 ⟨fun w hw => ?_, ?_⟩ (fun x => ?_) (fun j hj => ?_)
        · obtain ⟨c, _, rfl⟩ := List.mem_map.mp hw
          exact ⟨Int.emod_nonneg _ (by decide), Int.emod_lt_of_pos _ (by decide)⟩
        · rcases h3 with h3 | ⟨m0, h3⟩
          · subst h3
            exact .inl rfl
          · refine .inr fun q => h3 ?_
            have hc : ns[m - 1]? = some ns[m - 1] := List.getElem?_eq_getElem (by omega)
            rw [List.length_map, List.length_take, Nat.min_eq_left h1] at q
            have g : ((ns.take m).map (· % 65521)).getD (m - 1) 0 = ns[m - 1] % 65521 := getD_item (by rw [List.getElem?_map, List.getElem?_take, if_pos (by omega), hc]; rfl)
            rw [g] at q
            rw [getD_item hc]
            exact (z_z _).mpr q
        · rw [pev_mod]
          have := pev_append (ns.take m) (ns.drop m) x
          rw [← e0, pev_zeros (a := ns.drop m) (fun w hw => ?_)] at this
          · grind
          · obtain ⟨j, hj⟩ := List.mem_iff_getElem?.mp hw
            rw [List.getElem?_drop] at hj
            exact h2 _ _ (by omega) hj
        · rw [List.length_map, List.length_take, Nat.min_eq_left h1]
          rcases h3 with h3 | ⟨m0, h3⟩
          · omega
          · refine Classical.byContradiction fun q => ?_
            have hc : ns[m - 1]? = some ns[m - 1] := List.getElem?_eq_getElem (by omega)
            refine h3 ?_
            rw [getD_item hc]
            exact hj (m - 1) _ (by omega) hc
theorem sc_plus : FnScope ["first", "second", "sums", "polynomial", "power", "word"] ["first", "second"] (defScope s_plus) := ⟨rfl, rfl, rfl, by decide +kernel, rfl, by decide +kernel, by decide +kernel⟩
theorem ok_plus (T : Txt K mg a) : FnOk P w K mg base CX0 2 a.f_plus a.d_plus ["first", "second"] (sp_plus K a) := by
  refine T.F_plus.ok sc_plus (fun vs H Q E h => ?len) (fun cdv A outer s H vs Q E hr h => ?body)
  case len =>
    exact sp_plus_len h
  case body =>
    obtain ⟨d, e, f, g, rfl, hF, hG, lf, lg, k⟩ := h
    refine ⟨_, (pss_cons (ps_set (i := 2) sc_plus.nd rfl (Or.inl rfl) (pe_op op_rep (pe_lst (pa_cons pe_int pa_nil)) (pe_callB (call_max2 rfl) (by rfl) T.n_max (by decide +kernel) (pa_cons (pe_callB call_len_seq (by rfl) T.n_len PySem.boot_len (pa_cons (pv 0) pa_nil)) (pa_cons (pe_callB call_len_seq (by rfl) T.n_len PySem.boot_len (pa_cons (pv 1) pa_nil)) pa_nil)))))
      (pss_cons (ps_for PassesOwn.never rfl (pi_tup (pe_tup (pa_cons (pv 0) (pa_cons (pv 1) pa_nil)))) (pg_name (i := 3) sc_plus.nd rfl (Or.inl rfl))
      (pss_one (ps_for PassesOwn.never rfl (pi_enum (by rfl) T.n_enumerate (pa_cons (pv 3) pa_nil)) (pg_tup rfl (pgs_cons (pg_name (i := 4) sc_plus.nd rfl (Or.inl rfl)) (pgs_cons (pg_name (i := 5) sc_plus.nd rfl (Or.inl rfl)) pgs_nil)))
      (pss_one (ps_augS (pv 2) (pv 4) pget_list (pv 5) ip_add set_list)))))
      (pss_one (ps_ret (pe_call (ok_normal T) (hr.mono (by decide)) rfl T.g_normal T.F_normal.kp T.d_normal .nil pass0 (pa_cons (pv 2) pa_nil)))))), ?_⟩
    refine ⟨(by show 1 ≤ sizeLine; decide), fun q nq => ?_⟩
    have sq := Same.new (o := .lst [V.int 0]) nq
    refine ⟨_, rfl, d, _, rfl, .inl (sq.seq hF), _, rfl, e, _, rfl, .inl (sq.seq hG), _, _, rfl, ?_⟩
    rw [List.length_map, List.length_map]
    obtain ⟨n, hn, hn1, hn2, hn3⟩ : ∃ n : Nat, (if (g.length : Int) > (f.length : Int) then (g.length : Int) else (f.length : Int)) = (n : Int) ∧ f.length ≤ n ∧ g.length ≤ n ∧ n = max f.length g.length := by
      refine ⟨max f.length g.length, ?_, Nat.le_max_left _ _, Nat.le_max_right _ _, rfl⟩
      split <;> omega
    rw [hn]
    refine ⟨q, _, _, rfl, rfl, upd_same, by omega, by omega, ?_, fun D nD => ?_⟩
    · rw [Int.toNat_natCast]
      exact Nat.le_of_lt (small _ (by simp; omega))
    rw [Int.toNat_natCast, rep_zero]
    have sD := sq.trans (Same.new (o := .lst ((List.replicate n (0 : Int)).map V.int)) nD)
    refine ⟨_, rfl, _, rfl, (by show 2 ≤ sizeLine; decide), fun t ht => ?_⟩
    have st := sD.trans (Same.new (o := .tup [V.ref d, V.ref e]) ht)
    have ntD : D ≠ t := fun q => by subst q; rw [upd_same] at ht; cases ht
    have nD0 := sq.free nD
    refine ⟨t, rfl, ⟨_, SqT.of upd_same⟩, for_tup (K := K) (a := t) (xs := [V.ref d, V.ref e]) (fun i σ H' => ∃ (v3 v4 v5 : Option V) (acc : List Int), σ = [some (.ref d), some (.ref e), some (.ref D), v3, v4, v5] ∧ Same H H' ∧ H' t = some (.tup [V.ref d, V.ref e]) ∧ H' D = some (.lst (acc.map V.int)) ∧ acc.length = n ∧
        ∀ x, pev acc x = (if 0 < i then pev f x else 0) + (if 1 < i then pev g x else 0))
      ⟨none, none, none, _, rfl, st, upd_same, Eq.trans (upd_ne ntD) upd_same, by simp, fun x => by rw [pev_rep]; simp; grind⟩ (fun i σ H' _ ⟨_, _, _, _, _, _, h, _⟩ => SqT.of h) ?_ ?_⟩
    · rintro i y σ H' hi ⟨v3, v4, v5, acc, rfl, s', t', D', la, hp⟩
      obtain ⟨b, hb, u, rfl, hu, lu, hx⟩ : ∃ (b : Addr) (hb : b = b) (u : List Int), y = .ref b ∧ SqL K H b (u.map V.int) ∧ u.length ≤ n ∧ ∀ x, (if 0 < i + 1 then pev f x else 0) + (if 1 < i + 1 then pev g x else 0) = ((if 0 < i then pev f x else 0) + (if 1 < i then pev g x else 0)) + pev u x := by
        match i, hi with
        | 0, hi =>
          cases hi
          exact ⟨d, rfl, f, rfl, hF, hn1, fun x => by simp; grind⟩
        | 1, hi =>
          cases hi
          exact ⟨e, rfl, g, rfl, hG, hn2, fun x => by simp; grind⟩
      refine ⟨_, rfl, b, _, rfl, s'.seq hu, for_it walk_enum (fun j σ H2 => ∃ (v4 v5 : Option V) (ac : List Int), σ = [some (.ref d), some (.ref e), some (.ref D), some (.ref b), v4, v5] ∧ Same H H2 ∧ H2 t = some (.tup [V.ref d, V.ref e]) ∧ H2 D = some (.lst (ac.map V.int)) ∧ ac.length = n ∧ ∀ x, pev ac x = pev acc x + pev (u.take j) x)
        ⟨v4, v5, acc, rfl, s', t', D', la, fun x => by show _ = _ + (0 : Zp); grind⟩ (fun j σ H2 _ ⟨_, _, _, _, s2, _⟩ => s2.seq hu) ?_ ?_⟩
      · rintro j y σ H2 H3 hj ⟨v4, v5, ac, rfl, s2, t2, D2, la2, hp2⟩ ⟨T, p, q, rfl, nT, rfl, hp', hq'⟩
        cases hp'
        obtain ⟨c, hc, rfl⟩ := int_item hq'
        have s3 := Same.new (o := .tup [V.int (j : Nat), V.int c]) nT
        have lj : j < ac.length := by have := item_lt hc; omega
        have hac : ac[j]? = some ac[j] := List.getElem?_eq_getElem lj
        have D3 := s3 _ _ D2
        refine ⟨T, _, rfl, SqT.of upd_same, rfl, _, _, rfl, _, _, rfl, rfl, ?_⟩
        refine ⟨_, rfl, _, rfl, D, _, _, j, _, rfl, rfl, rfl, SqL.of D3, by rw [List.getElem?_map, hac]; rfl, _, rfl, _, _, rfl, rfl, D, _, _, j, rfl, rfl, D3, ?_, ?_⟩
        · exact ixN_nat (by rw [List.length_map]; exact lj)
        · refine ⟨_, _, ac.set j (ac[j] + c), rfl, ?_, ?_, ?_, by rw [List.length_set]; exact la2, fun x => ?_⟩
          · intro b' o' e'
            rw [upd_ne (ne_of_none e' nD0)]
            exact s3 _ _ (s2 _ _ e')
          · rw [upd_ne ntD.symm]
            exact s3 _ _ t2
          · rw [upd_same, List.map_set]
          · rw [pev_set x hac, hp2 x, take_snoc hc, pev_snoc, List.length_take, Nat.min_eq_left (by have := item_lt hc; omega), z_add]
            grind
      · rintro σ H2 ⟨v4, v5, ac, rfl, s2, t2, D2, la2, hp2⟩
        rw [List.length_map, List.take_length] at hp2
        exact ⟨_, _, _, ac, rfl, s2, t2, D2, la2, fun x => by rw [hp2 x, hp x, hx x]⟩
    · rintro σ H' ⟨v3, v4, v5, acc, rfl, s', t', D', la, hp⟩
      refine ⟨_, rfl, D, acc, rfl, SqL.of D', by omega, fun D2 r H2 s2 n2 h2 hr hv hk => ?_⟩
      refine k D2 r H2 (s'.trans s2) (s'.free n2) h2 hr (fun x => ?_) ?_
      · rw [hv x, hp x]
        show (if 0 < 2 then pev f x else 0) + (if 1 < 2 then pev g x else 0) = _
        rw [if_pos (by decide), if_pos (by decide)]
      · have := hk acc.length fun j c h1 h2 => absurd (item_lt h2) (by omega)
        omega
theorem sc_times : FnScope ["first", "second", "sums", "low", "word", "high", "factor"] ["first", "second"] (defScope s_times) := ⟨rfl, rfl, rfl, by decide +kernel, rfl, by decide +kernel, by decide +kernel⟩
theorem ok_times (T : Txt K mg a) : FnOk P w K mg base CX0 2 a.f_times a.d_times ["first", "second"] (sp_times K a) := by
  refine T.F_times.ok sc_times (fun vs H Q E h => ?len) (fun cdv A outer s H vs Q E hr h => ?body)
  case len =>
    exact sp_times_len h
  case body =>
    obtain ⟨d, e, f, g, rfl, hF, hG, lf, lg, wf, k⟩ := h
    refine ⟨_, (pss_cons (ps_set (i := 2) sc_times.nd rfl (Or.inl rfl) (pe_op op_rep (pe_lst (pa_cons pe_int pa_nil)) (pe_op op_add (pe_callB call_len_seq (by rfl) T.n_len PySem.boot_len (pa_cons (pv 0) pa_nil)) (pe_callB call_len_seq (by rfl) T.n_len PySem.boot_len (pa_cons (pv 1) pa_nil)))))
      (pss_cons (ps_for PassesOwn.never rfl (pi_enum (by rfl) T.n_enumerate (pa_cons (pv 0) pa_nil)) (pg_tup rfl (pgs_cons (pg_name (i := 3) sc_times.nd rfl (Or.inl rfl)) (pgs_cons (pg_name (i := 4) sc_times.nd rfl (Or.inl rfl)) pgs_nil)))
      (pss_one (ps_for PassesOwn.never rfl (pi_enum (by rfl) T.n_enumerate (pa_cons (pv 1) pa_nil)) (pg_tup rfl (pgs_cons (pg_name (i := 5) sc_times.nd rfl (Or.inl rfl)) (pgs_cons (pg_name (i := 6) sc_times.nd rfl (Or.inl rfl)) pgs_nil)))
      (pss_one (ps_augS (pv 2) (pe_op op_add (pv 3) (pv 5)) pget_list (pe_op op_mul (pv 4) (pv 6)) ip_add set_list)))))
      (pss_one (ps_ret (pe_call (ok_normal T) (hr.mono (by decide)) rfl T.g_normal T.F_normal.kp T.d_normal .nil pass0 (pa_cons (pv 2) pa_nil)))))), ?_⟩
    refine ⟨(by show 1 ≤ sizeLine; decide), fun q nq => ?_⟩
    have sq := Same.new (o := .lst [V.int 0]) nq
    refine ⟨_, rfl, d, _, rfl, .inl (sq.seq hF), _, rfl, e, _, rfl, .inl (sq.seq hG), _, _, rfl, rfl, ?_⟩
    rw [List.length_map, List.length_map]
    refine ⟨q, ((f.length + g.length : Nat) : Int), _, rfl, congrArg V.int (by omega), upd_same, by omega, by omega, ?_, fun D nD => ?_⟩
    · rw [Int.toNat_natCast]
      exact Nat.le_of_lt (small _ (by simp; omega))
    rw [Int.toNat_natCast, rep_zero]
    have sD := sq.trans (Same.new (o := .lst ((List.replicate (f.length + g.length) (0 : Int)).map V.int)) nD)
    have nD0 := sq.free nD
    refine ⟨_, rfl, d, _, rfl, sD.seq hF, for_it walk_enum (fun i σ H' => ∃ (v3 v4 v5 v6 : Option V) (acc : List Int), σ = [some (.ref d), some (.ref e), some (.ref D), v3, v4, v5, v6] ∧ Same H H' ∧ H' D = some (.lst (acc.map V.int)) ∧ acc.length = f.length + g.length ∧
        ∀ x, pev acc x = pev (f.take i) x * pev g x)
      ⟨none, none, none, none, _, rfl, sD, upd_same, by simp, fun x => by rw [pev_rep]; show (0 : Zp) = 0 * _; grind⟩ (fun i σ H' _ ⟨_, _, _, _, _, _, s, _⟩ => s.seq hF) ?_ ?_⟩
    · rintro i y σ H1 H2 hi ⟨v3, v4, v5, v6, acc, rfl, s1, D1, la, hp⟩ ⟨T, u, v, rfl, nT, rfl, hu, hv⟩
      cases hu
      obtain ⟨c, hc, rfl⟩ := int_item hv
      have s2 := s1.trans (Same.new (o := .tup [V.int (i : Nat), V.int c]) nT)
      have D2 := Same.new (o := .tup [V.int (i : Nat), V.int c]) nT _ _ D1
      have wc := wf c (List.mem_of_getElem? hc)
      have li := item_lt hc
      refine ⟨T, _, rfl, SqT.of upd_same, rfl, _, _, rfl, _, _, rfl, rfl, ?_⟩
      refine ⟨_, rfl, e, _, rfl, s2.seq hG, for_it walk_enum (fun j σ H' => ∃ (v5 v6 : Option V) (ac : List Int), σ = [some (.ref d), some (.ref e), some (.ref D), some (.int (i : Nat)), some (.int c), v5, v6] ∧ Same H H' ∧ H' D = some (.lst (ac.map V.int)) ∧ ac.length = f.length + g.length ∧
          ∀ x, pev ac x = pev acc x + pw x i * z c * pev (g.take j) x)
        ⟨v5, v6, acc, rfl, s2, D2, la, fun x => by show _ = _ + _ * (0 : Zp); grind⟩ (fun j σ H' _ ⟨_, _, _, _, s, _⟩ => s.seq hG) ?_ ?_⟩
      · rintro j y σ H3 H4 hj ⟨v5, v6, ac, rfl, s3, D3, la3, hp3⟩ ⟨T2, p, r, rfl, nT2, rfl, hp', hq'⟩
        cases hp'
        obtain ⟨b, hb, rfl⟩ := int_item hq'
        have s4 := Same.new (o := .tup [V.int (j : Nat), V.int b]) nT2
        have D4 := s4 _ _ D3
        have lj := item_lt hb
        have lt : i + j < ac.length := by omega
        have hac : ac[i + j]? = some ac[i + j] := List.getElem?_eq_getElem lt
        refine ⟨T2, _, rfl, SqT.of upd_same, rfl, _, _, rfl, _, _, rfl, rfl, ?_⟩
        refine ⟨_, rfl, _, rfl, _, rfl, _, _, rfl, rfl, D, _, _, i + j, _, rfl, rfl, by omega, SqL.of D4, by rw [List.getElem?_map, hac]; rfl, _, rfl, _, rfl, _, _, rfl, rfl, .inl ⟨by have := wc.1; omega, by have := wc.2; omega⟩, _, _, rfl, rfl, D, _, _, i + j, rfl, rfl, D4, ?_, ?_⟩
        · rw [show ((i : Nat) : Int) + ((j : Nat) : Int) = ((i + j : Nat) : Int) by omega]
          exact ixN_nat (by rw [List.length_map]; exact lt)
        · refine ⟨_, _, ac.set (i + j) (ac[i + j] + c * b), rfl, ?_, ?_, by rw [List.length_set]; exact la3, fun x => ?_⟩
          · intro b' o' e'
            rw [upd_ne (ne_of_none e' nD0)]
            exact s4 _ _ (s3 _ _ e')
          · rw [upd_same, List.map_set]
          · rw [pev_set x hac, hp3 x, take_snoc hb, pev_snoc, List.length_take, Nat.min_eq_left (by omega), z_add, z_mul, pw_add]
            grind
      · rintro σ H3 ⟨v5, v6, ac, rfl, s3, D3, la3, hp3⟩
        rw [List.length_map, List.take_length] at hp3
        refine ⟨_, _, _, _, ac, rfl, s3, D3, la3, fun x => ?_⟩
        rw [hp3 x, hp x, take_snoc hc, pev_snoc, List.length_take, Nat.min_eq_left (by omega)]
        grind
    · rintro σ H' ⟨v3, v4, v5, v6, acc, rfl, s', D', la, hp⟩
      rw [List.length_map, List.take_length] at hp
      refine ⟨_, rfl, D, acc, rfl, SqL.of D', by omega, fun D2 r H2 s2 n2 h2 hr hv hk => ?_⟩
      refine k D2 r H2 (s'.trans s2) (s'.free n2) h2 hr (fun x => by rw [hv x, hp x]) ?_
      have := hk acc.length fun j c h1 h2 => absurd (item_lt h2) (by omega)
      omega
theorem sc_evaluate : FnScope ["polynomial", "x", "value", "word"] ["polynomial", "x"] (defScope s_evaluate) := ⟨rfl, rfl, rfl, by decide +kernel, rfl, by decide +kernel, by decide +kernel⟩
theorem ok_evaluate (T : Txt K mg a) : FnOk P w K mg base CX0 1 a.f_evaluate a.d_evaluate ["polynomial", "x"] (sp_evaluate K a) := by
  refine T.F_evaluate.ok sc_evaluate (fun vs H Q E h => ?len) (fun cdv A outer s H vs Q E hr h => ?body)
  case len =>
    exact sp_evaluate_len h
  case body =>
    obtain ⟨d, ns, x, rfl, hN, hl, k⟩ := h
    refine ⟨_, (pss_cons (ps_set (i := 2) sc_evaluate.nd rfl (Or.inl rfl) pe_int)
      (pss_cons (ps_for PassesOwn.never rfl (pi_reversed (by rfl) T.n_reversed (pa_cons (pv 0) pa_nil)) (pg_name (i := 3) sc_evaluate.nd rfl (Or.inl rfl))
      (pss_one (ps_set (i := 2) sc_evaluate.nd rfl (Or.inl rfl) (pe_op op_mod (pe_op op_add (pe_op op_mul (pv 2) (pv 1)) (pv 3)) (pe_const T.g_PRIME)))))
      (pss_one (ps_ret (pv 2))))), ?_⟩
    refine ⟨_, rfl, d, _, rfl, hN, for_it walk_rev (fun i σ H' => ∃ v : Option V, σ = [some (.ref d), some (.int x), some (.int (horn (ns.drop (ns.length - i)) x)), v] ∧ H' = H)
      ⟨none, by rw [Nat.sub_zero, List.drop_length]; rfl, rfl⟩ (fun i σ H' _ ⟨_, _, e⟩ => by rw [e]; exact hN) ?_ ?_⟩
    · rintro i y σ H1 H2 hi ⟨v, rfl, rfl⟩ ⟨rfl, hy⟩
      rw [List.length_map] at hy hi
      obtain ⟨c, hc, rfl⟩ := int_item hy
      have w := horn_word (ns.drop (ns.length - i)) x
      refine ⟨_, rfl, _, rfl, _, _, rfl, rfl, .inl ⟨by omega, by omega⟩, _, rfl, _, _, rfl, rfl, _, _, rfl, rfl, (by show (0 : Int) < 65521; decide), ?_⟩
      refine ⟨some (.int c), ?_, rfl⟩
      have e := horn_drop (x := x) hc
      rw [show ns.length - 1 - i + 1 = ns.length - i by omega] at e
      rw [show ns.length - (i + 1) = ns.length - 1 - i by omega, e]
      rfl
    · rintro σ H' ⟨v, rfl, rfl⟩
      rw [List.length_map, Nat.sub_self, List.drop_zero]
      exact ⟨_, rfl, k⟩
theorem sc_law_pot : FnScope ["script", "seed", "cell"] ["script"] (defScope s_law_pot) := ⟨rfl, rfl, rfl, by decide +kernel, rfl, by decide +kernel, by decide +kernel⟩
theorem ok_law_pot (T : Txt K mg a) : FnOk P w K mg base CX0 1 a.f_law_pot a.d_law_pot ["script"] (sp_law_pot K a) := by
  refine T.F_law_pot.ok sc_law_pot (fun vs H Q E h => ?len) (fun cdv A outer s H vs Q E hr h => ?body)
  case len =>
    exact sp_law_pot_len h
  case body =>
    obtain ⟨s, ns, rfl, hS, hlen, k⟩ := h
    refine ⟨_, (pss_cons (ps_set (i := 1) sc_law_pot.nd rfl (Or.inl rfl) pe_int)
      (pss_cons (ps_for PassesOwn.never rfl (pi_list (pv 0)) (pg_name (i := 2) sc_law_pot.nd rfl (Or.inl rfl))
      (pss_one (ps_set (i := 1) sc_law_pot.nd rfl (Or.inl rfl) (pe_op op_mod (pe_callTy call_int1 (by rfl) T.n_int (by decide +kernel) (pa_cons (pe_op op_add (pe_op op_mul (pv 1) pe_int) (pv 2)) pa_nil)) pe_int))))
      (pss_one (ps_ret (pe_lst (pa_cons (pe_callTy call_list_of (by rfl) T.n_list (by decide +kernel) (pa_cons (pv 0) pa_nil)) (pa_cons pe_int (pa_cons pe_int (pa_cons (pv 1) pa_nil))))))))), ?_⟩
    refine ⟨_, rfl, s, rfl, ⟨_, hS⟩, for_list (K := K) (a := s) (xs := ns.map V.int) (fun i σ H' => ∃ (z : Int) (v : Option V), σ = [some (.ref s), some (.int z), v] ∧ 0 ≤ z ∧ z < 2147483647 ∧ H' = H)
      ⟨1, none, rfl, by decide, by decide, rfl⟩ (fun i σ H' _ ⟨_, _, _, _, _, e⟩ => by rw [e]; exact hS) ?_ ?_⟩
    · rintro i y σ H' hi ⟨z, v, rfl, z0, z1, rfl⟩
      obtain ⟨c, hc, rfl⟩ := int_item hi
      refine ⟨_, rfl, _, _, rfl, rfl, .inl ⟨by omega, by omega⟩, _, rfl, _, _, rfl, rfl, .inl ⟨_, rfl, _, _, rfl, rfl, (by show (0 : Int) < 2147483647; decide), ?_⟩⟩
      exact ⟨_, _, rfl, Int.emod_nonneg _ (by decide), Int.emod_lt_of_pos _ (by decide), rfl⟩
    · rintro σ H' ⟨z, v, rfl, z0, z1, rfl⟩
      refine ⟨_, rfl, s, _, rfl, .inl hS, fun l hl => ?_⟩
      refine ⟨_, rfl, (by show 4 ≤ sizeLine; decide), fun p hp => ?_⟩
      have npl : l ≠ p := fun e => by subst e; rw [upd_same] at hp; cases hp
      have hp0 : H' p = none := by rw [upd_ne npl.symm] at hp; exact hp
      refine k p l _ hp0 hl (fun b o e => ?_) ⟨ns, 0, 0, z, upd_same, by rw [upd_ne npl, upd_same], by decide, by decide, z0, z1⟩
      rw [upd_ne (ne_of_none e hp0), upd_ne (ne_of_none e hl)]
      exact e
theorem sc_law_next : FnScope ["pot", "limit", "cell", "found", "mixed"] ["pot", "limit"] (defScope s_law_next) := ⟨rfl, rfl, rfl, by decide +kernel, rfl, by decide +kernel, by decide +kernel⟩
theorem ok_law_next (T : Txt K mg a) : FnOk P w K mg base CX0 1 a.f_law_next a.d_law_next ["pot", "limit"] (sp_law_next K a) := by
  refine T.F_law_next.ok sc_law_next (fun vs H Q E h => ?len) (fun cdv A outer s H vs Q E hr h => ?body)
  case len =>
    exact sp_law_next_len h
  case body =>
    obtain ⟨p, l, m, rfl, hP, m0, m1, k⟩ := h
    obtain ⟨ns, i, acc, seed, h1, h2, i0, acc0, s0, s1⟩ := id hP
    have nlp := hP.ne
    have mod0 : ∀ x : Int, 0 ≤ x % m := fun x => Int.emod_nonneg _ (by omega)
    have mod1 : ∀ x : Int, x % m < m := fun x => Int.emod_lt_of_pos _ m0
    refine ⟨_, (Evl.pss_cut (ps_if (PW.pt (pw_and (pt_cmpR op_eq (pe_ix ix_list (pv 0) pe_int (fun _ _ => rfl)) pe_int (nomark _)) (pw_and1 (pt_cmpR op_lt (pe_ix ix_list (pv 0) pe_int (fun _ _ => rfl)) (pe_callB call_len_seq (by rfl) T.n_len PySem.boot_len (pa_cons (pe_ix ix_list (pv 0) pe_int (fun _ _ => rfl)) pa_nil)) (nomark _)))))
      (pss_cons (ps_set (i := 2) sc_law_next.nd rfl (Or.inl rfl) (pe_callB call_abs (by rfl) T.n_abs (by decide +kernel) (pa_cons (pe_callTy call_int1 (by rfl) T.n_int (by decide +kernel) (pa_cons (pe_ix ix_list (pe_ix ix_list (pv 0) pe_int (fun _ _ => rfl)) (pe_ix ix_list (pv 0) pe_int (fun _ _ => rfl)) (fun _ _ => rfl)) pa_nil)) pa_nil)))
      (pss_cons (ps_asg (pe_op op_add (pe_ix ix_list (pv 0) pe_int (fun _ _ => rfl)) pe_int) (pg_sub (pv 0) pe_int set_list))
      (pss_cons (ps_if (pt_cmpR op_lt (pv 2) (pe_op op_pow pe_int pe_int) (nomark _))
      (pss_one (ps_ret (pe_op op_mod (pe_callTy call_int1 (by rfl) T.n_int (by decide +kernel) (pa_cons (pv 2) pa_nil)) (pv 1))))
      pss_nil)
      (pss_one (ps_asg (pv 2) (pg_sub (pv 0) pe_int set_list))))))
      pss_nil)
      (pss_cons (ps_if (pt_cmpR op_gt (pe_ix ix_list (pv 0) pe_int (fun _ _ => rfl)) pe_int (nomark _))
      (pss_cons (ps_set (i := 3) sc_law_next.nd rfl (Or.inl rfl) (pe_op op_mod (pe_callTy call_int1 (by rfl) T.n_int (by decide +kernel) (pa_cons (pe_ix ix_list (pv 0) pe_int (fun _ _ => rfl)) pa_nil)) (pv 1)))
      (pss_cons (ps_asg (pe_op op_fdiv (pe_ix ix_list (pv 0) pe_int (fun _ _ => rfl)) (pv 1)) (pg_sub (pv 0) pe_int set_list))
      (pss_one (ps_ret (pv 3)))))
      pss_nil)
      (pss_cons (ps_asg (pe_op op_mod (pe_callTy call_int1 (by rfl) T.n_int (by decide +kernel) (pa_cons (pe_op op_add (pe_op op_mul (pe_ix ix_list (pv 0) pe_int (fun _ _ => rfl)) pe_int) pe_int) pa_nil)) pe_int) (pg_sub (pv 0) pe_int set_list))
      (pss_cons (ps_set (i := 4) sc_law_next.nd rfl (Or.inl rfl) (pe_op op_mod (pe_callTy call_int1 (by rfl) T.n_int (by decide +kernel) (pa_cons (pe_op op_add (pe_op op_mul (pe_ix ix_list (pv 0) pe_int (fun _ _ => rfl)) pe_int) (pe_op op_fdiv (pe_ix ix_list (pv 0) pe_int (fun _ _ => rfl)) pe_int)) pa_nil)) pe_int))
      (pss_one (ps_ret (pe_op op_mod (pe_callTy call_int1 (by rfl) T.n_int (by decide +kernel) (pa_cons (pv 4) pa_nil)) (pv 1)))))))), ?_⟩
    refine ⟨fun σ H' => ∃ (u : Option V) (i' acc' : Int), σ = [some (.ref p), some (.int m), u, none, none] ∧ H' p = some (.lst [.ref l, .int i', .int acc', .int seed]) ∧ 0 ≤ i' ∧ 0 ≤ acc' ∧ Only p H H', ?_, ?_⟩
    · -- if pot[2] == 0 and pot[1] < len(pot[0])
      refine ⟨_, rfl, p, _, _, _, rfl, rfl, SqL.of h1, at_of (j := 2) rfl rfl, rfl, _, rfl, ?_⟩
      refine ite2 (fun e2 => ?_) (fun e2 => iteF ⟨none, i, acc, rfl, h1, i0, acc0, Only.refl⟩)
      refine ⟨_, rfl, p, _, _, _, rfl, rfl, SqL.of h1, at_of (j := 1) rfl rfl, _, rfl, p, _, _, _, rfl, rfl, SqL.of h1, at_of (j := 0) rfl rfl, l, _, rfl, .inl (SqL.of h2), _, _, rfl, rfl, _, rfl, ?_⟩
      refine ite2 (fun e3 => ?_) (fun e3 => ⟨none, i, acc, rfl, h1, i0, acc0, Only.refl⟩)
      have i1 : i < (ns.length : Int) := by
        have := of_decide_eq_true e3
        rw [List.length_map] at this
        exact this
      obtain ⟨j, rfl⟩ : ∃ j : Nat, i = (j : Int) := ⟨i.toNat, by omega⟩
      have hj : j < ns.length := by omega
      have hit : (ns.map V.int)[j]? = some (V.int ns[j]) := by rw [List.getElem?_map, List.getElem?_eq_getElem hj]; rfl
      -- cell = abs(int(pot[0][pot[1]])); pot[1] = pot[1] + 1
      refine ⟨_, rfl, p, _, _, _, rfl, rfl, SqL.of h1, at_of (j := 0) rfl rfl, _, rfl, p, _, _, _, rfl, rfl, SqL.of h1, at_of (j := 1) rfl rfl, l, _, _, _, rfl, rfl, SqL.of h2, at_of (j := j) rfl hit, .inl ⟨_, rfl, _, rfl, ?_⟩⟩
      have abs0 : 0 ≤ (if ns[j] < 0 then -ns[j] else ns[j]) := by split <;> omega
      generalize (if ns[j] < 0 then -ns[j] else ns[j]) = c at abs0 ⊢
      refine ⟨_, rfl, p, _, _, _, rfl, rfl, SqL.of h1, at_of (j := 1) rfl rfl, _, _, rfl, rfl, _, rfl, p, _, _, 1, rfl, rfl, h1, rfl, ?_⟩
      have g1 : upd H p (.lst (List.set [V.ref l, V.int (j : Int), V.int acc, V.int seed] 1 (V.int ((j : Int) + 1)))) p = some (.lst [.ref l, .int ((j : Int) + 1), .int acc, .int seed]) := upd_same
      -- if cell < 10 ** 18: return int(cell) % limit
      refine ⟨_, rfl, _, _, rfl, rfl, ⟨by decide, by decide, by decide⟩, _, _, rfl, rfl, _, rfl, ?_⟩
      refine ite2 (fun e4 => ?_) (fun e4 => ?_)
      · refine ⟨_, rfl, .inl ⟨_, rfl, _, rfl, _, _, rfl, rfl, m0, ?_⟩⟩
        exact k _ _ (mod0 _) (mod1 _) ⟨ns, _, _, _, g1, by rw [upd_ne nlp]; exact h2, by omega, acc0, s0, s1⟩ Only.upd
      · -- pot[2] = cell
        refine ⟨_, rfl, _, rfl, p, _, _, 2, rfl, rfl, g1, rfl, ?_⟩
        exact ⟨_, (j : Int) + 1, c, rfl, upd_same, by omega, abs0, Only.upd.trans Only.upd⟩
    · rintro σ H' ⟨u, i', acc', rfl, g1, i0', acc0', oH⟩
      have g2 : H' l = some (.lst (ns.map V.int)) := by rw [oH _ nlp]; exact h2
      -- if pot[2] > 0
      refine ⟨_, rfl, p, _, _, _, rfl, rfl, SqL.of g1, at_of (j := 2) rfl rfl, _, _, rfl, rfl, _, rfl, ?_⟩
      refine ite2 (fun e2 => ?_) (fun e2 => ?_)
      · refine ⟨_, rfl, p, _, _, _, rfl, rfl, SqL.of g1, at_of (j := 2) rfl rfl, .inl ⟨_, rfl, _, rfl, _, _, rfl, rfl, m0, ?_⟩⟩
        refine ⟨_, rfl, p, _, _, _, rfl, rfl, SqL.of g1, at_of (j := 2) rfl rfl, _, rfl, _, _, rfl, rfl, ⟨m0, m1⟩, _, rfl, p, _, _, 2, rfl, rfl, g1, rfl, ?_⟩
        refine ⟨_, rfl, ?_⟩
        exact k _ _ (mod0 _) (mod1 _) ⟨ns, i', acc' / m, seed, upd_same, by rw [upd_ne nlp]; exact g2, i0', Int.ediv_nonneg acc0' (by omega), s0, s1⟩ (oH.trans Only.upd)
      · -- pot[3] = int(pot[3] * 48271 + 12345) % 2147483647
        refine ⟨_, rfl, p, _, _, _, rfl, rfl, SqL.of g1, at_of (j := 3) rfl rfl, _, _, rfl, rfl, .inl ⟨by omega, by omega⟩, _, _, rfl, rfl, .inl ⟨_, rfl, _, _, rfl, rfl, (by show (0 : Int) < 2147483647; decide), ?_⟩⟩
        have t0 := Int.emod_nonneg (seed * 48271 + 12345) (show (2147483647 : Int) ≠ 0 by decide)
        have t1 := Int.emod_lt_of_pos (seed * 48271 + 12345) (show (0 : Int) < 2147483647 by decide)
        refine ⟨_, rfl, p, _, _, 3, rfl, rfl, g1, rfl, ?_⟩
        have g3 : upd H' p (.lst (List.set [V.ref l, V.int i', V.int acc', V.int seed] 3 (V.int ((seed * 48271 + 12345) % 2147483647)))) p = some (.lst [.ref l, .int i', .int acc', .int ((seed * 48271 + 12345) % 2147483647)]) := upd_same
        refine ⟨_, rfl, p, _, _, _, rfl, rfl, SqL.of g3, at_of (j := 3) rfl rfl, _, _, rfl, rfl, .inl ⟨by omega, by omega⟩, _, rfl, p, _, _, _, rfl, rfl, SqL.of g3, at_of (j := 3) rfl rfl, _, _, rfl, rfl, ⟨by decide, by decide⟩, _, _, rfl, rfl, .inl ⟨_, rfl, _, _, rfl, rfl, (by show (0 : Int) < 2147483629; decide), ?_⟩⟩
        refine ⟨_, rfl, .inl ⟨_, rfl, _, rfl, _, _, rfl, rfl, m0, ?_⟩⟩
        exact k _ _ (mod0 _) (mod1 _) ⟨ns, _, _, _, g3, by rw [upd_ne nlp]; exact g2, i0', acc0', t0, t1⟩ (oH.trans Only.upd)
theorem sc_law_word : FnScope ["pot", "kind"] ["pot"] (defScope s_law_word) := ⟨rfl, rfl, rfl, by decide +kernel, rfl, by decide +kernel, by decide +kernel⟩
theorem ok_law_word (T : Txt K mg a) : FnOk P w K mg base CX0 2 a.f_law_word a.d_law_word ["pot"] (sp_law_word K a) := by
  refine T.F_law_word.ok sc_law_word (fun vs H Q E h => ?len) (fun cdv A outer s H vs Q E hr h => ?body)
  case len =>
    exact sp_law_word_len h
  case body =>
    obtain ⟨p, l, rfl, hP, k⟩ := h
    refine ⟨_, (pss_cons (ps_set (i := 1) sc_law_word.nd rfl (Or.inl rfl) (pe_call (ok_law_next T) (hr.mono (by decide)) rfl T.g_law_next T.F_law_next.kp T.d_law_next .nil pass0 (pa_cons (pv 0) (pa_cons pe_int pa_nil))))
      (pss_cons (ps_if (pt_cmpR op_eq (pv 1) pe_int (nomark _))
      (pss_one (ps_ret pe_int))
      pss_nil)
      (pss_cons (ps_if (pt_cmpR op_eq (pv 1) pe_int (nomark _))
      (pss_one (ps_ret (pe_op op_sub pe_int (pe_call (ok_law_next T) (hr.mono (by decide)) rfl T.g_law_next T.F_law_next.kp T.d_law_next .nil pass0 (pa_cons (pv 0) (pa_cons pe_int pa_nil))))))
      pss_nil)
      (pss_cons (ps_if (pt_cmpR op_lt (pv 1) pe_int (nomark _))
      (pss_one (ps_ret (pe_call (ok_law_next T) (hr.mono (by decide)) rfl T.g_law_next T.F_law_next.kp T.d_law_next .nil pass0 (pa_cons (pv 0) (pa_cons pe_int pa_nil)))))
      pss_nil)
      (pss_one (ps_ret (pe_call (ok_law_next T) (hr.mono (by decide)) rfl T.g_law_next T.F_law_next.kp T.d_law_next .nil pass0 (pa_cons (pv 0) (pa_cons pe_int pa_nil))))))))), ?_⟩
    refine ⟨_, rfl, p, l, 8, rfl, hP, by decide, by decide, fun c H1 c0 c1 P1 o1 => ?_⟩
    refine ⟨_, rfl, rfl, _, rfl, ?_⟩
    refine ite2 (fun _ => k _ _ ⟨by decide, by decide⟩ P1 o1) (fun _ => ?_)
    refine ⟨_, rfl, rfl, _, rfl, ?_⟩
    refine ite2 (fun _ => ?_) (fun _ => ?_)
    · exact ⟨_, rfl, p, l, 3, rfl, P1, by decide, by decide, fun v H2 v0 v1 P2 o2 => ⟨_, _, rfl, rfl, k _ _ ⟨by omega, by omega⟩ P2 (o1.trans o2)⟩⟩
    · refine ⟨_, rfl, _, _, rfl, rfl, _, rfl, ?_⟩
      refine ite2 (fun _ => ?_) (fun _ => ?_)
      · exact ⟨_, rfl, p, l, 9, rfl, P1, by decide, by decide, fun v H2 v0 v1 P2 o2 => k _ _ ⟨by omega, by omega⟩ P2 (o1.trans o2)⟩
      · exact ⟨_, rfl, p, l, 65521, rfl, P1, by decide, by decide, fun v H2 v0 v1 P2 o2 => k _ _ ⟨by omega, by omega⟩ P2 (o1.trans o2)⟩
theorem sc_law_words : FnScope ["pot", "count", "k"] ["pot", "count"] (defScope s_law_words) := ⟨rfl, rfl, rfl, by decide +kernel, rfl, by decide +kernel, by decide +kernel⟩
theorem ok_law_words (T : Txt K mg a) : FnOk P w K mg base CX0 3 a.f_law_words a.d_law_words ["pot", "count"] (sp_law_words K a) := by
  refine T.F_law_words.ok sc_law_words (fun vs H Q E h => ?len) (fun cdv A outer s H vs Q E hr h => ?body)
  case len =>
    exact sp_law_words_len h
  case body =>
    obtain ⟨p, l, n, rfl, hP, n0, n5, k⟩ := h
    refine ⟨_, (pss_one (ps_ret (pe_lc (own := [("k", 2)]) (g := (gName 2)) (by rfl) sc_law_words.nd (pi_range1 (by rfl) T.n_range (pa_cons (pv 1) pa_nil)) (blkOk_by (own := [("k", 2)]) (N := ["pot", "count", "k"]) (sc := defScope s_law_words) (by decide +kernel))
      (fun _ _ _ _ _ => (pg_name (i := 2) sc_law_words.nd rfl (Or.inl rfl))) (fun _ _ _ _ _ => pts_nil) (fun _ _ _ _ _ => (pe_call (ok_law_word T) (hr.mono (by decide)) rfl T.g_law_word T.F_law_word.kp T.d_law_word .nil pass0 (pa_cons (pv 0) pa_nil)))))), ?_⟩
    refine ⟨_, rfl, n, rfl, by omega, by omega, fun D new => lc_it walk_range (fun i H' => ∃ ws : List Int, But p H H' ∧ Pot H' p l ∧ H' D = some (.lst (ws.map V.int)) ∧ ws.length = i ∧ ∀ w ∈ ws, Wd w)
      ⟨[], (Same.new new).but, hP.new new, upd_same, rfl, fun _ m => nomatch m⟩ (fun _ _ _ _ => True.intro) ?_ ?_⟩
    · rintro i y H1 H2 hi ⟨ws, b1, P1, d1, hl, hw⟩ ⟨rfl, rfl⟩
      have off := hP.off new
      refine ⟨rfl, _, rfl, p, l, rfl, P1, fun v H3 wv P3 o3 => ?_⟩
      refine ⟨_, by rw [o3 _ off.1.symm]; exact d1, small _ (by simp; omega), ws ++ [v], ?_, P3.only Only.upd off.1 off.2, ?_, by simp [hl], ?_⟩
      · intro b o e nb
        rw [upd_ne (ne_of_none e new), o3 _ nb]
        exact b1 b o e nb
      · rw [upd_same, List.map_append]
        rfl
      · intro w m
        rcases List.mem_append.mp m with m | m
        · exact hw w m
        · have : w = v := by simpa using m
          rw [this]
          exact wv
    · rintro H' ⟨ws, b1, P1, d1, hl, hw⟩
      exact k D ws H' hl hw new d1 b1 P1
theorem sc_law_is_int : FnScope ["value"] ["value"] (defScope s_law_is_int) := ⟨rfl, rfl, rfl, by decide +kernel, rfl, by decide +kernel, by decide +kernel⟩
theorem ok_law_is_int (T : Txt K mg a) : FnOk P w K mg base CX0 1 a.f_law_is_int a.d_law_is_int ["value"] (sp_law_is_int K a) := by
  refine T.F_law_is_int.ok sc_law_is_int (fun vs H Q E h => ?len) (fun cdv A outer s H vs Q E hr h => ?body)
  case len =>
    exact sp_law_is_int_len h
  case body =>
    obtain ⟨x, rfl, k⟩ := h
    refine ⟨_, (pss_one (ps_ret (pe_and (pe_callB call_isi (by rfl) T.n_isinstance (by decide +kernel) (pa_cons (pv 0) (pa_cons (pe_bltn (v := .ty "int") (by rfl) T.n_int (by decide +kernel) rfl) pa_nil))) (pe_one (pe_not (pe_callB call_isi (by rfl) T.n_isinstance (by decide +kernel) (pa_cons (pv 0) (pa_cons (pe_bltn (v := .ty "bool") (by rfl) T.n_bool (by decide +kernel) rfl) pa_nil)))))))), ?_⟩
    refine ⟨_, rfl, _, _, _, _, true, rfl, .ty "int", .base (.int x), kit_ty (by decide +kernel), _, rfl, ?_⟩
    refine iteT ?_
    exact ⟨_, rfl, _, _, _, _, false, rfl, .ty "bool", .base (.int x), kit_ty (by decide +kernel), _, rfl, k⟩
theorem sc_law_is_normal : FnScope ["value", "word"] ["value"] (defScope s_law_is_normal) := ⟨rfl, rfl, rfl, by decide +kernel, rfl, by decide +kernel, by decide +kernel⟩
theorem ok_law_is_normal (T : Txt K mg a) : FnOk P w K mg base CX0 1 a.f_law_is_normal a.d_law_is_normal ["value"] (sp_law_is_normal K a) := by
  refine T.F_law_is_normal.ok sc_law_is_normal (fun vs H Q E h => ?len) (fun cdv A outer s H vs Q E hr h => ?body)
  case len =>
    exact sp_law_is_normal_len h
  case body =>
    obtain ⟨d, r, rfl, hD, hR, k⟩ := h
    refine ⟨_, (pss_cons (ps_if (pt_not (pt_val (pe_callB call_isi (by rfl) T.n_isinstance (by decide +kernel) (pa_cons (pv 0) (pa_cons (pe_bltn (v := .ty "list") (by rfl) T.n_list (by decide +kernel) rfl) pa_nil)))))
      (pss_one (ps_ret pe_bl))
      pss_nil)
      (pss_cons (ps_for PassesOwn.never rfl (pi_list (pv 0)) (pg_name (i := 1) sc_law_is_normal.nd rfl (Or.inl rfl))
      (pss_one (ps_if (PW.pt (pw_or (pt_not (pt_val (pe_callB call_isi (by rfl) T.n_isinstance (by decide +kernel) (pa_cons (pv 1) (pa_cons (pe_bltn (v := .ty "int") (by rfl) T.n_int (by decide +kernel) rfl) pa_nil))))) (pw_or (pt_val (pe_callB call_isi (by rfl) T.n_isinstance (by decide +kernel) (pa_cons (pv 1) (pa_cons (pe_bltn (v := .ty "bool") (by rfl) T.n_bool (by decide +kernel) rfl) pa_nil)))) (pw_or (pt_cmpR op_lt (pv 1) pe_int (nomark _)) (pw_or1 (pt_cmpR op_gt (pv 1) pe_int (nomark _)))))))
      (pss_one (ps_ret pe_bl))
      pss_nil)))
      (pss_one (ps_ret (pe_or (pe_cmpR op_eq (pe_callB call_len_seq (by rfl) T.n_len PySem.boot_len (pa_cons (pv 0) pa_nil)) pe_int (nomark _)) (pe_one (pe_cmpR op_ne (pe_ix ix_list (pv 0) (pe_op op_sub (pe_callB call_len_seq (by rfl) T.n_len PySem.boot_len (pa_cons (pv 0) pa_nil)) pe_int) (fun _ _ => rfl)) pe_int (nomark _)))))))), ?_⟩
    refine ⟨_, rfl, _, _, _, _, true, rfl, .ty "list", .base (.lst hD), kit_ty (by decide +kernel), true, rfl, iteF ?_⟩
    refine ⟨_, rfl, d, rfl, ⟨_, SqL.of hD⟩, for_list (K := K) (a := d) (xs := r.map V.int) (fun i σ H' => ∃ v : Option V, σ = [some (.ref d), v] ∧ H' = H) ⟨none, rfl, rfl⟩ (fun i σ H' _ ⟨_, _, e⟩ => by rw [e]; exact SqL.of hD) ?_ ?_⟩
    · rintro i y σ H' hi ⟨v, rfl, rfl⟩
      obtain ⟨c, hc, rfl⟩ := int_item hi
      obtain ⟨w0, w1⟩ := hR.1 c (List.mem_of_getElem? hc)
      refine ⟨_, rfl, _, _, _, _, true, rfl, .ty "int", .base (.int c), kit_ty (by decide +kernel), true, rfl, iteF ?_⟩
      refine ⟨_, rfl, _, _, _, _, false, rfl, .ty "bool", .base (.int c), kit_ty (by decide +kernel), false, rfl, iteF ?_⟩
      refine ⟨_, rfl, _, _, rfl, rfl, _, rfl, ite2 (fun q => absurd (of_decide_eq_true q) (by omega)) (fun _ => ?_)⟩
      exact ⟨_, rfl, _, _, rfl, rfl, _, rfl, ite2 (fun q => absurd (of_decide_eq_true q) (by omega)) (fun _ => ⟨_, rfl, rfl⟩)⟩
    · rintro σ H' ⟨v, rfl, rfl⟩
      refine ⟨_, rfl, d, _, rfl, .inl (SqL.of hD), rfl, _, rfl, ite2 (fun _ => k) (fun q => ?_)⟩
      have ne : r ≠ [] := fun e => q (by subst e; rfl)
      have lp := List.length_pos_iff.mpr ne
      have hc : r[r.length - 1]? = some r[r.length - 1] := List.getElem?_eq_getElem (by omega)
      have nz := hR.2.resolve_left ne
      rw [getD_item hc] at nz
      refine ⟨_, rfl, _, rfl, d, _, rfl, .inl (SqL.of hD), _, _, rfl, rfl, d, _, _, _, rfl, rfl, SqL.of hD, at_of (j := r.length - 1) (by rw [List.length_map]; omega) (by rw [List.getElem?_map, hc]; rfl), rfl, ?_⟩
      show Q (V.bl (!decide (V.int r[r.length - 1] = V.int 0))) H'
      rw [decide_eq_false (fun e => nz (V.int.inj e))]
      exact k
theorem sc_law_polynomial : FnScope ["pot", "most", "numbers"] ["pot", "most"] (defScope s_law_polynomial) := ⟨rfl, rfl, rfl, by decide +kernel, rfl, by decide +kernel, by decide +kernel⟩
theorem ok_law_polynomial (T : Txt K mg a) : FnOk P w K mg base CX0 4 a.f_law_polynomial a.d_law_polynomial ["pot", "most"] (sp_law_polynomial K a) := by
  refine T.F_law_polynomial.ok sc_law_polynomial (fun vs H Q E h => ?len) (fun cdv A outer s H vs Q E hr h => ?body)
  case len =>
    exact sp_law_polynomial_len h
  case body =>
    obtain ⟨p, l, m, rfl, hP, m0, m1, k⟩ := h
    refine ⟨_, (pss_cons (ps_set (i := 2) sc_law_polynomial.nd rfl (Or.inl rfl) (pe_call (ok_law_words T) (hr.mono (by decide)) rfl T.g_law_words T.F_law_words.kp T.d_law_words .nil pass0 (pa_cons (pv 0) (pa_cons (pe_call (ok_law_next T) (hr.mono (by decide)) rfl T.g_law_next T.F_law_next.kp T.d_law_next .nil pass0 (pa_cons (pv 0) (pa_cons (pe_op op_add (pv 1) pe_int) pa_nil))) pa_nil))))
      (Evl.pss_cut (ps_while PassesOwn.never (PW.pt (pw_and (pt_cmpR op_gt (pe_callB call_len_seq (by rfl) T.n_len PySem.boot_len (pa_cons (pv 2) pa_nil)) pe_int (nomark _)) (pw_and1 (pt_cmpR op_eq (pe_ix ix_list (pv 2) (pe_op op_sub (pe_callB call_len_seq (by rfl) T.n_len PySem.boot_len (pa_cons (pv 2) pa_nil)) pe_int) (fun _ _ => rfl)) pe_int (nomark _)))))
      (pss_one (ps_expr (pe_bm0 PySem.F.plainAttrs_list PySem.F.slot_list_pop PySem.F.type_list_pop mt_pop (pv 2)))))
      (pss_one (ps_ret (pv 2))))), ?_⟩
    refine ⟨_, rfl, _, rfl, _, rfl, _, _, rfl, rfl, p, l, m + 1, rfl, hP, by omega, by omega, fun v H1 v0 v1 P1 o1 => ?_⟩
    refine ⟨p, l, v, rfl, P1, v0, by omega, fun D ws H2 hl hw nD d2 b2 P2 => ?_⟩
    have off := P1.off nD
    have nD0 : H D = none := by rw [← o1 D off.1.symm]; exact nD
    refine ⟨fun σ H' => ∃ r : List Int, σ = [some (.ref p), some (.int m), some (.ref D)] ∧ Norm r ∧ (r.length : Int) ≤ m ∧ H' D = some (.lst (r.map V.int)) ∧ But p H H' ∧ Pot H' p l, ?_, ?_⟩
    · refine ⟨fun n σ H' => ∃ r : List Int, σ = [some (.ref p), some (.int m), some (.ref D)] ∧ n = r.length ∧ (∀ w ∈ r, Wd w) ∧ (r.length : Int) ≤ m ∧ H' D = some (.lst (r.map V.int)) ∧ But p H H' ∧ Pot H' p l,
        ⟨_, ws, rfl, rfl, hw, by omega, d2, o1.but.trans b2, P2⟩, ?_⟩
      rintro n σ H' ⟨r, rfl, rfl, hr, lr, d', b', P'⟩
      refine ⟨_, rfl, D, _, rfl, .inl (SqL.of d'), _, _, rfl, rfl, _, rfl, ?_⟩
      rw [List.length_map]
      refine ite2 (fun q => ?_) (fun q => iteF ⟨r, rfl, ⟨hr, .inl ?_⟩, lr, d', b', P'⟩)
      · have lp : (0 : Int) < (r.length : Int) := of_decide_eq_true q
        have hc : r[r.length - 1]? = some r[r.length - 1] := List.getElem?_eq_getElem (by omega)
        refine ⟨_, rfl, _, rfl, D, _, rfl, .inl (SqL.of d'), _, _, rfl, rfl, D, _, _, _, rfl, rfl, SqL.of d', at_of (j := r.length - 1) (by rw [List.length_map]; omega) (by rw [List.getElem?_map, hc]; rfl), rfl, _, rfl, ?_⟩
        refine ite2 (fun e => ?_) (fun e => ?_)
        · refine ⟨fun σ' H'' => ∃ m', m' < r.length ∧ _, fun _ _ q => q, ?_⟩
          refine ⟨_, rfl, .inl ⟨rfl, _, SqL.of d'⟩, D, _, _, rfl, rfl, d', by rw [List.length_map, List.getElem?_map, hc]; rfl, ?_⟩
          refine ⟨r.length - 1, by omega, r.dropLast, rfl, by rw [List.length_dropLast], fun w hw => hr w ((List.dropLast_sublist r).subset hw), by rw [List.length_dropLast]; omega, by rw [upd_same, List.map_dropLast], fun b o e' nb => ?_, P'.only Only.upd off.1 off.2⟩
          rw [upd_ne (ne_of_none e' nD0)]
          exact b' b o e' nb
        · refine ⟨r, rfl, ⟨hr, .inr ?_⟩, lr, d', b', P'⟩
          rw [getD_item hc]
          exact fun z' => e (decide_eq_true (congrArg V.int z'))
      · have : ¬ (0 : Int) < (r.length : Int) := fun z' => q (decide_eq_true z')
        exact List.length_eq_zero_iff.mp (by omega)
    · rintro σ H' ⟨r, rfl, hr, lr, d', b', P'⟩
      exact ⟨_, rfl, k D r H' hr lr nD0 d' b' P'⟩
theorem sc_law_horner : FnScope ["numbers", "x", "total", "k"] ["numbers", "x"] (defScope s_law_horner) := ⟨rfl, rfl, rfl, by decide +kernel, rfl, by decide +kernel, by decide +kernel⟩
theorem ok_law_horner (T : Txt K mg a) : FnOk P w K mg base CX0 1 a.f_law_horner a.d_law_horner ["numbers", "x"] (sp_law_horner K a) := by
  refine T.F_law_horner.ok sc_law_horner (fun vs H Q E h => ?len) (fun cdv A outer s H vs Q E hr h => ?body)
  case len =>
    exact sp_law_horner_len h
  case body =>
    obtain ⟨d, ns, x, rfl, hN, hl, k⟩ := h
    refine ⟨_, (pss_cons (ps_set (i := 2) sc_law_horner.nd rfl (Or.inl rfl) pe_int)
      (pss_cons (ps_for PassesOwn.never rfl (pi_range1 (by rfl) T.n_range (pa_cons (pe_callB call_len_seq (by rfl) T.n_len PySem.boot_len (pa_cons (pv 0) pa_nil)) pa_nil)) (pg_name (i := 3) sc_law_horner.nd rfl (Or.inl rfl))
      (pss_one (ps_set (i := 2) sc_law_horner.nd rfl (Or.inl rfl) (pe_op op_mod (pe_callTy call_int1 (by rfl) T.n_int (by decide +kernel) (pa_cons (pe_op op_add (pe_op op_mul (pv 2) (pv 1)) (pe_ix ix_list (pv 0) (pe_op op_sub (pe_op op_sub (pe_callB call_len_seq (by rfl) T.n_len PySem.boot_len (pa_cons (pv 0) pa_nil)) pe_int) (pv 3)) (fun _ _ => rfl))) pa_nil)) pe_int))))
      (pss_one (ps_ret (pv 2))))), ?_⟩
    refine ⟨_, rfl, d, _, rfl, .inl hN, _, rfl, by omega, by rw [List.length_map]; omega, ?_⟩
    rw [Int.toNat_natCast, List.length_map]
    refine for_range (lo := 0) (n := ns.length) (fun i σ H' => ∃ v : Option V, σ = [some (.ref d), some (.int x), some (.int (horn (ns.drop (ns.length - i)) x)), v] ∧ H' = H)
      ⟨none, by rw [Nat.sub_zero, List.drop_length]; rfl, rfl⟩ ?_ ?_
    · rintro i σ H' hi ⟨v, rfl, rfl⟩
      have hc : ns[ns.length - (i + 1)]? = some ns[ns.length - (i + 1)] := List.getElem?_eq_getElem (by omega)
      have w := horn_word (ns.drop (ns.length - i)) x
      refine ⟨_, rfl, _, rfl, _, _, rfl, rfl, .inl ⟨by omega, by omega⟩, _, rfl, _, rfl, d, _, rfl, .inl hN, _, _, rfl, rfl, _, rfl, _, _, rfl, rfl, d, _, _, _, rfl, rfl, hN, at_of (j := ns.length - (i + 1)) (by rw [List.length_map]; omega) (by rw [List.getElem?_map, hc]; rfl), _, _, rfl, rfl, .inl ⟨_, rfl, _, _, rfl, rfl, (by show (0 : Int) < 65521; decide), ?_⟩⟩
      refine ⟨some (.int (0 + (i : Nat))), ?_, rfl⟩
      have e := horn_drop (x := x) hc
      rw [show ns.length - (i + 1) + 1 = ns.length - i by omega] at e
      rw [e]
      rfl
    · rintro σ H' ⟨v, rfl, rfl⟩
      rw [Nat.sub_self, List.drop_zero]
      exact ⟨_, rfl, k⟩
theorem sc_law : FnScope ["script", "pot", "first", "second", "kept", "total", "product", "k", "x", "a", "b"] ["script"] (defScope s_law) := ⟨rfl, rfl, rfl, by decide +kernel, rfl, by decide +kernel, by decide +kernel⟩
theorem ok_law (T : Txt K mg a) : FnOk P w K mg base CX0 5 a.f_law a.d_law ["script"] (sp_law K a) := by
  refine T.F_law.ok sc_law (fun vs H Q E h => ?len) (fun cdv A outer s H vs Q E hr h => ?body)
  case len =>
    exact sp_law_len h
  case body =>
    obtain ⟨s, ns, rfl, hS, hlen, k⟩ := h
    refine ⟨_, (pss_cons (ps_set (i := 1) sc_law.nd rfl (Or.inl rfl) (pe_call (ok_law_pot T) (hr.mono (by decide)) rfl T.g_law_pot T.F_law_pot.kp T.d_law_pot .nil pass0 (pa_cons (pv 0) pa_nil)))
      (pss_cons (ps_set (i := 2) sc_law.nd rfl (Or.inl rfl) (pe_call (ok_law_polynomial T) (hr.mono (by decide)) rfl T.g_law_polynomial T.F_law_polynomial.kp T.d_law_polynomial .nil pass0 (pa_cons (pv 1) (pa_cons pe_int pa_nil))))
      (pss_cons (ps_set (i := 3) sc_law.nd rfl (Or.inl rfl) (pe_call (ok_law_polynomial T) (hr.mono (by decide)) rfl T.g_law_polynomial T.F_law_polynomial.kp T.d_law_polynomial .nil pass0 (pa_cons (pv 1) (pa_cons pe_int pa_nil))))
      (Evl.pss_cut (ps_if (PW.pt (pw_and (pt_cmpR op_eq (pe_call (ok_law_next T) (hr.mono (by decide)) rfl T.g_law_next T.F_law_next.kp T.d_law_next .nil pass0 (pa_cons (pv 1) (pa_cons pe_int pa_nil))) pe_int (nomark _)) (pw_and1 (pt_cmpR op_gt (pe_callB call_len_seq (by rfl) T.n_len PySem.boot_len (pa_cons (pv 2) pa_nil)) pe_int (nomark _)))))
      (pss_cons (ps_set (i := 3) sc_law.nd rfl (Or.inl rfl) (pe_call (ok_law_polynomial T) (hr.mono (by decide)) rfl T.g_law_polynomial T.F_law_polynomial.kp T.d_law_polynomial .nil pass0 (pa_cons (pv 1) (pa_cons (pe_op op_sub (pe_callB call_len_seq (by rfl) T.n_len PySem.boot_len (pa_cons (pv 2) pa_nil)) pe_int) pa_nil))))
      (pss_one (ps_set (i := 3) sc_law.nd rfl (Or.inl rfl) (pe_op op_cat (pe_op op_cat (pv 3) (pe_op op_rep (pe_lst (pa_cons pe_int pa_nil)) (pe_op op_sub (pe_op op_sub (pe_callB call_len_seq (by rfl) T.n_len PySem.boot_len (pa_cons (pv 2) pa_nil)) pe_int) (pe_callB call_len_seq (by rfl) T.n_len PySem.boot_len (pa_cons (pv 3) pa_nil))))) (pe_lst (pa_cons (pe_op op_sub pe_int (pe_ix ix_list (pv 2) (pe_op op_sub (pe_callB call_len_seq (by rfl) T.n_len PySem.boot_len (pa_cons (pv 2) pa_nil)) pe_int) (fun _ _ => rfl))) pa_nil))))))
      pss_nil)
      (pss_cons (ps_set (i := 4) sc_law.nd rfl (Or.inl rfl) (pe_lst (pa_cons (pe_callTy call_list_of (by rfl) T.n_list (by decide +kernel) (pa_cons (pv 2) pa_nil)) (pa_cons (pe_callTy call_list_of (by rfl) T.n_list (by decide +kernel) (pa_cons (pv 3) pa_nil)) pa_nil))))
      (pss_cons (ps_set (i := 5) sc_law.nd rfl (Or.inl rfl) (pe_call (ok_plus T) (hr.mono (by decide)) rfl T.g_plus T.F_plus.kp T.d_plus .nil pass0 (pa_cons (pv 2) (pa_cons (pv 3) pa_nil))))
      (pss_cons (ps_set (i := 6) sc_law.nd rfl (Or.inl rfl) (pe_call (ok_times T) (hr.mono (by decide)) rfl T.g_times T.F_times.kp T.d_times .nil pass0 (pa_cons (pv 2) (pa_cons (pv 3) pa_nil))))
      (pss_cons (ps_if (PW.pt (pw_or (pt_cmpR (op_neD hr.units) (pe_lst (pa_cons (pv 2) (pa_cons (pv 3) pa_nil))) (pv 4) (nomark _)) (pw_or (pt_not (pt_val (pe_call (ok_law_is_normal T) (hr.mono (by decide)) rfl T.g_law_is_normal T.F_law_is_normal.kp T.d_law_is_normal .nil pass0 (pa_cons (pv 5) pa_nil)))) (pw_or1 (pt_not (pt_val (pe_call (ok_law_is_normal T) (hr.mono (by decide)) rfl T.g_law_is_normal T.F_law_is_normal.kp T.d_law_is_normal .nil pass0 (pa_cons (pv 6) pa_nil))))))))
      (pss_one (ps_ret pe_bl))
      pss_nil)
      (Evl.pss_cut (ps_if (PW.pt (pw_and (pt_cmpR op_gt (pe_callB call_len_seq (by rfl) T.n_len PySem.boot_len (pa_cons (pv 2) pa_nil)) pe_int (nomark _)) (pw_and (pt_cmpR op_gt (pe_callB call_len_seq (by rfl) T.n_len PySem.boot_len (pa_cons (pv 3) pa_nil)) pe_int (nomark _)) (pw_and1 (pt_cmpR op_ne (pe_callB call_len_seq (by rfl) T.n_len PySem.boot_len (pa_cons (pv 6) pa_nil)) (pe_op op_sub (pe_op op_add (pe_callB call_len_seq (by rfl) T.n_len PySem.boot_len (pa_cons (pv 2) pa_nil)) (pe_callB call_len_seq (by rfl) T.n_len PySem.boot_len (pa_cons (pv 3) pa_nil))) pe_int) (nomark _))))))
      (pss_one (ps_ret pe_bl))
      pss_nil)
      (Evl.pss_cut (ps_if (PW.pt (pw_and (pt_cmpR op_gt (pe_callB call_len_seq (by rfl) T.n_len PySem.boot_len (pa_cons (pv 6) pa_nil)) pe_int (nomark _)) (pw_and1 (PW.pt (pw_or (pt_cmpR op_eq (pe_callB call_len_seq (by rfl) T.n_len PySem.boot_len (pa_cons (pv 2) pa_nil)) pe_int (nomark _)) (pw_or1 (pt_cmpR op_eq (pe_callB call_len_seq (by rfl) T.n_len PySem.boot_len (pa_cons (pv 3) pa_nil)) pe_int (nomark _))))))))
      (pss_one (ps_ret pe_bl))
      pss_nil)
      (pss_cons (ps_if (pt_cmpR op_gt (pe_callB call_len_seq (by rfl) T.n_len PySem.boot_len (pa_cons (pv 5) pa_nil)) (pe_callB (call_max2 rfl) (by rfl) T.n_max (by decide +kernel) (pa_cons (pe_callB call_len_seq (by rfl) T.n_len PySem.boot_len (pa_cons (pv 2) pa_nil)) (pa_cons (pe_callB call_len_seq (by rfl) T.n_len PySem.boot_len (pa_cons (pv 3) pa_nil)) pa_nil))) (nomark _))
      (pss_one (ps_ret pe_bl))
      pss_nil)
      (pss_cons (ps_for PassesOwn.never rfl (pi_range1 (by rfl) T.n_range (pa_cons pe_int pa_nil)) (pg_name (i := 7) sc_law.nd rfl (Or.inl rfl))
      (pss_cons (ps_set (i := 8) sc_law.nd rfl (Or.inl rfl) (pv 7))
      (Evl.pss_cut (ps_if (pt_cmpR op_gt (pv 7) pe_int (nomark _))
      (pss_one (ps_set (i := 8) sc_law.nd rfl (Or.inl rfl) (pe_call (ok_law_next T) (hr.mono (by decide)) rfl T.g_law_next T.F_law_next.kp T.d_law_next .nil pass0 (pa_cons (pv 1) (pa_cons pe_int pa_nil)))))
      pss_nil)
      (pss_cons (ps_set (i := 9) sc_law.nd rfl (Or.inl rfl) (pe_call (ok_law_horner T) (hr.mono (by decide)) rfl T.g_law_horner T.F_law_horner.kp T.d_law_horner .nil pass0 (pa_cons (pv 2) (pa_cons (pv 8) pa_nil))))
      (pss_cons (ps_set (i := 10) sc_law.nd rfl (Or.inl rfl) (pe_call (ok_law_horner T) (hr.mono (by decide)) rfl T.g_law_horner T.F_law_horner.kp T.d_law_horner .nil pass0 (pa_cons (pv 3) (pa_cons (pv 8) pa_nil))))
      (pss_cons (ps_if (PW.pt (pw_or (pt_cmpR op_ne (pe_call (ok_evaluate T) (hr.mono (by decide)) rfl T.g_evaluate T.F_evaluate.kp T.d_evaluate .nil pass0 (pa_cons (pv 2) (pa_cons (pv 8) pa_nil))) (pv 9) (nomark _)) (pw_or (pt_not (pt_val (pe_call (ok_law_is_int T) (hr.mono (by decide)) rfl T.g_law_is_int T.F_law_is_int.kp T.d_law_is_int .nil pass0 (pa_cons (pe_call (ok_evaluate T) (hr.mono (by decide)) rfl T.g_evaluate T.F_evaluate.kp T.d_evaluate .nil pass0 (pa_cons (pv 3) (pa_cons (pv 8) pa_nil))) pa_nil)))) (pw_or1 (pt_cmpR op_ne (pe_call (ok_evaluate T) (hr.mono (by decide)) rfl T.g_evaluate T.F_evaluate.kp T.d_evaluate .nil pass0 (pa_cons (pv 3) (pa_cons (pv 8) pa_nil))) (pv 10) (nomark _))))))
      (pss_one (ps_ret pe_bl))
      pss_nil)
      (pss_one (ps_if (PW.pt (pw_or (pt_cmpR op_ne (pe_call (ok_law_horner T) (hr.mono (by decide)) rfl T.g_law_horner T.F_law_horner.kp T.d_law_horner .nil pass0 (pa_cons (pv 5) (pa_cons (pv 8) pa_nil))) (pe_op op_mod (pe_callTy call_int1 (by rfl) T.n_int (by decide +kernel) (pa_cons (pe_op op_add (pv 9) (pv 10)) pa_nil)) pe_int) (nomark _)) (pw_or1 (pt_cmpR op_ne (pe_call (ok_law_horner T) (hr.mono (by decide)) rfl T.g_law_horner T.F_law_horner.kp T.d_law_horner .nil pass0 (pa_cons (pv 6) (pa_cons (pv 8) pa_nil))) (pe_op op_mod (pe_callTy call_int1 (by rfl) T.n_int (by decide +kernel) (pa_cons (pe_op op_mul (pv 9) (pv 10)) pa_nil)) pe_int) (nomark _)))))
      (pss_one (ps_ret pe_bl))
      pss_nil))))))))
      (pss_one (ps_ret pe_bl)))))))))))))), ?_⟩
    refine ⟨_, rfl, s, ns, rfl, hS, by omega, fun p l H1 hp hl s1 P1 => ?_⟩
    refine ⟨_, rfl, p, l, 8, rfl, P1, by decide, by decide, fun D1 f H2 nf lf n1 d1 b2 P2 => ?_⟩
    have off1 := P1.off n1
    refine ⟨_, rfl, p, l, 8, rfl, P2, by decide, by decide, fun D2 g H3 ng lg n2 d2 b3 P3 => ?_⟩
    have off2 := P2.off n2
    have n12 : D1 ≠ D2 := ne_of_none d1 n2
    have d13 := b3 _ _ d1 off1.1.symm
    -- the second polynomial, perhaps another
    refine ⟨fun σ H' => ∃ (D2 : Addr) (g : List Int), σ = [some (.ref s), some (.ref p), some (.ref D1), some (.ref D2), none, none, none, none, none, none, none] ∧ H' D1 = some (.lst (f.map V.int)) ∧ H' D2 = some (.lst (g.map V.int)) ∧ Norm g ∧ g.length ≤ 8 ∧ D2 ≠ p ∧ Pot H' p l, ?_, ?_⟩
    · refine ⟨_, rfl, p, l, 4, rfl, P3, by decide, by decide, fun v H4 v0 v1 P4 o4 => ⟨rfl, _, rfl, ?_⟩⟩
      have d14 : H4 D1 = some (.lst (f.map V.int)) := by rw [o4 _ off1.1.symm]; exact d13
      have d24 : H4 D2 = some (.lst (g.map V.int)) := by rw [o4 _ off2.1.symm]; exact d2
      have same : ∃ (D2 : Addr) (g : List Int), ([some (.ref s), some (.ref p), some (.ref D1), some (.ref D2), none, none, none, none, none, none, none] : List (Option V)) = [some (.ref s), some (.ref p), some (.ref D1), some (.ref D2), none, none, none, none, none, none, none] ∧ H4 D1 = some (.lst (f.map V.int)) ∧ H4 D2 = some (.lst (g.map V.int)) ∧ Norm g ∧ g.length ≤ 8 ∧ D2 ≠ p ∧ Pot H4 p l :=
        ⟨D2, g, rfl, d14, d24, ng, by omega, off2.1.symm, P4⟩
      refine ite2 (fun _ => ?_) (fun _ => iteF ⟨D2, g, rfl, d14, d24, ng, by omega, off2.1.symm, P4⟩)
      refine ⟨_, rfl, D1, _, rfl, .inl (SqL.of d14), _, _, rfl, rfl, _, rfl, ?_⟩
      rw [List.length_map]
      refine ite2 (fun q => ?_) (fun _ => ⟨D2, g, rfl, d14, d24, ng, by omega, off2.1.symm, P4⟩)
      have lp : (0 : Int) < (f.length : Int) := of_decide_eq_true q
      refine ⟨_, rfl, _, rfl, D1, _, rfl, .inl (SqL.of d14), _, _, rfl, rfl, p, l, (f.length : Int) - 1, by rw [List.length_map]; rfl, P4, by omega, by omega, fun D3 h H5 nh lh n3 d3 b5 P5 => ?_⟩
      have off3 := P4.off n3
      have d15 := b5 _ _ d14 off1.1.symm
      refine ⟨_, rfl, (by show 1 ≤ sizeLine; decide), fun q1 m1 => ?_⟩
      have S1 := Same.new (o := .lst [V.int 0]) m1
      refine ⟨_, rfl, D1, _, rfl, .inl (SqL.of (S1 _ _ d15)), _, _, rfl, rfl, _, rfl, D3, _, rfl, .inl (SqL.of (S1 _ _ d3)), _, _, rfl, rfl, ?_⟩
      rw [List.length_map, List.length_map]
      refine ⟨q1, ((f.length - 1 - h.length : Nat) : Int), _, rfl, congrArg V.int (by omega), upd_same, by omega, by omega, ?_, fun q2 m2 => ?_⟩
      · rw [Int.toNat_natCast]
        exact Nat.le_of_lt (small _ (by simp; omega))
      rw [Int.toNat_natCast, rep_zero]
      have S2 := Same.new (o := .lst ((List.replicate (f.length - 1 - h.length) (0 : Int)).map V.int)) m2
      refine ⟨D3, q2, _, _, rfl, rfl, S2 _ _ (S1 _ _ d3), upd_same, Nat.le_of_lt (small _ (by simp; omega)), fun q3 m3 => ?_⟩
      rw [← List.map_append]
      have S3 := Same.new (o := .lst ((h ++ List.replicate (f.length - 1 - h.length) (0 : Int)).map V.int)) m3
      have S13 := (S1.trans S2).trans S3
      have hc : f[f.length - 1]? = some f[f.length - 1] := List.getElem?_eq_getElem (by omega)
      refine ⟨_, rfl, _, rfl, D1, _, rfl, .inl (SqL.of (S13 _ _ d15)), _, _, rfl, rfl, D1, _, _, _, rfl, rfl, SqL.of (S13 _ _ d15), at_of (j := f.length - 1) (by rw [List.length_map]; omega) (by rw [List.getElem?_map, hc]; rfl), _, _, rfl, rfl, (by show 1 ≤ sizeLine; decide), fun q4 m4 => ?_⟩
      have S4 := Same.new (o := .lst [V.int (65521 - f[f.length - 1])]) m4
      refine ⟨q3, q4, _, _, rfl, rfl, S4 _ _ upd_same, upd_same, Nat.le_of_lt (small _ (by simp; omega)), fun q5 m5 => ?_⟩
      have S5 := Same.new (o := .lst ((h ++ List.replicate (f.length - 1 - h.length) (0 : Int)).map V.int ++ [V.int (65521 - f[f.length - 1])])) m5
      have S15 := (S13.trans S4).trans S5
      obtain ⟨w0, w1⟩ := nf.1 f[f.length - 1] (List.getElem_mem _)
      have nz := nf.2.resolve_left (List.length_pos_iff.mp (by omega))
      rw [getD_item hc] at nz
      refine ⟨q5, h ++ List.replicate (f.length - 1 - h.length) (0 : Int) ++ [65521 - f[f.length - 1]], rfl, S15 _ _ d15, ?_, norm_snoc (fun w m => ?_) ⟨by omega, by omega⟩ (by omega), by simp; omega, ((P5.same (S13.trans S4)).off m5).1.symm, P5.same S15⟩
      · rw [upd_same, List.map_append (l₂ := [65521 - f[f.length - 1]])]
        rfl
      · rcases List.mem_append.mp m with m | m
        · exact nh.1 w m
        · rw [(List.mem_replicate.mp m).2]
          exact ⟨by decide, by decide⟩
    · rintro σ H4 ⟨D2, g, rfl, d14, d24, ng, lg, nD2, P4⟩
      -- kept = [list(first), list(second)]
      refine ⟨_, rfl, D1, _, rfl, .inl (SqL.of d14), fun c1 m1 => ?_⟩
      have S1 := Same.new (o := .lst (f.map V.int)) m1
      refine ⟨_, rfl, D2, _, rfl, .inl (SqL.of (S1 _ _ d24)), fun c2 m2 => ?_⟩
      have S2 := Same.new (o := .lst (g.map V.int)) m2
      refine ⟨(by show 2 ≤ sizeLine; decide), fun c3 m3 => ?_⟩
      have S3 := Same.new (o := .lst [V.ref c1, V.ref c2]) m3
      have S13 := (S1.trans S2).trans S3
      -- total = plus(first, second); product = times(first, second)
      refine ⟨_, rfl, _, rfl, D1, D2, f, g, rfl, SqL.of (S13 _ _ d14), SqL.of (S13 _ _ d24), by omega, by omega, fun T1 t H5 s5 _ dt nt vt lt => ?_⟩
      refine ⟨_, rfl, _, rfl, D1, D2, f, g, rfl, SqL.of (s5 _ _ (S13 _ _ d14)), SqL.of (s5 _ _ (S13 _ _ d24)), by omega, by omega, nf.1, fun T2 r H6 s6 _ dr nr vr lr => ?_⟩
      have S16 := (S13.trans s5).trans s6
      have d16 := S16 _ _ d14
      have d26 := S16 _ _ d24
      have dt6 := s6 _ _ dt
      have k1 := s6 _ _ (s5 _ _ (S3 _ _ (S2 _ _ (upd_same (H := H4) (a := c1) (o := .lst (f.map V.int))))))
      have k2 := s6 _ _ (s5 _ _ (S3 _ _ (upd_same (H := upd H4 c1 (.lst (f.map V.int))) (a := c2) (o := .lst (g.map V.int)))))
      have k3 := s6 _ _ (s5 _ _ (upd_same (H := upd (upd H4 c1 (.lst (f.map V.int))) c2 (.lst (g.map V.int))) (a := c3) (o := .lst [V.ref c1, V.ref c2])))
      have P6 := P4.same S16
      have lt' : t.length ≤ 8 := by omega
      have lr' : r.length ≤ 16 := by omega
      -- if [first, second] != kept or ..
      refine ⟨_, rfl, _, rfl, (by show 2 ≤ sizeLine; decide), fun c4 m4 => ?_⟩
      have S4 := Same.new (o := .lst [V.ref D1, V.ref D2]) m4
      have d17 := S4 _ _ d16
      have d27 := S4 _ _ d26
      have dt7 := S4 _ _ dt6
      have dr7 := S4 _ _ dr
      have P7 := P6.same S4
      refine ⟨_, rfl, _, _, dp_two (SqL.of upd_same) (SqL.of d17) (SqL.of d27), dp_two (SqL.of (S4 _ _ k3)) (SqL.of (S4 _ _ k1)) (SqL.of (S4 _ _ k2)), rows_shaped _, rows_shaped _, _, rfl, ?_⟩
      rw [eqv_rows, decide_eq_true rfl]
      refine iteF ?_
      refine ⟨_, rfl, T1, t, rfl, dt7, nt, true, rfl, iteF ?_⟩
      refine ⟨_, rfl, T2, r, rfl, dr7, nr, true, rfl, iteF ?_⟩
      -- the lengths
      have fin : ∀ (σ4 σ5 σ6 : Option V), True := fun _ _ _ => trivial
      have pr : f ≠ [] → g ≠ [] → r.length = f.length + g.length - 1 := fun h1 h2 => norm_mul nf ng nr h1 h2 (by omega) (by omega) (by omega) vr
      have pz : f = [] ∨ g = [] → r.length = 0 := fun h => by
        refine Nat.le_zero.mp (norm_le nr (by decide) ((fun x => ?_) : Pol 0 (pev r)) (by omega))
        rw [vr x]
        rcases h with h | h
        · rw [h]
          show (0 : Zp) * _ = 0
          grind
        · rw [h]
          show _ * (0 : Zp) = 0
          grind
      refine ⟨fun σ H' => σ = [some (.ref s), some (.ref p), some (.ref D1), some (.ref D2), some (.ref c3), some (.ref T1), some (.ref T2), none, none, none, none] ∧ H' = upd H6 c4 (.lst [V.ref D1, V.ref D2]), ?_, ?_⟩
      · refine ⟨_, rfl, D1, _, rfl, .inl (SqL.of d17), _, _, rfl, rfl, _, rfl, ?_⟩
        rw [List.length_map]
        refine ite2 (fun q1 => ?_) (fun _ => iteF ⟨rfl, rfl⟩)
        refine ⟨_, rfl, D2, _, rfl, .inl (SqL.of d27), _, _, rfl, rfl, _, rfl, ?_⟩
        rw [List.length_map]
        refine ite2 (fun q2 => ?_) (fun _ => ⟨rfl, rfl⟩)
        refine ⟨_, rfl, T2, _, rfl, .inl (SqL.of dr7), _, rfl, D1, _, rfl, .inl (SqL.of d17), _, rfl, D2, _, rfl, .inl (SqL.of d27), _, _, rfl, rfl, _, _, rfl, rfl, rfl, _, rfl, ?_⟩
        have q1' : (0 : Int) < (f.length : Int) := of_decide_eq_true q1
        have q2' : (0 : Int) < (g.length : Int) := of_decide_eq_true q2
        have e := pr (List.length_pos_iff.mp (by omega)) (List.length_pos_iff.mp (by omega))
        refine iteNS (congrArg V.int ?_) ⟨rfl, rfl⟩
        rw [List.length_map, List.length_map, List.length_map]
        omega
      · rintro σ H7 ⟨rfl, rfl⟩
        refine ⟨fun σ H' => σ = [some (.ref s), some (.ref p), some (.ref D1), some (.ref D2), some (.ref c3), some (.ref T1), some (.ref T2), none, none, none, none] ∧ H' = upd H6 c4 (.lst [V.ref D1, V.ref D2]), ?_, ?_⟩
        · refine ⟨_, rfl, T2, _, rfl, .inl (SqL.of dr7), _, _, rfl, rfl, _, rfl, ?_⟩
          rw [List.length_map]
          refine ite2 (fun q1 => ?_) (fun _ => iteF ⟨rfl, rfl⟩)
          have q1' : (0 : Int) < (r.length : Int) := of_decide_eq_true q1
          refine ⟨_, rfl, D1, _, rfl, .inl (SqL.of d17), rfl, _, rfl, ?_⟩
          rw [List.length_map]
          refine ite2 (fun q2 => ?_) (fun _ => ?_)
          · exfalso
            have : (f.length : Int) = 0 := V.int.inj (of_decide_eq_true q2)
            have := pz (.inl (List.length_eq_zero_iff.mp (by omega)))
            omega
          · refine ⟨_, rfl, D2, _, rfl, .inl (SqL.of d27), rfl, _, rfl, ?_⟩
            rw [List.length_map]
            refine ite2 (fun q2 => ?_) (fun _ => ⟨rfl, rfl⟩)
            exfalso
            have : (g.length : Int) = 0 := V.int.inj (of_decide_eq_true q2)
            have := pz (.inr (List.length_eq_zero_iff.mp (by omega)))
            omega
        · rintro σ H7 ⟨rfl, rfl⟩
          refine ⟨_, rfl, T1, _, rfl, .inl (SqL.of dt7), _, rfl, D1, _, rfl, .inl (SqL.of d17), _, rfl, D2, _, rfl, .inl (SqL.of d27), _, _, rfl, _, _, rfl, rfl, _, rfl, ?_⟩
          rw [List.length_map, List.length_map, List.length_map]
          refine ite2 (fun q => ?_) (fun _ => ?_)
          · exfalso
            have := of_decide_eq_true q
            split at this <;> omega
          -- for k in range(17)
          refine ⟨17, rfl, by decide, by decide, for_range (lo := 0) (n := 17) (fun i σ H' => ∃ v7 v8 v9 v10 : Option V, σ = [some (.ref s), some (.ref p), some (.ref D1), some (.ref D2), some (.ref c3), some (.ref T1), some (.ref T2), v7, v8, v9, v10] ∧ But p (upd H6 c4 (.lst [V.ref D1, V.ref D2])) H' ∧ Pot H' p l)
            ⟨none, none, none, none, rfl, (Same.refl _).but, P7⟩ ?_ (fun σ H' _ => k H')⟩
          rintro i σ H' hi ⟨v7, v8, v9, v10, rfl, b', P'⟩
          refine ⟨_, rfl, ?_⟩
          refine ⟨fun σ H'' => ∃ (x : Int) (v9 v10 : Option V), σ = [some (.ref s), some (.ref p), some (.ref D1), some (.ref D2), some (.ref c3), some (.ref T1), some (.ref T2), some (.int (0 + (i : Nat))), some (.int x), v9, v10] ∧ But p (upd H6 c4 (.lst [V.ref D1, V.ref D2])) H'' ∧ Pot H'' p l, ?_, ?_⟩
          · refine ⟨_, rfl, _, _, rfl, rfl, _, rfl, ?_⟩
            refine ite2 (fun _ => ?_) (fun _ => ⟨_, _, _, rfl, b', P'⟩)
            exact ⟨_, rfl, p, l, 65521, rfl, P', by decide, by decide, fun v H8 v0 v1 P8 o8 => ⟨v, _, _, rfl, b'.trans o8.but, P8⟩⟩
          · rintro σ H8 ⟨x, v9, v10, rfl, b8, P8⟩
            have nT1 : T1 ≠ p := P7.noList dt7 fun i acc seed e => by
              cases t with
              | nil => cases e
              | cons a r => rw [List.map_cons] at e; injection e with e1 _; cases e1
            have nT2 : T2 ≠ p := P7.noList dr7 fun i acc seed e => by
              cases r with
              | nil => cases e
              | cons a r => rw [List.map_cons] at e; injection e with e1 _; cases e1
            have d18 := SqL.of (K := K) (b8 _ _ d17 off1.1.symm)
            have d28 := SqL.of (K := K) (b8 _ _ d27 nD2)
            have dt8 := SqL.of (K := K) (b8 _ _ dt7 nT1)
            have dr8 := SqL.of (K := K) (b8 _ _ dr7 nT2)
            refine ⟨_, rfl, _, rfl, D1, f, x, rfl, d18, by omega, ?_⟩
            refine ⟨_, rfl, _, rfl, D2, g, x, rfl, d28, by omega, ?_⟩
            refine ⟨_, rfl, _, rfl, D1, f, x, rfl, d18, by omega, _, rfl, rfl, _, rfl, iteNS rfl ?_⟩
            refine ⟨_, rfl, _, rfl, D2, g, x, rfl, d28, by omega, _, rfl, true, rfl, iteF ?_⟩
            refine ⟨_, rfl, _, rfl, D2, g, x, rfl, d28, by omega, _, rfl, rfl, _, rfl, iteNS rfl ?_⟩
            have wa := horn_word f x
            have e1 : horn t x = (horn f x + horn g x) % 65521 := by
              have w1 := horn_word t x
              refine z_inj w1.1 w1.2 (Int.emod_nonneg _ (by decide)) (Int.emod_lt_of_pos _ (by decide)) ?_
              rw [z_mod, z_add, horn_z, horn_z, horn_z, vt]
            have e2 : horn r x = horn f x * horn g x % 65521 := by
              have w1 := horn_word r x
              refine z_inj w1.1 w1.2 (Int.emod_nonneg _ (by decide)) (Int.emod_lt_of_pos _ (by decide)) ?_
              rw [z_mod, z_mul, horn_z, horn_z, horn_z, vr]
            refine ⟨_, rfl, _, rfl, T1, t, x, rfl, dt8, by omega, _, rfl, _, rfl, _, _, rfl, rfl, .inl ⟨_, rfl, _, _, rfl, rfl, (by show (0 : Int) < 65521; decide), rfl, _, rfl, iteNS (congrArg V.int e1) ?_⟩⟩
            exact ⟨_, rfl, _, rfl, T2, r, x, rfl, dr8, by omega, _, rfl, _, rfl, _, _, rfl, rfl, .inl ⟨by omega, by omega⟩, .inl ⟨_, rfl, _, _, rfl, rfl, (by show (0 : Int) < 65521; decide), rfl, _, rfl, iteNS (congrArg V.int e2) ⟨_, _, _, _, rfl, b8, P8⟩⟩⟩
end
theorem all_mk {l : PySem.W.OpenLaw} {w : World} {K : PySem.W.Frag} {h : Heap} {mg : Str → Option Value} {fa : Addr} (X : K.In h) (G : h.Ns mainGlobals mg) (hfa : mg "law" = some (.ref fa))
    {f_normal : Addr} {oc_normal kV_normal dc_normal pm_normal cd_normal ct_normal : Value} {od_normal an_normal : Option Addr} {sl_normal : Array (Option Value)}
    {f_plus : Addr} {oc_plus kV_plus dc_plus pm_plus cd_plus ct_plus : Value} {od_plus an_plus : Option Addr} {sl_plus : Array (Option Value)}
    {f_times : Addr} {oc_times kV_times dc_times pm_times cd_times ct_times : Value} {od_times an_times : Option Addr} {sl_times : Array (Option Value)}
    {f_evaluate : Addr} {oc_evaluate kV_evaluate dc_evaluate pm_evaluate cd_evaluate ct_evaluate : Value} {od_evaluate an_evaluate : Option Addr} {sl_evaluate : Array (Option Value)}
    {f_law_pot : Addr} {oc_law_pot kV_law_pot dc_law_pot pm_law_pot cd_law_pot ct_law_pot : Value} {od_law_pot an_law_pot : Option Addr} {sl_law_pot : Array (Option Value)}
    {f_law_next : Addr} {oc_law_next kV_law_next dc_law_next pm_law_next cd_law_next ct_law_next : Value} {od_law_next an_law_next : Option Addr} {sl_law_next : Array (Option Value)}
    {f_law_word : Addr} {oc_law_word kV_law_word dc_law_word pm_law_word cd_law_word ct_law_word : Value} {od_law_word an_law_word : Option Addr} {sl_law_word : Array (Option Value)}
    {f_law_words : Addr} {oc_law_words kV_law_words dc_law_words pm_law_words cd_law_words ct_law_words : Value} {od_law_words an_law_words : Option Addr} {sl_law_words : Array (Option Value)}
    {f_law_is_int : Addr} {oc_law_is_int kV_law_is_int dc_law_is_int pm_law_is_int cd_law_is_int ct_law_is_int : Value} {od_law_is_int an_law_is_int : Option Addr} {sl_law_is_int : Array (Option Value)}
    {f_law_is_normal : Addr} {oc_law_is_normal kV_law_is_normal dc_law_is_normal pm_law_is_normal cd_law_is_normal ct_law_is_normal : Value} {od_law_is_normal an_law_is_normal : Option Addr} {sl_law_is_normal : Array (Option Value)}
    {f_law_polynomial : Addr} {oc_law_polynomial kV_law_polynomial dc_law_polynomial pm_law_polynomial cd_law_polynomial ct_law_polynomial : Value} {od_law_polynomial an_law_polynomial : Option Addr} {sl_law_polynomial : Array (Option Value)}
    {f_law_horner : Addr} {oc_law_horner kV_law_horner dc_law_horner pm_law_horner cd_law_horner ct_law_horner : Value} {od_law_horner an_law_horner : Option Addr} {sl_law_horner : Array (Option Value)}
    {f_law : Addr} {oc_law kV_law dc_law pm_law cd_law ct_law : Value} {od_law an_law : Option Addr} {sl_law : Array (Option Value)}
    {tk_PRIME : Tok}
    (a_normal : PySem.W.nsIn K mainGlobals "normal" = some (some (.ref f_normal)))
    (l_normal : K.lookup f_normal = some ⟨oc_normal, od_normal, .func (PySem.W.fnOf "normal" "normal" (defArgs s_normal) (defBody s_normal) (defScope s_normal) .none kV_normal dc_normal pm_normal an_normal cd_normal ct_normal), sl_normal⟩)
    (q_normal : PySem.W.codeIn K cd_normal "normal" = true)
    (k_normal : PySem.W.keepIn K (.ref f_normal) = true)
    (a_plus : PySem.W.nsIn K mainGlobals "plus" = some (some (.ref f_plus)))
    (l_plus : K.lookup f_plus = some ⟨oc_plus, od_plus, .func (PySem.W.fnOf "plus" "plus" (defArgs s_plus) (defBody s_plus) (defScope s_plus) .none kV_plus dc_plus pm_plus an_plus cd_plus ct_plus), sl_plus⟩)
    (q_plus : PySem.W.codeIn K cd_plus "plus" = true)
    (k_plus : PySem.W.keepIn K (.ref f_plus) = true)
    (a_times : PySem.W.nsIn K mainGlobals "times" = some (some (.ref f_times)))
    (l_times : K.lookup f_times = some ⟨oc_times, od_times, .func (PySem.W.fnOf "times" "times" (defArgs s_times) (defBody s_times) (defScope s_times) .none kV_times dc_times pm_times an_times cd_times ct_times), sl_times⟩)
    (q_times : PySem.W.codeIn K cd_times "times" = true)
    (k_times : PySem.W.keepIn K (.ref f_times) = true)
    (a_evaluate : PySem.W.nsIn K mainGlobals "evaluate" = some (some (.ref f_evaluate)))
    (l_evaluate : K.lookup f_evaluate = some ⟨oc_evaluate, od_evaluate, .func (PySem.W.fnOf "evaluate" "evaluate" (defArgs s_evaluate) (defBody s_evaluate) (defScope s_evaluate) .none kV_evaluate dc_evaluate pm_evaluate an_evaluate cd_evaluate ct_evaluate), sl_evaluate⟩)
    (q_evaluate : PySem.W.codeIn K cd_evaluate "evaluate" = true)
    (k_evaluate : PySem.W.keepIn K (.ref f_evaluate) = true)
    (a_law_pot : PySem.W.nsIn K mainGlobals "_law_pot" = some (some (.ref f_law_pot)))
    (l_law_pot : K.lookup f_law_pot = some ⟨oc_law_pot, od_law_pot, .func (PySem.W.fnOf "_law_pot" "_law_pot" (defArgs s_law_pot) (defBody s_law_pot) (defScope s_law_pot) .none kV_law_pot dc_law_pot pm_law_pot an_law_pot cd_law_pot ct_law_pot), sl_law_pot⟩)
    (q_law_pot : PySem.W.codeIn K cd_law_pot "_law_pot" = true)
    (k_law_pot : PySem.W.keepIn K (.ref f_law_pot) = true)
    (a_law_next : PySem.W.nsIn K mainGlobals "_law_next" = some (some (.ref f_law_next)))
    (l_law_next : K.lookup f_law_next = some ⟨oc_law_next, od_law_next, .func (PySem.W.fnOf "_law_next" "_law_next" (defArgs s_law_next) (defBody s_law_next) (defScope s_law_next) .none kV_law_next dc_law_next pm_law_next an_law_next cd_law_next ct_law_next), sl_law_next⟩)
    (q_law_next : PySem.W.codeIn K cd_law_next "_law_next" = true)
    (k_law_next : PySem.W.keepIn K (.ref f_law_next) = true)
    (a_law_word : PySem.W.nsIn K mainGlobals "_law_word" = some (some (.ref f_law_word)))
    (l_law_word : K.lookup f_law_word = some ⟨oc_law_word, od_law_word, .func (PySem.W.fnOf "_law_word" "_law_word" (defArgs s_law_word) (defBody s_law_word) (defScope s_law_word) .none kV_law_word dc_law_word pm_law_word an_law_word cd_law_word ct_law_word), sl_law_word⟩)
    (q_law_word : PySem.W.codeIn K cd_law_word "_law_word" = true)
    (k_law_word : PySem.W.keepIn K (.ref f_law_word) = true)
    (a_law_words : PySem.W.nsIn K mainGlobals "_law_words" = some (some (.ref f_law_words)))
    (l_law_words : K.lookup f_law_words = some ⟨oc_law_words, od_law_words, .func (PySem.W.fnOf "_law_words" "_law_words" (defArgs s_law_words) (defBody s_law_words) (defScope s_law_words) .none kV_law_words dc_law_words pm_law_words an_law_words cd_law_words ct_law_words), sl_law_words⟩)
    (q_law_words : PySem.W.codeIn K cd_law_words "_law_words" = true)
    (k_law_words : PySem.W.keepIn K (.ref f_law_words) = true)
    (a_law_is_int : PySem.W.nsIn K mainGlobals "_law_is_int" = some (some (.ref f_law_is_int)))
    (l_law_is_int : K.lookup f_law_is_int = some ⟨oc_law_is_int, od_law_is_int, .func (PySem.W.fnOf "_law_is_int" "_law_is_int" (defArgs s_law_is_int) (defBody s_law_is_int) (defScope s_law_is_int) .none kV_law_is_int dc_law_is_int pm_law_is_int an_law_is_int cd_law_is_int ct_law_is_int), sl_law_is_int⟩)
    (q_law_is_int : PySem.W.codeIn K cd_law_is_int "_law_is_int" = true)
    (k_law_is_int : PySem.W.keepIn K (.ref f_law_is_int) = true)
    (a_law_is_normal : PySem.W.nsIn K mainGlobals "_law_is_normal" = some (some (.ref f_law_is_normal)))
    (l_law_is_normal : K.lookup f_law_is_normal = some ⟨oc_law_is_normal, od_law_is_normal, .func (PySem.W.fnOf "_law_is_normal" "_law_is_normal" (defArgs s_law_is_normal) (defBody s_law_is_normal) (defScope s_law_is_normal) .none kV_law_is_normal dc_law_is_normal pm_law_is_normal an_law_is_normal cd_law_is_normal ct_law_is_normal), sl_law_is_normal⟩)
    (q_law_is_normal : PySem.W.codeIn K cd_law_is_normal "_law_is_normal" = true)
    (k_law_is_normal : PySem.W.keepIn K (.ref f_law_is_normal) = true)
    (a_law_polynomial : PySem.W.nsIn K mainGlobals "_law_polynomial" = some (some (.ref f_law_polynomial)))
    (l_law_polynomial : K.lookup f_law_polynomial = some ⟨oc_law_polynomial, od_law_polynomial, .func (PySem.W.fnOf "_law_polynomial" "_law_polynomial" (defArgs s_law_polynomial) (defBody s_law_polynomial) (defScope s_law_polynomial) .none kV_law_polynomial dc_law_polynomial pm_law_polynomial an_law_polynomial cd_law_polynomial ct_law_polynomial), sl_law_polynomial⟩)
    (q_law_polynomial : PySem.W.codeIn K cd_law_polynomial "_law_polynomial" = true)
    (k_law_polynomial : PySem.W.keepIn K (.ref f_law_polynomial) = true)
    (a_law_horner : PySem.W.nsIn K mainGlobals "_law_horner" = some (some (.ref f_law_horner)))
    (l_law_horner : K.lookup f_law_horner = some ⟨oc_law_horner, od_law_horner, .func (PySem.W.fnOf "_law_horner" "_law_horner" (defArgs s_law_horner) (defBody s_law_horner) (defScope s_law_horner) .none kV_law_horner dc_law_horner pm_law_horner an_law_horner cd_law_horner ct_law_horner), sl_law_horner⟩)
    (q_law_horner : PySem.W.codeIn K cd_law_horner "_law_horner" = true)
    (k_law_horner : PySem.W.keepIn K (.ref f_law_horner) = true)
    (a_law : PySem.W.nsIn K mainGlobals "law" = some (some (.ref f_law)))
    (l_law : K.lookup f_law = some ⟨oc_law, od_law, .func (PySem.W.fnOf "law" "law" (defArgs s_law) (defBody s_law) (defScope s_law) .none kV_law dc_law pm_law an_law cd_law ct_law), sl_law⟩)
    (q_law : PySem.W.codeIn K cd_law "law" = true)
    (k_law : PySem.W.keepIn K (.ref f_law) = true)
    (a_PRIME : PySem.W.nsIn K mainGlobals "PRIME" = some (some (.int 65521 tk_PRIME)))
    (n_len : PySem.W.nsIn K mainGlobals "len" = some none)
    (n_max : PySem.W.nsIn K mainGlobals "max" = some none)
    (n_enumerate : PySem.W.nsIn K mainGlobals "enumerate" = some none)
    (n_reversed : PySem.W.nsIn K mainGlobals "reversed" = some none)
    (n_list : PySem.W.nsIn K mainGlobals "list" = some none)
    (n_int : PySem.W.nsIn K mainGlobals "int" = some none)
    (n_abs : PySem.W.nsIn K mainGlobals "abs" = some none)
    (n_range : PySem.W.nsIn K mainGlobals "range" = some none)
    (n_isinstance : PySem.W.nsIn K mainGlobals "isinstance" = some none)
    (n_bool : PySem.W.nsIn K mainGlobals "bool" = some none) :
    ∃ fd : FuncData, (∀ (s : Shared) (v : Value), BindsTo s fd ⟨[v], []⟩ [("script", v)]) ∧ ∀ base : Heap, K.In base → base.Ns mainGlobals mg → FnOk l.prog w K mg base CX0 5 fa fd ["script"] (sp_law0 K) := by
  have e := hfa.symm.trans (PySem.W.mg_of X G a_law)
  cases e
  have F_normal := fun_mk (st := s_normal) l_normal q_normal k_normal
  have d_normal := F_normal.binds (ps := ["numbers"]) fun _ _ _ _ _ _ us hl => match us, hl with | [_], _ => rfl
  have F_plus := fun_mk (st := s_plus) l_plus q_plus k_plus
  have d_plus := F_plus.binds (ps := ["first", "second"]) fun _ _ _ _ _ _ us hl => match us, hl with | [_, _], _ => rfl
  have F_times := fun_mk (st := s_times) l_times q_times k_times
  have d_times := F_times.binds (ps := ["first", "second"]) fun _ _ _ _ _ _ us hl => match us, hl with | [_, _], _ => rfl
  have F_evaluate := fun_mk (st := s_evaluate) l_evaluate q_evaluate k_evaluate
  have d_evaluate := F_evaluate.binds (ps := ["polynomial", "x"]) fun _ _ _ _ _ _ us hl => match us, hl with | [_, _], _ => rfl
  have F_law_pot := fun_mk (st := s_law_pot) l_law_pot q_law_pot k_law_pot
  have d_law_pot := F_law_pot.binds (ps := ["script"]) fun _ _ _ _ _ _ us hl => match us, hl with | [_], _ => rfl
  have F_law_next := fun_mk (st := s_law_next) l_law_next q_law_next k_law_next
  have d_law_next := F_law_next.binds (ps := ["pot", "limit"]) fun _ _ _ _ _ _ us hl => match us, hl with | [_, _], _ => rfl
  have F_law_word := fun_mk (st := s_law_word) l_law_word q_law_word k_law_word
  have d_law_word := F_law_word.binds (ps := ["pot"]) fun _ _ _ _ _ _ us hl => match us, hl with | [_], _ => rfl
  have F_law_words := fun_mk (st := s_law_words) l_law_words q_law_words k_law_words
  have d_law_words := F_law_words.binds (ps := ["pot", "count"]) fun _ _ _ _ _ _ us hl => match us, hl with | [_, _], _ => rfl
  have F_law_is_int := fun_mk (st := s_law_is_int) l_law_is_int q_law_is_int k_law_is_int
  have d_law_is_int := F_law_is_int.binds (ps := ["value"]) fun _ _ _ _ _ _ us hl => match us, hl with | [_], _ => rfl
  have F_law_is_normal := fun_mk (st := s_law_is_normal) l_law_is_normal q_law_is_normal k_law_is_normal
  have d_law_is_normal := F_law_is_normal.binds (ps := ["value"]) fun _ _ _ _ _ _ us hl => match us, hl with | [_], _ => rfl
  have F_law_polynomial := fun_mk (st := s_law_polynomial) l_law_polynomial q_law_polynomial k_law_polynomial
  have d_law_polynomial := F_law_polynomial.binds (ps := ["pot", "most"]) fun _ _ _ _ _ _ us hl => match us, hl with | [_, _], _ => rfl
  have F_law_horner := fun_mk (st := s_law_horner) l_law_horner q_law_horner k_law_horner
  have d_law_horner := F_law_horner.binds (ps := ["numbers", "x"]) fun _ _ _ _ _ _ us hl => match us, hl with | [_, _], _ => rfl
  have F_law := fun_mk (st := s_law) l_law q_law k_law
  have d_law := F_law.binds (ps := ["script"]) fun _ _ _ _ _ _ us hl => match us, hl with | [_], _ => rfl
  have T : Txt K mg ⟨f_normal, _, f_plus, _, f_times, _, f_evaluate, _, f_law_pot, _, f_law_next, _, f_law_word, _, f_law_words, _, f_law_is_int, _, f_law_is_normal, _, f_law_polynomial, _, f_law_horner, _, fa, _⟩ := {
    F_normal := F_normal, g_normal := PySem.W.mg_of X G a_normal, d_normal := d_normal,
    F_plus := F_plus, g_plus := PySem.W.mg_of X G a_plus, d_plus := d_plus,
    F_times := F_times, g_times := PySem.W.mg_of X G a_times, d_times := d_times,
    F_evaluate := F_evaluate, g_evaluate := PySem.W.mg_of X G a_evaluate, d_evaluate := d_evaluate,
    F_law_pot := F_law_pot, g_law_pot := PySem.W.mg_of X G a_law_pot, d_law_pot := d_law_pot,
    F_law_next := F_law_next, g_law_next := PySem.W.mg_of X G a_law_next, d_law_next := d_law_next,
    F_law_word := F_law_word, g_law_word := PySem.W.mg_of X G a_law_word, d_law_word := d_law_word,
    F_law_words := F_law_words, g_law_words := PySem.W.mg_of X G a_law_words, d_law_words := d_law_words,
    F_law_is_int := F_law_is_int, g_law_is_int := PySem.W.mg_of X G a_law_is_int, d_law_is_int := d_law_is_int,
    F_law_is_normal := F_law_is_normal, g_law_is_normal := PySem.W.mg_of X G a_law_is_normal, d_law_is_normal := d_law_is_normal,
    F_law_polynomial := F_law_polynomial, g_law_polynomial := PySem.W.mg_of X G a_law_polynomial, d_law_polynomial := d_law_polynomial,
    F_law_horner := F_law_horner, g_law_horner := PySem.W.mg_of X G a_law_horner, d_law_horner := d_law_horner,
    F_law := F_law, g_law := PySem.W.mg_of X G a_law, d_law := d_law,
    g_PRIME := ⟨_, PySem.W.mg_of X G a_PRIME, ⟨_, rfl⟩⟩,
    n_len := PySem.W.mg_none_of X G n_len,
    n_max := PySem.W.mg_none_of X G n_max,
    n_enumerate := PySem.W.mg_none_of X G n_enumerate,
    n_reversed := PySem.W.mg_none_of X G n_reversed,
    n_list := PySem.W.mg_none_of X G n_list,
    n_int := PySem.W.mg_none_of X G n_int,
    n_abs := PySem.W.mg_none_of X G n_abs,
    n_range := PySem.W.mg_none_of X G n_range,
    n_isinstance := PySem.W.mg_none_of X G n_isinstance,
    n_bool := PySem.W.mg_none_of X G n_bool }
  exact ⟨PySem.W.fnOf "law" "law" (defArgs s_law) (defBody s_law) (defScope s_law) .none kV_law dc_law pm_law an_law cd_law ct_law, fun s v => .of_eq rfl, fun base _ _ => (ok_law T).imp fun vs H Q E h => h⟩
theorem walk {l : PySem.W.OpenLaw} {q : Program} {loose : List Str} {XP : (Str → Option Value) → Heap → Prop} {YP : World → Heap → Prop} {d : DefRec} {K : Params → PySem.W.Frag} (hn : l.most = some 63) (hdf : d.params.defaults = [])
    (hY : ∀ (w : World) (h : Heap), YP w h → (K w.params).In h)
    (F : ∀ (w : World) (mg : Str → Option Value) (fa : Addr) (h : Heap), (K w.params).In h → h.Ns mainGlobals mg → mg d.name = some (.ref fa) →
      ∃ fd : FuncData, (∀ (s : Shared) (u : Value), BindsTo s fd ⟨[u], []⟩ [("script", u)]) ∧ ∀ base : Heap, (K w.params).In base → base.Ns mainGlobals mg → FnOk l.prog w (K w.params) mg base CX0 5 fa fd ["script"] (sp_law0 (K w.params))) :
    PySem.W.WalkO q loose XP YP l.row.toRowW d [] (fun f vs => PySem.call f vs) :=
  L2.walk_of (n := 63) (k := 5) (x := "script") (CX := fun _ => CX0) (sp := fun w => sp_law0 (K w.params)) hn (by decide) hdf ⟨rfl, by decide, by decide⟩ hY F (fun _ _ a ns hl _ hS => ⟨a, ns, rfl, hS, hl, fun _ => rfl⟩) fun _ _ _ _ _ z => z
end PP
open PySem PySem.W PyProof.Rows
set_option maxRecDepth 100000 in
set_option maxHeartbeats 0 in
theorem PySem.Challenge.cw_paritypool_k03_sums_and_products_holds : PySem.Challenge.rw_paritypool_k03_sums_and_products.Holds := by
  w_on; o_law; k_head; (case hw => w_witness2)
  k_fill
  refine PP.walk (l := PySem.Challenge.rw_paritypool_k03_sums_and_products) rfl rfl (fun w h Y => PySem.W.kIn_of Y) ?F
  case F =>
    intro w mg fa h KX G hmg
    refine' PP.all_mk KX G hmg ?a_normal ?l_normal ?q_normal ?k_normal ?a_plus ?l_plus ?q_plus ?k_plus ?a_times ?l_times ?q_times ?k_times ?a_evaluate ?l_evaluate ?q_evaluate ?k_evaluate ?a_law_pot ?l_law_pot ?q_law_pot ?k_law_pot ?a_law_next ?l_law_next ?q_law_next ?k_law_next ?a_law_word ?l_law_word ?q_law_word ?k_law_word ?a_law_words ?l_law_words ?q_law_words ?k_law_words ?a_law_is_int ?l_law_is_int ?q_law_is_int ?k_law_is_int ?a_law_is_normal ?l_law_is_normal ?q_law_is_normal ?k_law_is_normal ?a_law_polynomial ?l_law_polynomial ?q_law_polynomial ?k_law_polynomial ?a_law_horner ?l_law_horner ?q_law_horner ?k_law_horner ?a_law ?l_law ?q_law ?k_law ?a_PRIME ?n_len ?n_max ?n_enumerate ?n_reversed ?n_list ?n_int ?n_abs ?n_range ?n_isinstance ?n_bool
    (case a_normal => k_is)
    (case l_normal => k_is)
    (case q_normal => k_is)
    (case k_normal => k_is)
    (case a_plus => k_is)
    (case l_plus => k_is)
    (case q_plus => k_is)
    (case k_plus => k_is)
    (case a_times => k_is)
    (case l_times => k_is)
    (case q_times => k_is)
    (case k_times => k_is)
    (case a_evaluate => k_is)
    (case l_evaluate => k_is)
    (case q_evaluate => k_is)
    (case k_evaluate => k_is)
    (case a_law_pot => k_is)
    (case l_law_pot => k_is)
    (case q_law_pot => k_is)
    (case k_law_pot => k_is)
    (case a_law_next => k_is)
    (case l_law_next => k_is)
    (case q_law_next => k_is)
    (case k_law_next => k_is)
    (case a_law_word => k_is)
    (case l_law_word => k_is)
    (case q_law_word => k_is)
    (case k_law_word => k_is)
    (case a_law_words => k_is)
    (case l_law_words => k_is)
    (case q_law_words => k_is)
    (case k_law_words => k_is)
    (case a_law_is_int => k_is)
    (case l_law_is_int => k_is)
    (case q_law_is_int => k_is)
    (case k_law_is_int => k_is)
    (case a_law_is_normal => k_is)
    (case l_law_is_normal => k_is)
    (case q_law_is_normal => k_is)
    (case k_law_is_normal => k_is)
    (case a_law_polynomial => k_is)
    (case l_law_polynomial => k_is)
    (case q_law_polynomial => k_is)
    (case k_law_polynomial => k_is)
    (case a_law_horner => k_is)
    (case l_law_horner => k_is)
    (case q_law_horner => k_is)
    (case k_law_horner => k_is)
    (case a_law => k_is)
    (case l_law => k_is)
    (case q_law => k_is)
    (case k_law => k_is)
    (case a_PRIME => k_is)
    (case n_len => k_is)
    (case n_max => k_is)
    (case n_enumerate => k_is)
    (case n_reversed => k_is)
    (case n_list => k_is)
    (case n_int => k_is)
    (case n_abs => k_is)
    (case n_range => k_is)
    (case n_isinstance => k_is)
    (case n_bool => k_is)
