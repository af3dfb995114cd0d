import PyProof.Rows.All
import Wide.All
import OpenK.AllK
import Wide.FinOn
import HandS.ForMost
import HandS.ForExc
import HandS.ExcIs
import HandS.IsInst
import HandS.Evl
import HandS.Walk
import HandS.More
import HandS.Wide
import HandS.DictComp
import HandS.Text
import PySem.Challenge.RW_paritypool_k16_space
set_option Elab.async false
set_option linter.all false
set_option maxRecDepth 100000
set_option maxHeartbeats 2000000
/-! a method of one's own, called in a try -/
namespace L2
open PySem PySem.Spec PyProof.Rows
section
variable {X : Cx} {CX : CXT} {k : Nat} {f C : Addr} {fd : FuncData} {ps : List Str} {sp : Sp}
variable {E : St → XK} {m : Str} {pos apos : Pos} {e o : Expr} {es : List Expr} {ta : TE} {t : TA}
def tMethT (C : Addr) (m : Str) (sp : Sp) (E : St → XK) (ta : TE) (t : TA) : TE := fun σ H Q =>
  ta σ H fun x H1 => ∃ a dx fs, x = .ref a ∧ H1 a = some (.ins C dx fs) ∧ fs.lookup m = none ∧
    t σ H1 fun vs H2 => sp (x :: vs) H2 Q (E σ)
theorem pe_methT {pl : Sem Bool} (he : PE X o ta) (c : Cls X.K C) (hm : Meth X.K C m f)
    (F : FnOk X.prog X.w X.K X.mg X.base CX k f fd ps sp) (hr : Room k X.A) (hb : Binds X.K fd ps [])
    (hx : ∀ σ, PassesAt CX X σ (E σ)) (ha : PA X (e :: es) t)
    (hst : starEach (e :: es) X.env = (false, eval e X.env) :: starEach es X.env := by rfl)
    (hpl : (backTo pos (starEach es X.env)).any (·.1) = false := by rfl)
    (ht : eval (.Call (.Attribute o m apos) (e :: es) [] pos) X.env = (do
        let ov ← eval o X.env
        standAt apos.atName
        let (g, first) ← holding [ov] (getMethod ov m pl)
        callWith pos g first (backTo pos (starEach (e :: es) X.env)) (backToKw pos (keywordEach [] X.env))) := by rfl) :
    PE X (.Call (.Attribute o m apos) (e :: es) [] pos) (tMethT C m sp E ta t) := by
  refine ⟨fun pins s σ H Q I h => PySem.W.methodCall_KW (pl := pl) (thn (he.run pins s σ H _ I h) ?_) ht⟩
  rintro u s1 ⟨x, H1, I1, rx, a, dx, fs, rfl, ea, l, q⟩
  cases (show u = Value.ref a from rx)
  refine getmeth_ok I1 ea c hm l (PySem.W.callWith_K (first := [.ref a]) (h₀ := X.base) I.ok.mod.kin hm.kp ?_ hst hpl)
  refine thn (ha.run pos pins s1 σ H1 _ I1 q) fun us s2 ⟨vs, H2, I2, r, q2⟩ => ⟨I2.kIn, ?_⟩
  exact run_fnS (us := .ref a :: us) (vs := .ref a :: vs) F hr hb (hx σ) I2 (.cons rfl r) q2
theorem pe_methT0 {pl : Sem Bool} (he : PE X o ta) (c : Cls X.K C) (hm : Meth X.K C m f)
    (F : FnOk X.prog X.w X.K X.mg X.base CX k f fd ps sp) (hr : Room k X.A) (hb : Binds X.K fd ps [])
    (hx : ∀ σ, PassesAt CX X σ (E σ))
    (ht : eval (.Call (.Attribute o m apos) [] [] pos) X.env = (do
        let ov ← eval o X.env
        standAt apos.atName
        let (g, first) ← holding [ov] (getMethod ov m pl)
        callWith pos g first (backTo pos (starEach [] X.env)) (backToKw pos (keywordEach [] X.env))) := by rfl) :
    PE X (.Call (.Attribute o m apos) [] [] pos) (tMethT C m sp E ta tNil) := by
  refine ⟨fun pins s σ H Q I h => PySem.W.methodCall_KW (pl := pl) (thn (he.run pins s σ H _ I h) ?_) ht⟩
  rintro u s1 ⟨x, H1, I1, rx, a, dx, fs, rfl, ea, l, q⟩
  cases (show u = Value.ref a from rx)
  refine getmeth_ok I1 ea c hm l (PySem.W.callWith_K0 (first := [.ref a]) I1.kIn hm.kp ?_)
  exact run_fnS (us := [.ref a]) (vs := [.ref a]) F hr hb (hx σ) I1 (.cons rfl .nil) q
end
end L2
namespace PP
open PySem L2
def top (i : Nat) : Stmt := (PySem.Challenge.pw_paritypool_k16_space).main.body.getD i (.Pass ⟨0, 0, 0, 0⟩)
abbrev s_law_pot : Stmt := top 10
abbrev s_law_next : Stmt := top 11
abbrev s_law_is_int : Stmt := top 12
abbrev s_law_take : Stmt := top 13
abbrev s_law_claim : Stmt := top 14
abbrev s_law_give : Stmt := top 15
abbrev s_law_looks_right : Stmt := top 16
abbrev s_law_step : Stmt := top 17
abbrev s_law : Stmt := top 18
abbrev s_Space_init : Stmt := inClass (top 8) 0
abbrev s_Space_take : Stmt := inClass (top 8) 1
abbrev s_Space_claim : Stmt := inClass (top 8) 2
abbrev s_Space_give : Stmt := inClass (top 8) 3
abbrev s_Space_settle : Stmt := inClass (top 8) 4
abbrev s_Space_is_free : Stmt := inClass (top 8) 5
abbrev s_Space_free_count : Stmt := inClass (top 8) 6
abbrev s_Space_used_rows : Stmt := inClass (top 8) 7
abbrev s_Space_waiting_rows : Stmt := inClass (top 8) 8
/-! small rules of one's own -/
section
variable {X : Cx}
theorem pe_const {x : Str} {v : V} {pos : Pos} (h : ∃ u, X.mg x = some u ∧ RelV v u) (hg : Gl X x := by rfl) (hd : (x == ("__debug__" : Str)) = false := by decide) : PE X (.Name x pos) (tC v) := by
  obtain ⟨u, h1, h2⟩ := h
  exact pe_glob hg h1 h2 hd
/-- isinstance of a caught error, whatever class the clause has caught -/
theorem call_isE' {a : Addr} {cls : Value} {d : Option Addr} {oe : Obj} {pn : List (Addr × Obj)} (hz : Zc cls d oe) (hf : ∃ vs, oe.data = .fields vs) :
    CallR (X.suite a ((a, oe) :: pn)) (.builtin "isinstance") (fun xs H Q => ∃ D, cls = .ref D ∧ d = none ∧ ExcC X.K D ∧ rIsE X.K D a xs H Q) := by
  intro pins s σ H xs us Q I r h
  obtain ⟨D, rfl, rfl, C, h⟩ := h
  exact call_isE C hz hf pins s σ H xs us Q I r h
end
/-- all but p is as it was, what is free too -/
def Only (p : Addr) (H H' : Hp) : Prop := ∀ b, b ≠ p → H' b = H b
theorem Only.upd {p : Addr} {H : Hp} {o : HO} : Only p H (upd H p o) := fun _ h => upd_ne h
theorem Only.refl {p : Addr} {H : Hp} : Only p H H := fun _ _ => rfl
theorem Only.trans {p : Addr} {H H1 H2 : Hp} (x : Only p H H1) (y : Only p H1 H2) : Only p H H2 := fun b h => (y b h).trans (x b h)
/-! which class is asked of a caught error -/
theorem kit_self {K : PySem.W.Frag} {c : Value} : PySem.W.kitOne K c c = some true := by
  unfold PySem.W.kitOne
  rw [if_pos (by simp)]
theorem kit_type {K : PySem.W.Frag} {D : Addr} {n : String} {b : Bool} (m : PySem.W.kitMeta n = true) (h : PySem.W.subIn K (.ref D) (.type n) = some b) : PySem.W.kitOne K (.ref D) (.type n) = some b := by
  unfold PySem.W.kitOne
  rw [if_neg (by intro z; cases (beq_iff_eq.mp z))]
  show (if PySem.W.kitMeta n = true then PySem.W.subIn K (.ref D) (.type n) else none) = some b
  rw [if_pos m]
  exact h
theorem kit_cls_of {K : PySem.W.Frag} {C : Addr} {t : Value} {b : Bool} (hd : PySem.W.hasDictIn K C = true) (ht : PySem.W.typeIn K (.ref C) = some (.type "type")) (h : PySem.W.subIn K t (.ref C) = some b) : PySem.W.kitCls K t (.ref C) = some b := by
  obtain ⟨cd, hc, _⟩ := PySem.W.any_some hd
  show (if ((PySem.W.clsIn K C).isSome && PySem.W.typeIn K (.ref C) == some (.type "type")) = true then PySem.W.subIn K t (.ref C) else none) = some b
  rw [if_pos (by rw [hc, ht]; rfl)]
  exact h
theorem kit_yes {K : PySem.W.Frag} {C D : Addr} (hd : PySem.W.hasDictIn K C = true) (ht : PySem.W.typeIn K (.ref C) = some (.type "type")) (h : PySem.W.subIn K (.ref D) (.ref C) = some true) : PySem.W.kitOne K (.ref D) (.ref C) = some true := by
  unfold PySem.W.kitOne
  split
  · rfl
  · exact kit_cls_of hd ht h
theorem kit_no {K : PySem.W.Frag} {C D : Addr} (hd : PySem.W.hasDictIn K C = true) (ht : PySem.W.typeIn K (.ref C) = some (.type "type")) (h : PySem.W.subIn K (.ref D) (.ref C) = some false) (hs : PySem.W.subIn K (.ref D) (.ref D) = some true) : PySem.W.kitOne K (.ref D) (.ref C) = some false := by
  unfold PySem.W.kitOne
  split
  · rename_i z
    have e : D = C := by
      have := beq_iff_eq.mp z
      injection this
    rw [← e] at h
    rw [h] at hs
    cases hs
  · exact kit_cls_of hd ht h
/-- len of a list or tuple; list of one -/
abbrev rLenS (K : PySem.W.Frag) := Evl.rLenS K
abbrev rListOf (K : PySem.W.Frag) := Evl.rListS K
/-! the prime, the inverse -/
theorem no_div (d : Nat) (h1 : 2 ≤ d) (h2 : d ≤ 255) : ¬ d ∣ 65521 := by
  intro h
  have e : 65521 % d = 0 := Nat.mod_eq_zero_of_dvd h
  have key : ∀ d : Fin 256, 2 ≤ d.val → ¬ 65521 % d.val = 0 := by decide +kernel
  exact key ⟨d, by omega⟩ h1 e
theorem prime_q (d : Nat) (h : d ∣ 65521) : d = 1 ∨ d = 65521 := by
  obtain ⟨e, he⟩ := h
  by_cases a : d ≤ 255
  · by_cases b : 2 ≤ d
    · exact absurd ⟨e, he⟩ (no_div d b a)
    · have : d ≠ 0 := by rintro rfl; omega
      omega
  · by_cases b : 2 ≤ e
    · by_cases c : e ≤ 255
      · exact absurd ⟨d, by rw [Nat.mul_comm]; exact he⟩ (no_div e b c)
      · have h1 : 256 * 256 ≤ d * e := Nat.mul_le_mul (by omega) (by omega)
        omega
    · have : e ≠ 0 := by rintro rfl; omega
      have e1 : e = 1 := by omega
      subst e1
      omega
theorem gcd_q (x : Int) (h : x % 65521 ≠ 0) : Int.gcd 65521 (x % 65521) = 1 := by
  have d1 : (Int.gcd 65521 (x % 65521) : Nat) ∣ 65521 := by
    have := Int.gcd_dvd_left (65521 : Int) (x % 65521)
    have h2 : ((Int.gcd 65521 (x % 65521) : Nat) : Int) ∣ ((65521 : Nat) : Int) := this
    exact Int.natCast_dvd_natCast.mp h2
  rcases prime_q _ d1 with e | e
  · exact e
  · exfalso
    have d2 := Int.gcd_dvd_right (65521 : Int) (x % 65521)
    rw [e] at d2
    obtain ⟨c, hc⟩ := d2
    have e2 : ((65521 : Nat) : Int) = 65521 := rfl
    rw [e2] at hc
    have p1 := Int.emod_nonneg x (show (65521 : Int) ≠ 0 by decide)
    have p2 := Int.emod_lt_of_pos x (show (0 : Int) < 65521 by decide)
    omega
theorem gcd_turn {n m : Int} (h : Int.gcd n m = 1) : Int.gcd m (n - n / m * m) = 1 := by
  rw [Int.gcd_sub_mul_right_right, Int.gcd_comm]
  exact h
/-- the inverse of a word, by what it is -/
noncomputable def invP (x : Int) : Int := open Classical in if h : ∃ b : Int, 0 ≤ b ∧ b < 65521 ∧ x * b % 65521 = 1 then h.choose else 0
theorem inv_unique {x b c : Int} (hb : 0 ≤ b ∧ b < 65521 ∧ x * b % 65521 = 1) (hc : 0 ≤ c ∧ c < 65521 ∧ x * c % 65521 = 1) : b = c := by
  have e1 : b * (x * c) % 65521 = b := by
    rw [Int.mul_emod, hc.2.2, Int.mul_one, Int.emod_emod_of_dvd _ (Int.dvd_refl _), Int.emod_eq_of_lt hb.1 hb.2.1]
  have e2 : c * (x * b) % 65521 = c := by
    rw [Int.mul_emod, hb.2.2, Int.mul_one, Int.emod_emod_of_dvd _ (Int.dvd_refl _), Int.emod_eq_of_lt hc.1 hc.2.1]
  have e3 : b * (x * c) = c * (x * b) := by grind
  rw [← e1, e3, e2]
theorem invP_eq {x b : Int} (h : 0 ≤ b ∧ b < 65521 ∧ x * b % 65521 = 1) : invP x = b := by
  have hx : ∃ b : Int, 0 ≤ b ∧ b < 65521 ∧ x * b % 65521 = 1 := ⟨b, h⟩
  unfold invP
  rw [dif_pos hx]
  exact inv_unique hx.choose_spec h
/-- one turn of Euclid's algorithm -/
theorem euclid_turn {x n m f g : Int} (h1 : (x * f - n) % 65521 = 0) (h2 : (x * g - m) % 65521 = 0) : (x * (f - n / m * g) - (n - n / m * m)) % 65521 = 0 := by
  have e : x * (f - n / m * g) - (n - n / m * m) = (x * f - n) - n / m * (x * g - m) := by grind
  rw [e, Int.sub_emod, h1, Int.mul_emod, h2, Int.mul_zero]
  rfl
theorem euclid_end {x f : Int} (h : (x * f - 1) % 65521 = 0) : 0 ≤ f % 65521 ∧ f % 65521 < 65521 ∧ x * (f % 65521) % 65521 = 1 := by
  refine ⟨Int.emod_nonneg _ (by decide), Int.emod_lt_of_pos _ (by decide), ?_⟩
  have e : x * (f % 65521) % 65521 = x * f % 65521 := by rw [Int.mul_emod, Int.emod_emod_of_dvd _ (Int.dvd_refl _), ← Int.mul_emod]
  rw [e]
  omega
/-- the inverse exists (Euclid, run in the mathematics) -/
theorem inv_ex : ∀ (k : Nat) (x n m f g : Int), m.toNat ≤ k → 0 ≤ m → 0 < n → (x * f - n) % 65521 = 0 → (x * g - m) % 65521 = 0 → Int.gcd n m = 1 → ∃ b : Int, 0 ≤ b ∧ b < 65521 ∧ x * b % 65521 = 1
  | k, x, n, m, f, g, hk, hm, hn, h1, h2, hg => by
    by_cases e : m = 0
    · subst e
      have : n = 1 := by
        rw [Int.gcd_zero_right] at hg
        omega
      subst this
      exact ⟨_, euclid_end h1⟩
    · have hm' : 0 < m := by omega
      match k, hk with
      | 0, hk => omega
      | k + 1, hk =>
        have r : n - n / m * m = n % m := by
          have := Int.mul_ediv_add_emod n m
          rw [Int.mul_comm] at this
          omega
        have r1 := Int.emod_nonneg n (show m ≠ 0 by omega)
        have r2 := Int.emod_lt_of_pos n hm'
        exact inv_ex k x m (n - n / m * m) g (f - n / m * g) (by omega) (by omega) hm' h2 (euclid_turn h1 h2) (gcd_turn hg)
theorem invP_spec {x : Int} (h : x % 65521 ≠ 0) : 0 ≤ invP x ∧ invP x < 65521 ∧ x * invP x % 65521 = 1 := by
  have p1 := Int.emod_nonneg x (show (65521 : Int) ≠ 0 by decide)
  obtain ⟨b, hb⟩ := inv_ex (x % 65521).toNat x 65521 (x % 65521) 0 1 (Nat.le_refl _) p1 (by decide) (by omega) (by omega) (gcd_q x h)
  rw [invP_eq hb]
  exact hb
/-! the field of words -/
def Zp : Type := Fin 65521
instance : Lean.Grind.CommRing Zp := inferInstanceAs (Lean.Grind.CommRing (Fin 65521))
instance : Lean.Grind.IsCharP Zp 65521 := inferInstanceAs (Lean.Grind.IsCharP (Fin 65521) 65521)
instance : DecidableEq Zp := inferInstanceAs (DecidableEq (Fin 65521))
def z (n : Int) : Zp := Lean.Grind.Ring.intCast.intCast n
theorem z_eq {a b : Int} : z a = z b ↔ a % 65521 = b % 65521 := Lean.Grind.IsCharP.intCast_ext_iff (α := Zp) 65521
theorem z_mod (a : Int) : z (a % 65521) = z a := z_eq.mpr (Int.emod_emod_of_dvd _ (Int.dvd_refl _))
theorem z_add (a b : Int) : z (a + b) = z a + z b := Lean.Grind.Ring.intCast_add a b
theorem z_sub (a b : Int) : z (a - b) = z a - z b := Lean.Grind.Ring.intCast_sub a b
theorem z_mul (a b : Int) : z (a * b) = z a * z b := Lean.Grind.Ring.intCast_mul a b
theorem z_neg (a : Int) : z (-a) = -z a := Lean.Grind.Ring.intCast_neg a
theorem z_zero : z 0 = 0 := Lean.Grind.Ring.intCast_zero
theorem z_one : z 1 = 1 := Lean.Grind.Ring.intCast_one
theorem z_z (a : Int) : z a = 0 ↔ a % 65521 = 0 := by
  rw [← z_zero, z_eq]
  rfl
theorem z_inj {a b : Int} (ha : 0 ≤ a) (ha' : a < 65521) (hb : 0 ≤ b) (hb' : b < 65521) (h : z a = z b) : a = b := by
  have := z_eq.mp h
  rw [Int.emod_eq_of_lt ha ha', Int.emod_eq_of_lt hb hb'] at this
  exact this
theorem z_mod_eq {a b : Int} (h : z a = z b) : a % 65521 = b % 65521 := z_eq.mp h
theorem z_surj (x : Zp) : ∃ n : Int, 0 ≤ n ∧ n < 65521 ∧ z n = x := by
  refine ⟨((show Fin 65521 from x).val : Int), by omega, by omega, ?_⟩
  show (Fin.intCast ((show Fin 65521 from x).val : Int) : Fin 65521) = x
  unfold Fin.intCast
  rw [if_pos (by omega), Int.natAbs_natCast]
  exact Fin.ofNat_val_eq_self _
theorem z_invP {n : Int} (h : z n ≠ 0) : z n * z (invP n) = 1 := by
  have h' : n % 65521 ≠ 0 := fun e => h ((z_z n).mpr e)
  obtain ⟨b0, b1, b2⟩ := invP_spec h'
  rw [← z_mul, ← z_one, z_eq]
  exact b2
theorem zp_inv {a : Zp} (h : a ≠ 0) : ∃ b : Zp, a * b = 1 := by
  obtain ⟨n, _, _, rfl⟩ := z_surj a
  exact ⟨_, z_invP h⟩
theorem zp_div {a b : Zp} (h : a * b = 0) : a = 0 ∨ b = 0 := by
  by_cases ha : a = 0
  · exact .inl ha
  · obtain ⟨c, hc⟩ := zp_inv ha
    right
    have : b = c * (a * b) := by grind
    rw [this, h]
    grind
theorem zp_01 : (1 : Zp) ≠ 0 := by
  rw [← z_one, ← z_zero]
  intro h
  have := z_eq.mp h
  omega
theorem zp_mul_ne {a b : Zp} (ha : a ≠ 0) (hb : b ≠ 0) : a * b ≠ 0 := fun h => (zp_div h).elim ha hb
/-! ### functions that are polynomials with n coefficients -/
def Pol : Nat → (Zp → Zp) → Prop
  | 0, f => ∀ x, f x = 0
  | n + 1, f => ∃ (c : Zp) (g : Zp → Zp), Pol n g ∧ ∀ x, f x = c + x * g x
theorem Pol.ext : ∀ {n : Nat} {f g : Zp → Zp}, Pol n f → (∀ x, g x = f x) → Pol n g
  | 0, _, _, h, e => fun x => (e x).trans (h x)
  | _ + 1, _, _, ⟨c, g, h, q⟩, e => ⟨c, g, h, fun x => (e x).trans (q x)⟩
theorem pol_nil : ∀ n : Nat, Pol n fun _ => 0
  | 0 => fun _ => rfl
  | n + 1 => ⟨0, fun _ => 0, pol_nil n, fun x => by grind⟩
theorem Pol.up : ∀ {n : Nat} {f : Zp → Zp}, Pol n f → Pol (n + 1) f
  | 0, f, h => ⟨0, fun _ => 0, fun _ => rfl, fun x => by rw [h x]; grind⟩
  | n + 1, _, ⟨c, g, h, q⟩ => ⟨c, g, h.up, q⟩
theorem Pol.mono {n m : Nat} {f : Zp → Zp} (h : Pol n f) (l : n ≤ m) : Pol m f := by
  induction l with
  | refl => exact h
  | step _ ih => exact ih.up
theorem Pol.add : ∀ {n : Nat} {f g : Zp → Zp}, Pol n f → Pol n g → Pol n fun x => f x + g x
  | 0, f, g, h, k => fun x => by show f x + g x = 0; rw [h x, k x]; grind
  | n + 1, f, g, ⟨c, u, h, p⟩, ⟨d, v, k, q⟩ => ⟨c + d, fun x => u x + v x, Pol.add h k, fun x => by show f x + g x = _; rw [p x, q x]; grind⟩
theorem Pol.smul : ∀ {n : Nat} {f : Zp → Zp} (a : Zp), Pol n f → Pol n fun x => f x * a
  | 0, f, a, h => fun x => by show f x * a = 0; rw [h x]; grind
  | n + 1, f, a, ⟨c, u, h, p⟩ => ⟨c * a, fun x => u x * a, Pol.smul a h, fun x => by show f x * a = _; rw [p x]; grind⟩
theorem Pol.const (c : Zp) : Pol 1 fun _ => c := ⟨c, fun _ => 0, fun _ => rfl, fun x => by grind⟩
theorem Pol.xmul {n : Nat} {f : Zp → Zp} (h : Pol n f) : Pol (n + 1) fun x => x * f x := ⟨0, f, h, fun x => by grind⟩
theorem Pol.lin {n : Nat} {f : Zp → Zp} (a : Zp) (h : Pol n f) : Pol (n + 1) fun x => (x - a) * f x :=
  (h.xmul.add (h.up.smul (-a))).ext fun x => by grind
theorem Pol.sub {n : Nat} {f g : Zp → Zp} (h : Pol n f) (k : Pol n g) : Pol n fun x => f x - g x :=
  (h.add (k.smul (-1))).ext fun x => by grind
/-- a polynomial less its value at a is a multiple of x - a -/
theorem Pol.at : ∀ {n : Nat} {f : Zp → Zp} (a : Zp), Pol (n + 1) f → ∃ g, Pol n g ∧ ∀ x, f x = f a + (x - a) * g x
  | 0, f, a, ⟨c, g, h, q⟩ => ⟨fun _ => 0, fun _ => rfl, fun x => by rw [q x, q a, h x, h a]; grind⟩
  | n + 1, f, a, ⟨c, g, h, q⟩ => by
    obtain ⟨k, hk, e⟩ := Pol.at a h
    refine ⟨fun x => g a + x * k x, ⟨g a, k, hk, fun _ => rfl⟩, fun x => ?_⟩
    have e1 := e x
    rw [q x, q a]
    grind
/-- as many zeros as coefficients: it is zero -/
theorem Pol.roots : ∀ {n : Nat} {f : Zp → Zp} (xs : List Zp), Pol n f → xs.Nodup → n ≤ xs.length → (∀ a ∈ xs, f a = 0) → ∀ x, f x = 0
  | 0, _, _, h, _, _, _ => h
  | n + 1, f, [], _, _, hl, _ => absurd hl (by simp)
  | n + 1, f, a :: r, h, hn, hl, hz => by
    obtain ⟨g, hg, e⟩ := Pol.at a h
    have ha : f a = 0 := hz a (by simp)
    have hn' := List.nodup_cons.mp hn
    have g0 : ∀ x, g x = 0 := Pol.roots r hg hn'.2 (by simpa using hl) fun b hb => by
      have hb0 := hz b (List.mem_cons_of_mem _ hb)
      rw [e b, ha] at hb0
      have : (b - a) * g b = 0 := by grind
      rcases zp_div this with q | q
      · exfalso
        have : b = a := by grind
        exact hn'.1 (this ▸ hb)
      · exact q
    intro x
    rw [e x, ha, g0 x]
    grind
/-! ### products of differences -/
def prodZ : List Int → Zp → Zp
  | [], _ => 1
  | o :: os, x => (x - z o) * prodZ os x
theorem prodZ_pol : ∀ os : List Int, Pol (os.length + 1) (prodZ os)
  | [] => (Pol.const 1).ext fun _ => rfl
  | o :: os => (Pol.lin (z o) (prodZ_pol os)).ext fun _ => rfl
theorem prodZ_root {o : Int} {x : Zp} : ∀ {os : List Int}, o ∈ os → x = z o → prodZ os x = 0
  | [], h, _ => by simp at h
  | p :: os, h, e => by
    show (x - z p) * prodZ os x = 0
    rcases List.mem_cons.mp h with q | q
    · rw [e, q]
      grind
    · rw [prodZ_root q e]
      grind
theorem prodZ_ne {x : Zp} : ∀ {os : List Int}, (∀ o ∈ os, x ≠ z o) → prodZ os x ≠ 0
  | [], _ => zp_01
  | p :: os, h => by
    refine zp_mul_ne (fun e => h p (by simp) ?_) (prodZ_ne fun o ho => h o (List.mem_cons_of_mem _ ho))
    grind
/-- as the program multiplies -/
def prodM (os : List Int) (x acc : Int) : Int := os.foldl (fun acc o => acc * (x - o) % 65521) acc
theorem prodM_z : ∀ (os : List Int) (x acc : Int), z (prodM os x acc) = z acc * prodZ os (z x)
  | [], x, acc => by
    show z acc = z acc * 1
    grind
  | o :: os, x, acc => by
    show z (prodM os x (acc * (x - o) % 65521)) = z acc * ((z x - z o) * prodZ os (z x))
    rw [prodM_z os x, z_mod, z_mul, z_sub]
    grind
theorem prodM_word : ∀ (os : List Int) (x acc : Int), 0 ≤ acc → acc < 65521 → 0 ≤ prodM os x acc ∧ prodM os x acc < 65521
  | [], _, _, h0, h1 => ⟨h0, h1⟩
  | o :: os, x, acc, _, _ => prodM_word os x _ (Int.emod_nonneg _ (by decide)) (Int.emod_lt_of_pos _ (by decide))
theorem prodM_snoc (os : List Int) (o x acc : Int) : prodM (os ++ [o]) x acc = prodM os x acc * (x - o) % 65521 := by
  unfold prodM
  rw [List.foldl_append]
  rfl
/-- a place's factor -/
noncomputable def wgt (p : Int) (os : List Int) (x : Int) : Int := prodM os x 1 * invP (prodM os p 1) % 65521
theorem wgt_word (p : Int) (os : List Int) (x : Int) : 0 ≤ wgt p os x ∧ wgt p os x < 65521 := ⟨Int.emod_nonneg _ (by decide), Int.emod_lt_of_pos _ (by decide)⟩
theorem wgt_z (p : Int) (os : List Int) (x : Int) : z (wgt p os x) = prodZ os (z x) * z (invP (prodM os p 1)) := by
  unfold wgt
  rw [z_mod, z_mul, prodM_z, z_one]
  grind
theorem wgt_ok {p : Int} {os : List Int} (h : ∀ o ∈ os, z p ≠ z o) : prodM os p 1 % 65521 ≠ 0 := fun e => by
  have := (z_z _).mpr e
  rw [prodM_z, z_one] at this
  refine prodZ_ne h ?_
  grind
/-- all places but the i-th -/
def others (ws : List Int) (i : Nat) : List Int := ws.take i ++ ws.drop (i + 1)
noncomputable def weightsM (ws : List Int) (x : Int) : List Int := (List.range ws.length).map fun i => wgt (ws.getD i 0) (others ws i) x
theorem weightsM_length (ws : List Int) (x : Int) : (weightsM ws x).length = ws.length := by simp [weightsM]
theorem weightsM_get {ws : List Int} {x : Int} {i : Nat} (h : i < ws.length) : (weightsM ws x)[i]? = some (wgt (ws.getD i 0) (others ws i) x) := by
  unfold weightsM
  rw [List.getElem?_map, List.getElem?_range h]
  rfl
/-- no two places are equal modulo the prime -/
def Apart (ws : List Int) : Prop := (ws.map z).Nodup
theorem apart_ne {ws : List Int} (h : Apart ws) {i j : Nat} (hi : i < ws.length) (hj : j < ws.length) (n : i ≠ j) : z (ws.getD i 0) ≠ z (ws.getD j 0) := fun e => by
  refine n ((List.getElem_inj (xs := ws.map z) (h₀ := by simpa using hi) (h₁ := by simpa using hj) h).mp ?_)
  rw [List.getElem_map, List.getElem_map]
  simpa [List.getD_eq_getElem?_getD, hi, hj] using e
theorem mem_others {ws : List Int} {i : Nat} {o : Int} : o ∈ others ws i ↔ ∃ j, j < ws.length ∧ j ≠ i ∧ o = ws.getD j 0 := by
  unfold others
  rw [List.mem_append, List.mem_iff_getElem?, List.mem_iff_getElem?]
  constructor
  · rintro (⟨j, h⟩ | ⟨j, h⟩)
    · rw [List.getElem?_take] at h
      by_cases c : j < i
      · rw [if_pos c] at h
        obtain ⟨hl, e⟩ := List.getElem?_eq_some_iff.mp h
        exact ⟨j, hl, by omega, by simp [List.getD_eq_getElem?_getD, hl, e]⟩
      · rw [if_neg c] at h
        cases h
    · rw [List.getElem?_drop] at h
      obtain ⟨hl, e⟩ := List.getElem?_eq_some_iff.mp h
      exact ⟨_, hl, by omega, by simp [List.getD_eq_getElem?_getD, hl, e]⟩
  · rintro ⟨j, hl, n, rfl⟩
    by_cases c : j < i
    · exact .inl ⟨j, by rw [List.getElem?_take, if_pos c, List.getElem?_eq_getElem hl]; simp [List.getD_eq_getElem?_getD, hl]⟩
    · refine .inr ⟨j - (i + 1), ?_⟩
      rw [List.getElem?_drop, show i + 1 + (j - (i + 1)) = j by omega, List.getElem?_eq_getElem hl]
      simp [List.getD_eq_getElem?_getD, hl]
theorem others_length {ws : List Int} {i : Nat} (h : i < ws.length) : (others ws i).length + 1 = ws.length := by
  unfold others
  rw [List.length_append, List.length_take, List.length_drop]
  omega
theorem others_apart {ws : List Int} (h : Apart ws) {i : Nat} (hi : i < ws.length) : ∀ o ∈ others ws i, z (ws.getD i 0) ≠ z o := fun o ho => by
  obtain ⟨j, hl, n, rfl⟩ := mem_others.mp ho
  exact apart_ne h hi hl (Ne.symm n)
/-! ### sums -/
def sumR : Nat → (Nat → Zp) → Zp
  | 0, _ => 0
  | n + 1, g => sumR n g + g n
theorem sumR_ext : ∀ {n : Nat} {f g : Nat → Zp}, (∀ i, i < n → f i = g i) → sumR n f = sumR n g
  | 0, _, _, _ => rfl
  | n + 1, f, g, h => by
    show sumR n f + f n = sumR n g + g n
    rw [sumR_ext fun i hi => h i (by omega), h n (by omega)]
theorem sumR_zero : ∀ {n : Nat} {f : Nat → Zp}, (∀ i, i < n → f i = 0) → sumR n f = 0
  | 0, _, _ => rfl
  | n + 1, f, h => by
    show sumR n f + f n = 0
    rw [sumR_zero fun i hi => h i (by omega), h n (by omega)]
    grind
theorem sumR_one : ∀ {n : Nat} {f : Nat → Zp} {j : Nat}, j < n → (∀ i, i < n → i ≠ j → f i = 0) → sumR n f = f j
  | n + 1, f, j, hj, h => by
    show sumR n f + f n = f j
    by_cases c : j = n
    · subst c
      rw [sumR_zero fun i hi => h i (by omega) (by omega)]
      grind
    · rw [sumR_one (j := j) (by omega) fun i hi n' => h i (by omega) n', h n (by omega) (by omega)]
      grind
theorem sumR_pol {m : Nat} : ∀ {n : Nat} {F : Nat → Zp → Zp}, (∀ i, i < n → Pol m (F i)) → Pol m fun x => sumR n fun i => F i x
  | 0, _, _ => (pol_nil m).ext fun _ => rfl
  | n + 1, F, h => (Pol.add (sumR_pol (n := n) fun i hi => h i (by omega)) (h n (by omega))).ext fun _ => rfl
/-- the sum of factors times values -/
def dotR (us vs : List Int) : Int := ((List.range us.length).map fun i => us.getD i 0 * vs.getD i 0).sum
theorem sum_range_z : ∀ (n : Nat) (f : Nat → Int), z ((List.range n).map f).sum = sumR n fun i => z (f i)
  | 0, _ => z_zero
  | n + 1, f => by
    rw [List.range_succ, List.map_append, List.sum_append, z_add, sum_range_z n f]
    show _ + z ((f n) + 0) = _
    rw [Int.add_zero]
    rfl
theorem dotR_z (us vs : List Int) : z (dotR us vs) = sumR us.length fun i => z (us.getD i 0) * z (vs.getD i 0) := by
  unfold dotR
  rw [sum_range_z]
  exact sumR_ext fun i _ => z_mul _ _
/-- the value at x, as the program reckons it -/
noncomputable def valM (ws ys : List Int) (x : Int) : Int := dotR (weightsM ws x) ys % 65521
theorem valM_word (ws ys : List Int) (x : Int) : 0 ≤ valM ws ys x ∧ valM ws ys x < 65521 := ⟨Int.emod_nonneg _ (by decide), Int.emod_lt_of_pos _ (by decide)⟩
theorem valM_z (ws ys : List Int) (x : Int) : z (valM ws ys x) = sumR ws.length fun i => prodZ (others ws i) (z x) * (z (invP (prodM (others ws i) (ws.getD i 0) 1)) * z (ys.getD i 0)) := by
  unfold valM
  rw [z_mod, dotR_z, weightsM_length]
  refine sumR_ext fun i hi => ?_
  have e : (weightsM ws x).getD i 0 = wgt (ws.getD i 0) (others ws i) x := by rw [List.getD_eq_getElem?_getD, weightsM_get hi]; rfl
  rw [e, wgt_z]
  grind
/-- at a place it is the point's own value -/
theorem valM_node {ws ys : List Int} (h : Apart ws) {x : Int} {j : Nat} (hj : j < ws.length) (e : z x = z (ws.getD j 0)) : z (valM ws ys x) = z (ys.getD j 0) := by
  rw [valM_z, sumR_one hj fun i hi n => ?_]
  · have p := others_apart h hj
    have q := wgt_ok p
    have r : z (prodM (others ws j) (ws.getD j 0) 1) * z (invP (prodM (others ws j) (ws.getD j 0) 1)) = 1 := z_invP fun e => q ((z_z _).mp e)
    rw [prodM_z, z_one] at r
    rw [e]
    grind
  · rw [prodZ_root (mem_others.mpr ⟨j, hj, Ne.symm n, rfl⟩) e]
    grind
/-- the values of a polynomial at the places give its value anywhere -/
theorem valM_pol {ws ys : List Int} (h : Apart ws) {f : Zp → Zp} (hf : Pol ws.length f) (hy : ∀ i, i < ws.length → z (ys.getD i 0) = f (z (ws.getD i 0))) (x : Int) : z (valM ws ys x) = f (z x) := by
  have P : Pol ws.length fun x => (sumR ws.length fun i => prodZ (others ws i) x * (z (invP (prodM (others ws i) (ws.getD i 0) 1)) * z (ys.getD i 0))) - f x := by
    refine Pol.sub (sumR_pol fun i hi => Pol.smul _ ?_) hf
    have := prodZ_pol (others ws i)
    rw [others_length hi] at this
    exact this
  have R := Pol.roots (ws.map z) P h (by simp) (fun a ha => ?_) (z x)
  · rw [valM_z]
    have R' : (sumR ws.length fun i => prodZ (others ws i) (z x) * (z (invP (prodM (others ws i) (ws.getD i 0) 1)) * z (ys.getD i 0))) - f (z x) = 0 := R
    grind
  · obtain ⟨p, hp, rfl⟩ := List.mem_map.mp ha
    obtain ⟨j, hj⟩ := List.mem_iff_getElem?.mp hp
    obtain ⟨hl, e⟩ := List.getElem?_eq_some_iff.mp hj
    have ep : ws.getD j 0 = p := by simp [List.getD_eq_getElem?_getD, hl, e]
    have v := valM_node (ys := ys) h (x := p) hl (by rw [ep])
    rw [valM_z, hy j hl, ep] at v
    show (sumR ws.length fun i => prodZ (others ws i) (z p) * (z (invP (prodM (others ws i) (ws.getD i 0) 1)) * z (ys.getD i 0))) - f (z p) = 0
    rw [v]
    grind
theorem z_small {n : Int} (h0 : 0 < n) (h1 : n < 65521) : z n ≠ 0 := fun e => by
  have := (z_z n).mp e
  omega
/-! a polynomial's value -/
def pev : List Int → Zp → Zp
  | [], _ => 0
  | c :: r, x => z c + x * pev r x
theorem pev_pol : ∀ ns : List Int, Pol ns.length (pev ns)
  | [] => fun _ => rfl
  | c :: r => ⟨z c, pev r, pev_pol r, fun _ => rfl⟩
/-- as it is reckoned: from the highest coefficient down -/
def horn : List Int → Int → Int
  | [], _ => 0
  | c :: r, x => (horn r x * x + c) % 65521
theorem horn_z : ∀ (ns : List Int) (x : Int), z (horn ns x) = pev ns (z x)
  | [], _ => z_zero
  | c :: r, x => by
    show z ((horn r x * x + c) % 65521) = z c + z x * pev r (z x)
    rw [z_mod, z_add, z_mul, horn_z r x]
    grind
theorem horn_word : ∀ (ns : List Int) (x : Int), 0 ≤ horn ns x ∧ horn ns x < 65521
  | [], _ => by show (0 : Int) ≤ 0 ∧ (0 : Int) < 65521; omega
  | _ :: _, _ => ⟨Int.emod_nonneg _ (by decide), Int.emod_lt_of_pos _ (by decide)⟩
theorem horn_drop {ns : List Int} {x c : Int} {i : Nat} (h : ns[i]? = some c) : horn (ns.drop i) x = (horn (ns.drop (i + 1)) x * x + c) % 65521 := by
  obtain ⟨hl, e⟩ := List.getElem?_eq_some_iff.mp h
  rw [List.drop_eq_getElem_cons hl, e]
  rfl
/-! polynomials by their values: degree, normal forms -/
def Wd (w : Int) : Prop := 0 ≤ w ∧ w < 65521
/-- a list of words whose last one is not 0 -/
def Norm (r : List Int) : Prop := (∀ w ∈ r, Wd w) ∧ (r = [] ∨ r.getD (r.length - 1) 0 ≠ 0)
def pw (x : Zp) : Nat → Zp
  | 0 => 1
  | n + 1 => x * pw x n
theorem pev_append : ∀ (a b : List Int) (x : Zp), pev (a ++ b) x = pev a x + pw x a.length * pev b x
  | [], b, x => by
    show pev b x = 0 + 1 * pev b x
    grind
  | c :: a, b, x => by
    show z c + x * pev (a ++ b) x = (z c + x * pev a x) + (x * pw x a.length) * pev b x
    rw [pev_append a b x]
    grind
theorem pev_zeros : ∀ {a : List Int}, (∀ w ∈ a, z w = 0) → ∀ x, pev a x = 0
  | [], _, _ => rfl
  | c :: a, h, x => by
    show z c + x * pev a x = 0
    rw [h c (by simp), pev_zeros (fun w m => h w (List.mem_cons_of_mem _ m))]
    grind
theorem pev_mod : ∀ (a : List Int) (x : Zp), pev (a.map (· % 65521)) x = pev a x
  | [], _ => rfl
  | c :: a, x => by
    show z (c % 65521) + x * pev (a.map (· % 65521)) x = z c + x * pev a x
    rw [z_mod, pev_mod a x]
/-- one place of the list gets another number -/
theorem pev_set : ∀ {a : List Int} {i : Nat} {c d : Int} (x : Zp), a[i]? = some c → pev (a.set i d) x = pev a x + pw x i * (z d - z c)
  | [], _, _, _, _, h => by simp at h
  | b :: a, 0, c, d, x, h => by
    have e : b = c := Option.some.inj h
    subst e
    show z d + x * pev a x = (z b + x * pev a x) + 1 * (z d - z b)
    grind
  | b :: a, i + 1, c, d, x, h => by
    show z b + x * pev (a.set i d) x = (z b + x * pev a x) + (x * pw x i) * (z d - z c)
    rw [pev_set (i := i) (c := c) x h]
    grind
theorem pw_add (x : Zp) : ∀ n m : Nat, pw x (n + m) = pw x n * pw x m
  | 0, m => by
    rw [Nat.zero_add]
    show pw x m = 1 * pw x m
    grind
  | n + 1, m => by
    rw [Nat.succ_add]
    show x * pw x (n + m) = (x * pw x n) * pw x m
    rw [pw_add x n m]
    grind
theorem pev_snoc (a : List Int) (c : Int) (x : Zp) : pev (a ++ [c]) x = pev a x + pw x a.length * z c := by
  rw [pev_append]
  show _ + _ * (z c + x * 0) = _
  grind
/-! all words as places -/
def allZ (n : Nat) : List Zp := (List.range n).map fun (k : Nat) => z ((k : Int) + 1)
theorem allZ_nodup {n : Nat} (h : n ≤ 65520) : (allZ n).Nodup := by
  unfold allZ List.Nodup
  rw [List.pairwise_map]
  refine (List.nodup_range (n := n)).imp_of_mem fun {a b} ha hb ne e => ?_
  have h1 := List.mem_range.mp ha
  have h2 := List.mem_range.mp hb
  have := z_eq.mp e
  omega
theorem allZ_ne {n : Nat} (h : n ≤ 65520) : ∀ a ∈ allZ n, a ≠ 0 := fun a ha e => by
  obtain ⟨k, hk, rfl⟩ := List.mem_map.mp ha
  have h1 := List.mem_range.mp hk
  have := (z_z _).mp e
  omega
/-- zero but perhaps at 0: zero -/
theorem Pol.punct {n : Nat} {f : Zp → Zp} (h : Pol n f) (hn : n ≤ 65520) (hz : ∀ x, x ≠ 0 → f x = 0) : ∀ x, f x = 0 :=
  Pol.roots (allZ n) h (allZ_nodup hn) (by simp [allZ]) fun a ha => hz a (allZ_ne hn a ha)
theorem Pol.pw : ∀ (n : Nat) (c : Zp), Pol (n + 1) fun x => c * PP.pw x n
  | 0, c => (Pol.const c).ext fun x => by show c * 1 = c; grind
  | n + 1, c => ((Pol.pw n c).xmul).ext fun x => by show c * (x * PP.pw x n) = x * (c * PP.pw x n); grind
/-- a power beyond the coefficients has the factor 0 -/
theorem lead_zero : ∀ (n : Nat) {c : Zp} {h : Zp → Zp}, n ≤ 60000 → Pol n h → (∀ x, c * pw x n = h x) → c = 0
  | 0, c, h, _, hp, e => by
    have := e 0
    rw [hp 0] at this
    have : c * 1 = 0 := this
    grind
  | n + 1, c, h, hn, ⟨d, g, hg, q⟩, e => by
    have e0 : d = 0 := by
      have h0 := e 0
      rw [q 0] at h0
      have : c * (0 * pw 0 n) = d + 0 * g 0 := h0
      grind
    have F : ∀ x, c * pw x n - g x = 0 := Pol.punct (n := n + 1) (Pol.sub (Pol.pw n c) hg.up) (by omega) fun x hx => by
      have h1 := e x
      rw [q x, e0] at h1
      have h2 : c * (x * pw x n) = 0 + x * g x := h1
      have h3 : x * (c * pw x n - g x) = 0 := by grind
      exact (zp_div h3).resolve_left hx
    exact lead_zero n (by omega) hg fun x => by
      have := F x
      grind
/-- a normal list has no more words than its values need -/
theorem norm_le {r : List Int} {n : Nat} (h : Norm r) (hn : n ≤ 60000) (hp : Pol n (pev r)) (hr : r.length ≤ 60000) : r.length ≤ n := by
  refine Classical.byContradiction fun c => ?_
  obtain ⟨hw, hl⟩ := h
  have rne : r ≠ [] := fun e => by rw [e] at c; simp at c
  have hl := hl.resolve_left rne
  have e : r = r.take (r.length - 1) ++ [r.getD (r.length - 1) 0] := by
    have hlt : r.length - 1 < r.length := by
      have := List.length_pos_iff.mpr rne
      omega
    conv => lhs; rw [← List.take_append_drop (r.length - 1) r]
    rw [List.drop_eq_getElem_cons hlt, show r.length - 1 + 1 = r.length by omega, List.drop_length]
    simp [List.getD_eq_getElem?_getD, hlt]
  have P1 : Pol (r.length - 1) (pev (r.take (r.length - 1))) := (pev_pol _).mono (by rw [List.length_take]; omega)
  have P2 : Pol (r.length - 1) (pev r) := hp.mono (by omega)
  have z0 := lead_zero (r.length - 1) (c := z (r.getD (r.length - 1) 0)) (by omega) (Pol.sub P2 P1) fun x => by
    have := pev_snoc (r.take (r.length - 1)) (r.getD (r.length - 1) 0) x
    rw [← e, List.length_take, Nat.min_eq_left (by omega)] at this
    show _ = pev r x - pev (r.take (r.length - 1)) x
    grind
  have w := hw (r.getD (r.length - 1) 0) (by
    have hlt : r.length - 1 < r.length := by
      have := List.length_pos_iff.mpr rne
      omega
    rw [List.getD_eq_getElem?_getD, List.getElem?_eq_getElem hlt]
    exact List.getElem_mem hlt)
  have := (z_z _).mp z0
  obtain ⟨w0, w1⟩ := w
  omega
/-- the same values everywhere: the same words -/
theorem pev_inj : ∀ {a b : List Int}, a.length = b.length → a.length ≤ 60000 → (∀ w ∈ a, Wd w) → (∀ w ∈ b, Wd w) → (∀ x, pev a x = pev b x) → a = b
  | [], [], _, _, _, _, _ => rfl
  | [], _ :: _, h, _, _, _, _ => by simp at h
  | _ :: _, [], h, _, _, _, _ => by simp at h
  | c :: a, d :: b, hl, hz, ha, hb, e => by
    have e0 : z c = z d := by
      have : z c + 0 * pev a 0 = z d + 0 * pev b 0 := e 0
      grind
    have wc := ha c (by simp)
    have wd := hb d (by simp)
    have ecd : c = d := z_inj wc.1 wc.2 wd.1 wd.2 e0
    have hl' : a.length = b.length := by simpa using hl
    have hz' : a.length + 1 ≤ 60000 := by simpa using hz
    have F : ∀ x, pev a x - pev b x = 0 := Pol.punct (n := a.length) (Pol.sub (pev_pol a) ((pev_pol b).mono (by omega))) (by omega) fun x hx => by
      have h1 : z c + x * pev a x = z d + x * pev b x := e x
      have h3 : x * (pev a x - pev b x) = 0 := by grind
      exact (zp_div h3).resolve_left hx
    rw [ecd, pev_inj hl' (by omega) (fun w m => ha w (List.mem_cons_of_mem _ m)) (fun w m => hb w (List.mem_cons_of_mem _ m)) fun x => by have := F x; grind]
theorem norm_inj {a b : List Int} (ha : Norm a) (hb : Norm b) (la : a.length ≤ 60000) (lb : b.length ≤ 60000) (e : ∀ x, pev a x = pev b x) : a = b := by
  have h1 := norm_le ha lb ((pev_pol b).ext e) la
  have h2 := norm_le hb la ((pev_pol a).ext fun x => (e x).symm) lb
  exact pev_inj (by omega) la ha.1 hb.1 e
/-! products -/
theorem Pol.mul : ∀ {n m : Nat} {f g : Zp → Zp}, Pol n f → Pol m g → Pol (n + m) fun x => f x * g x
  | 0, m, f, g, h, _ => (pol_nil (0 + m)).ext fun x => by show f x * g x = 0; rw [h x]; grind
  | n + 1, m, f, g, ⟨c, u, h, q⟩, k => by
    have A := (Pol.mul h k).xmul
    have B := (k.smul c).mono (show m ≤ n + m + 1 by omega)
    rw [show n + 1 + m = n + m + 1 by omega]
    exact (B.add A).ext fun x => by show f x * g x = g x * c + x * (u x * g x); rw [q x]; grind
/-- the highest coefficient -/
theorem norm_lead {a : List Int} (h : Norm a) (ne : a ≠ []) : ∃ (c : Zp) (g : Zp → Zp), c ≠ 0 ∧ Pol (a.length - 1) g ∧ ∀ x, pev a x = g x + c * pw x (a.length - 1) := by
  have hlt : a.length - 1 < a.length := by
    have := List.length_pos_iff.mpr ne
    omega
  refine ⟨z (a.getD (a.length - 1) 0), pev (a.take (a.length - 1)), fun e => ?_, (pev_pol _).mono (by rw [List.length_take]; omega), fun x => ?_⟩
  · have w : Wd (a.getD (a.length - 1) 0) := h.1 _ (by rw [List.getD_eq_getElem?_getD, List.getElem?_eq_getElem hlt]; exact List.getElem_mem hlt)
    have := (z_z _).mp e
    have ne0 := h.2.resolve_left ne
    obtain ⟨w0, w1⟩ := w
    omega
  · have e : a = a.take (a.length - 1) ++ [a.getD (a.length - 1) 0] := by
      conv => lhs; rw [← List.take_append_drop (a.length - 1) a]
      rw [List.drop_eq_getElem_cons hlt, show a.length - 1 + 1 = a.length by omega, List.drop_length]
      simp [List.getD_eq_getElem?_getD, hlt]
    have := pev_snoc (a.take (a.length - 1)) (a.getD (a.length - 1) 0) x
    rw [← e, List.length_take, Nat.min_eq_left (by omega)] at this
    rw [this]
    grind
theorem norm_mul {a b r : List Int} (ha : Norm a) (hb : Norm b) (hr : Norm r) (na : a ≠ []) (nb : b ≠ []) (la : a.length ≤ 1000) (lb : b.length ≤ 1000) (lr : r.length ≤ 60000) (e : ∀ x, pev r x = pev a x * pev b x) : r.length = a.length + b.length - 1 := by
  obtain ⟨c, g, hc, hg, eg⟩ := norm_lead ha na
  obtain ⟨d, k, hd, hk, ek⟩ := norm_lead hb nb
  have pa := List.length_pos_iff.mpr na
  have pb := List.length_pos_iff.mpr nb
  -- what is below the highest power
  have low : Pol (a.length - 1 + (b.length - 1)) fun x => pev r x - (c * d) * pw x (a.length - 1 + (b.length - 1)) := by
    have A := (hg.mul ((Pol.pw (b.length - 1) d).add hk.up)).mono (show a.length - 1 + (b.length - 1 + 1) ≤ a.length - 1 + (b.length - 1) + 1 by omega)
    have B : ∀ n m : Nat, ∀ u : Zp → Zp, Pol m u → Pol (n + m) fun x => pw x n * u x := by
      intro n
      induction n with
      | zero => exact fun m u hu => by rw [Nat.zero_add]; exact hu.ext fun x => by show 1 * u x = u x; grind
      | succ n ih => exact fun m u hu => by rw [Nat.succ_add]; exact ((ih m u hu).xmul).ext fun x => by show (x * pw x n) * u x = x * (pw x n * u x); grind
    have C := (B (a.length - 1) (b.length - 1) k hk).smul c
    have D := (B (b.length - 1) (a.length - 1) g hg).smul d
    have G : Pol (a.length - 1 + (b.length - 1)) fun x => g x * k x := hg.mul hk
    rw [Nat.add_comm (b.length - 1)] at D
    refine ((C.add D).add G).ext fun x => ?_
    show pev r x - (c * d) * pw x (a.length - 1 + (b.length - 1)) = (pw x (a.length - 1) * k x * c + pw x (b.length - 1) * g x * d) + g x * k x
    rw [e x, eg x, ek x, pw_add]
    grind
  have up : Pol (a.length - 1 + (b.length - 1) + 1) (pev r) := (low.up.add (Pol.pw _ (c * d))).ext fun x => by
    show pev r x = (pev r x - (c * d) * pw x _) + (c * d) * pw x _
    grind
  have h1 := norm_le hr (by omega) up lr
  by_cases q : r.length ≤ a.length - 1 + (b.length - 1)
  · exfalso
    have P := (pev_pol r).mono q
    have := lead_zero (a.length - 1 + (b.length - 1)) (c := c * d) (by omega) (P.sub low) fun x => by
      show _ = pev r x - (pev r x - (c * d) * pw x _)
      grind
    exact zp_mul_ne hc hd this
  · omega
theorem norm_snoc {a : List Int} {c : Int} (h : ∀ w ∈ a, Wd w) (hc : Wd c) (n : c ≠ 0) : Norm (a ++ [c]) := by
  refine ⟨fun w m => ?_, .inr ?_⟩
  · rcases List.mem_append.mp m with m | m
    · exact h w m
    · have : w = c := by simpa using m
      rw [this]
      exact hc
  · rw [List.length_append, List.length_singleton, Nat.add_sub_cancel, List.getD_eq_getElem?_getD]
    simpa using n
theorem norm_nil : Norm [] := ⟨fun _ m => (nomatch m), .inl rfl⟩
theorem pev_smul (fa : Int) : ∀ (b : List Int) (x : Zp), pev (b.map fun c => fa * c) x = z fa * pev b x
  | [], x => by show (0 : Zp) = _ * 0; grind
  | c :: r, x => by
    show z (fa * c) + x * pev (r.map fun c => fa * c) x = z fa * (z c + x * pev r x)
    rw [pev_smul fa r x, z_mul]
    grind
/-! heaps, slices, points -/
theorem _root_.L2.Same.tup {K : PySem.W.Frag} {H H' : Hp} {a : Addr} {xs : List V} (e : Same H H') (h : SqT K H a xs) : SqT K H' a xs := by
  rcases h with (h | ⟨o, h⟩) | h
  · exact .inl (.inl (e _ _ h))
  · exact .inl (.inr ⟨o, e _ _ h⟩)
  · exact .inr h
theorem _root_.L2.Same.new {H : Hp} {p : Addr} {o : HO} (h : H p = none) : Same H (upd H p o) := fun _ _ e => by
  rw [upd_ne (ne_of_none e h)]
  exact e
/-- what was tracked is as it was, but for p -/
def But (p : Addr) (H H' : Hp) : Prop := ∀ b o, H b = some o → b ≠ p → H' b = some o
theorem Only.but {p : Addr} {H H' : Hp} (h : Only p H H') : But p H H' := fun b _ e n => (h b n).trans e
theorem _root_.L2.Same.but {p : Addr} {H H' : Hp} (h : Same H H') : But p H H' := fun b o e _ => h b o e
theorem But.trans {p : Addr} {H H1 H2 : Hp} (x : But p H H1) (y : But p H1 H2) : But p H H2 := fun b o e n => y b o (x b o e n) n
theorem But.same {p : Addr} {H0 H H' : Hp} (y : But p H H') (x : Same H0 H) (h : H0 p = none) : Same H0 H' := fun b o e => y b o (x b o e) (ne_of_none e h)
theorem But.new {p q : Addr} {H H' : Hp} {o : HO} (x : But p H H') (h : H' q = none) : But p H (upd H' q o) := x.trans (Same.new h).but
theorem _root_.L2.Same.at {H H' : Hp} {b : Addr} {o : HO} (s : Same H H') (e : H b = some o) : H' b = some o := s b o e
theorem cut_take (xs : List V) (i : Nat) : cutV xs none (some (i : Int)) = xs.take i := by
  unfold cutV
  rw [HT.sIx_none, HT.sIx_nat, List.drop_zero, Nat.sub_zero]
  by_cases h : i ≤ xs.length
  · rw [Nat.min_eq_left h]
  · rw [Nat.min_eq_right (by omega), List.take_of_length_le (by omega), List.take_of_length_le (by omega)]
theorem cut_drop (xs : List V) (i : Nat) : cutV xs (some (i : Int)) none = xs.drop i := by
  unfold cutV
  rw [HT.sIx_none, HT.sIx_nat]
  by_cases h : i ≤ xs.length
  · rw [Nat.min_eq_left h, List.take_of_length_le (by rw [List.length_drop]; omega)]
  · rw [Nat.min_eq_right (by omega), List.drop_of_length_le (by omega), List.drop_of_length_le (by omega), List.take_nil]
theorem take_snoc {α : Type} {l : List α} {i : Nat} {x : α} (h : l[i]? = some x) : l.take (i + 1) = l.take i ++ [x] := by
  rw [List.take_add_one, h]
  rfl
theorem item_lt {α : Type} {l : List α} {i : Nat} {x : α} (h : l[i]? = some x) : i < l.length := (List.getElem?_eq_some_iff.mp h).1
theorem small (n : Nat) (h : n ≤ 60000) : n < sizeLine := Nat.lt_of_le_of_lt h (by decide)
theorem getD_item {α : Type} {l : List α} {i : Nat} {x d : α} (h : l[i]? = some x) : l.getD i d = x := by rw [List.getD_eq_getElem?_getD, h]; rfl
theorem seq_off {K : PySem.W.Frag} {H : Hp} {a b : Addr} {xs : List V} {o : HO} (h : SqL K H a xs) (n : a ≠ b) : SqL K (upd H b o) a xs := by
  rcases h with (h | ⟨u, h⟩) | h
  · exact .inl (.inl (by rw [upd_ne n]; exact h))
  · exact .inl (.inr ⟨u, by rw [upd_ne n]; exact h⟩)
  · exact .inr h
/-- one more thing at a place that was free at the entry -/
theorem same_put {H H' : Hp} {p : Addr} {o : HO} (s : Same H H') (n : H p = none) : Same H (upd H' p o) := fun b u e => by
  rw [upd_ne (ne_of_none e n)]
  exact s b u e
theorem item_set {α : Type} {l : List α} {i j : Nat} {x y : α} (h : (l.set i x)[j]? = some y) : (i = j ∧ y = x ∧ j < l.length) ∨ (i ≠ j ∧ l[j]? = some y) := by
  rw [List.getElem?_set] at h
  by_cases e : i = j
  · subst e
    rw [if_pos rfl] at h
    split at h
    · exact .inl ⟨rfl, (Option.some.inj h).symm, by assumption⟩
    · cases h
  · rw [if_neg e] at h
    exact .inr ⟨e, h⟩
theorem same_none {H H' : Hp} {b : Addr} (s : Same H H') (n : H' b = none) : H b = none := by
  cases q : H b with
  | none => rfl
  | some o => rw [s _ _ q] at n; cases n
theorem getD_set {w : List Int} {i k : Nat} {v : Int} (h : k < w.length) : (w.set i v).getD k 0 = if i = k then v else w.getD k 0 := by
  rw [List.getD_eq_getElem?_getD, List.getElem?_set]
  split
  · next e =>
    subst e
    rw [if_pos h]
    rfl
  · rw [List.getD_eq_getElem?_getD]
/-! data: == of lists of ints, of pairs -/
theorem eqvAll_ints : ∀ xs ys : List Int, PyData.eqvAll (xs.map .int) (ys.map .int) = decide (xs = ys)
  | [], [] => by simp [PyData.eqvAll]
  | [], _ :: _ => by simp [PyData.eqvAll]
  | _ :: _, [] => by simp [PyData.eqvAll]
  | x :: xs, y :: ys => by
    simp only [List.map_cons, PyData.eqvAll, PyData.eqv, eqvAll_ints xs ys]
    by_cases h : x = y <;> by_cases k : xs = ys <;> simp [h, k]
theorem canLayAll_ints : ∀ xs : List Int, PyData.canLayAll0 (xs.map .int) = true
  | [] => rfl
  | x :: xs => by simp [PyData.canLayAll0, PyData.canLay0, canLayAll_ints xs]
theorem depthAll_ints : ∀ xs : List Int, PyData.depthAll (xs.map .int) = 0
  | [] => rfl
  | x :: xs => by simp [PyData.depthAll, PyData.depth, depthAll_ints xs]
theorem shaped_ints (xs : List Int) : SeqAt.shaped (.list (xs.map .int)) = true := by
  simp [SeqAt.shaped, PyData.canLay0, canLayAll_ints, PyData.depth, depthAll_ints]
theorem dpAll_ints {K : PySem.W.Frag} {H : Hp} : ∀ xs : List Int, DpAll K H (xs.map V.int) (xs.map .int)
  | [] => .nil
  | x :: xs => .cons (.int x) (dpAll_ints xs)
theorem dp_ints {K : PySem.W.Frag} {H : Hp} {a : Addr} {xs : List Int} (h : SqL K H a (xs.map V.int)) : Dp K H (.ref a) (.list (xs.map .int)) := .lst h (dpAll_ints xs)
theorem eqv_ints (xs ys : List Int) : PyData.eqv (.list (xs.map .int)) (.list (ys.map .int)) = decide (xs = ys) := by
  simp only [PyData.eqv]
  exact eqvAll_ints xs ys
/-- rows of ints -/
def rowD (xs : List Int) : PyData := .list (xs.map .int)
theorem rows_data : ∀ xss : List (List Int), PyData.canLayAll0 (xss.map rowD) = true ∧ PyData.depthAll (xss.map rowD) ≤ 1
  | [] => ⟨rfl, Nat.zero_le _⟩
  | xs :: xss => by
    obtain ⟨h1, h2⟩ := rows_data xss
    refine ⟨by simp [PyData.canLayAll0, PyData.canLay0, rowD, canLayAll_ints, h1], ?_⟩
    simp only [List.map_cons, PyData.depthAll, rowD, PyData.depth, depthAll_ints]
    omega
theorem rows_shaped (xss : List (List Int)) : SeqAt.shaped (.list (xss.map rowD)) = true := by
  obtain ⟨h1, h2⟩ := rows_data xss
  have e : PyData.depth (.list (xss.map rowD)) = PyData.depthAll (xss.map rowD) + 1 := by simp only [PyData.depth]
  unfold SeqAt.shaped
  rw [Bool.and_eq_true]
  exact ⟨by simp only [PyData.canLay0]; exact h1, decide_eq_true (by rw [e]; omega)⟩
theorem eqvAll_rows : ∀ xss yss : List (List Int), PyData.eqvAll (xss.map rowD) (yss.map rowD) = decide (xss = yss)
  | [], [] => by simp [PyData.eqvAll]
  | [], _ :: _ => by simp [PyData.eqvAll]
  | _ :: _, [] => by simp [PyData.eqvAll]
  | x :: xs, y :: ys => by
    have h := eqv_ints x y
    simp only [List.map_cons, PyData.eqvAll, rowD, eqvAll_rows xs ys, h]
    by_cases h : x = y <;> by_cases k : xs = ys <;> simp [h, k]
theorem eqv_rows (xss yss : List (List Int)) : PyData.eqv (.list (xss.map rowD)) (.list (yss.map rowD)) = decide (xss = yss) := by
  simp only [PyData.eqv]
  exact eqvAll_rows xss yss
theorem dp_two {K : PySem.W.Frag} {H : Hp} {a b c : Addr} {xs ys : List Int} (h : SqL K H a [V.ref b, V.ref c]) (hb : SqL K H b (xs.map V.int)) (hc : SqL K H c (ys.map V.int)) : Dp K H (.ref a) (.list ([xs, ys].map rowD)) :=
  .lst h (.cons (dp_ints hb) (.cons (dp_ints hc) .nil))
/-! xs[i] op= e, i not below 0 -/
def rGetL (K : PySem.W.Frag) : V → V → Hp → VK → Prop := fun x y H Q => ∃ (p : Addr) (xs : List V) (i : Int) (j : Nat) (v : V), x = .ref p ∧ y = .int i ∧ i = (j : Int) ∧ SqL K H p xs ∧ xs[j]? = some v ∧ Q v H
theorem pget_list {X : Cx} : PGet X (rGetL X.K) := by
  intro pins s σ H o i ov iv Q I ro ri h
  obtain ⟨p, xs, _, j, v, rfl, rfl, rfl, hS, hv, q⟩ := h
  cases ro
  obtain ⟨t, rfl⟩ := ri
  obtain ⟨its, r, pl, hz⟩ := I.list hS
  obtain ⟨u, hu, ru⟩ := r.get hv
  have hl : j < xs.length := (List.getElem?_eq_some_iff.mp hv).1
  have hn := line63
  exact PySem.wpAny_getItem_list pl.isList (by omega) (by omega) (by rw [Int.toNat_natCast]; simpa using hu) ⟨v, H, I, ru, q⟩
theorem rep_zero (n : Nat) : (List.replicate n [V.int 0]).flatten = (List.replicate n (0 : Int)).map V.int := by
  induction n with
  | zero => rfl
  | succ n ih => rw [List.replicate_succ, List.flatten_cons, ih, List.replicate_succ]; rfl
theorem pev_rep (n : Nat) (x : Zp) : pev (List.replicate n (0 : Int)) x = 0 := pev_zeros (fun w m => by rw [(List.mem_replicate.mp m).2]; exact z_zero) x
theorem ixN_nat {n j : Nat} (h : j < n) : ixN n (j : Int) = some j := by
  unfold ixN
  rw [if_pos (by omega), if_pos (by omega), Int.toNat_natCast]
/-- where things stand -/
structure Ad where
  f_law_pot : Addr
  d_law_pot : FuncData
  f_law_next : Addr
  d_law_next : FuncData
  f_law_is_int : Addr
  d_law_is_int : FuncData
  f_law_take : Addr
  d_law_take : FuncData
  f_law_claim : Addr
  d_law_claim : FuncData
  f_law_give : Addr
  d_law_give : FuncData
  f_law_looks_right : Addr
  d_law_looks_right : FuncData
  f_law_step : Addr
  d_law_step : FuncData
  f_law : Addr
  d_law : FuncData
  f_Space_init : Addr
  d_Space_init : FuncData
  f_Space_take : Addr
  d_Space_take : FuncData
  f_Space_claim : Addr
  d_Space_claim : FuncData
  f_Space_give : Addr
  d_Space_give : FuncData
  f_Space_settle : Addr
  d_Space_settle : FuncData
  f_Space_is_free : Addr
  d_Space_is_free : FuncData
  f_Space_free_count : Addr
  d_Space_free_count : FuncData
  f_Space_used_rows : Addr
  d_Space_used_rows : FuncData
  f_Space_waiting_rows : Addr
  d_Space_waiting_rows : FuncData
  c_PoolError : Addr
  c_InvalidArgument : Addr
  c_NoSpace : Addr
  c_Space : Addr
/-- what the top has written -/
structure Txt (K : PySem.W.Frag) (mg : Str → Option Value) (a : Ad) : Prop where
  F_law_pot : Fun K "_law_pot" "_law_pot" s_law_pot a.f_law_pot a.d_law_pot
  g_law_pot : mg "_law_pot" = some (.ref a.f_law_pot)
  d_law_pot : Binds K a.d_law_pot ["script"] []
  F_law_next : Fun K "_law_next" "_law_next" s_law_next a.f_law_next a.d_law_next
  g_law_next : mg "_law_next" = some (.ref a.f_law_next)
  d_law_next : Binds K a.d_law_next ["pot", "limit"] []
  F_law_is_int : Fun K "_law_is_int" "_law_is_int" s_law_is_int a.f_law_is_int a.d_law_is_int
  g_law_is_int : mg "_law_is_int" = some (.ref a.f_law_is_int)
  d_law_is_int : Binds K a.d_law_is_int ["value"] []
  F_law_take : Fun K "_law_take" "_law_take" s_law_take a.f_law_take a.d_law_take
  g_law_take : mg "_law_take" = some (.ref a.f_law_take)
  d_law_take : Binds K a.d_law_take ["space"] []
  F_law_claim : Fun K "_law_claim" "_law_claim" s_law_claim a.f_law_claim a.d_law_claim
  g_law_claim : mg "_law_claim" = some (.ref a.f_law_claim)
  d_law_claim : Binds K a.d_law_claim ["space", "row"] []
  F_law_give : Fun K "_law_give" "_law_give" s_law_give a.f_law_give a.d_law_give
  g_law_give : mg "_law_give" = some (.ref a.f_law_give)
  d_law_give : Binds K a.d_law_give ["space", "row"] []
  F_law_looks_right : Fun K "_law_looks_right" "_law_looks_right" s_law_looks_right a.f_law_looks_right a.d_law_looks_right
  g_law_looks_right : mg "_law_looks_right" = some (.ref a.f_law_looks_right)
  d_law_looks_right : Binds K a.d_law_looks_right ["space", "states", "first"] []
  F_law_step : Fun K "_law_step" "_law_step" s_law_step a.f_law_step a.d_law_step
  g_law_step : mg "_law_step" = some (.ref a.f_law_step)
  d_law_step : Binds K a.d_law_step ["space", "states", "first", "kind", "row"] []
  F_law : Fun K "law" "law" s_law a.f_law a.d_law
  g_law : mg "law" = some (.ref a.f_law)
  d_law : Binds K a.d_law ["script"] []
  F_Space_init : Fun K "__init__" "Space.__init__" s_Space_init a.f_Space_init a.d_Space_init
  mk_Space : Mk K a.c_Space a.f_Space_init
  d_Space_init : Binds K a.d_Space_init ["self", "rows", "first"] []
  F_Space_take : Fun K "take" "Space.take" s_Space_take a.f_Space_take a.d_Space_take
  m_Space_take : Meth K a.c_Space "take" a.f_Space_take
  d_Space_take : Binds K a.d_Space_take ["self"] []
  F_Space_claim : Fun K "claim" "Space.claim" s_Space_claim a.f_Space_claim a.d_Space_claim
  m_Space_claim : Meth K a.c_Space "claim" a.f_Space_claim
  d_Space_claim : Binds K a.d_Space_claim ["self", "row"] []
  F_Space_give : Fun K "give" "Space.give" s_Space_give a.f_Space_give a.d_Space_give
  m_Space_give : Meth K a.c_Space "give" a.f_Space_give
  d_Space_give : Binds K a.d_Space_give ["self", "row"] []
  F_Space_settle : Fun K "settle" "Space.settle" s_Space_settle a.f_Space_settle a.d_Space_settle
  m_Space_settle : Meth K a.c_Space "settle" a.f_Space_settle
  d_Space_settle : Binds K a.d_Space_settle ["self"] []
  F_Space_is_free : Fun K "is_free" "Space.is_free" s_Space_is_free a.f_Space_is_free a.d_Space_is_free
  m_Space_is_free : Meth K a.c_Space "is_free" a.f_Space_is_free
  d_Space_is_free : Binds K a.d_Space_is_free ["self", "row"] []
  F_Space_free_count : Fun K "free_count" "Space.free_count" s_Space_free_count a.f_Space_free_count a.d_Space_free_count
  m_Space_free_count : Meth K a.c_Space "free_count" a.f_Space_free_count
  d_Space_free_count : Binds K a.d_Space_free_count ["self"] []
  F_Space_used_rows : Fun K "used_rows" "Space.used_rows" s_Space_used_rows a.f_Space_used_rows a.d_Space_used_rows
  m_Space_used_rows : Meth K a.c_Space "used_rows" a.f_Space_used_rows
  d_Space_used_rows : Binds K a.d_Space_used_rows ["self"] []
  F_Space_waiting_rows : Fun K "waiting_rows" "Space.waiting_rows" s_Space_waiting_rows a.f_Space_waiting_rows a.d_Space_waiting_rows
  m_Space_waiting_rows : Meth K a.c_Space "waiting_rows" a.f_Space_waiting_rows
  d_Space_waiting_rows : Binds K a.d_Space_waiting_rows ["self"] []
  g_NEW : ∃ u, mg "NEW" = some u ∧ RelV (.int 1) u
  g_OLD : ∃ u, mg "OLD" = some u ∧ RelV (.int 2) u
  g_WAITING : ∃ u, mg "WAITING" = some u ∧ RelV (.int 3) u
  n_list : mg "list" = none
  n_int : mg "int" = none
  n_abs : mg "abs" = none
  n_len : mg "len" = none
  n_isinstance : mg "isinstance" = none
  n_bool : mg "bool" = none
  n_range : mg "range" = none
  n_min : mg "min" = none
  n_sorted : mg "sorted" = none
  g_Space : mg "Space" = some (.ref a.c_Space)
  cl_Space : Cls K a.c_Space
  na_Space_first : NoAttr K a.c_Space "_first"
  na_Space_lowest : NoAttr K a.c_Space "_lowest"
  na_Space_rows : NoAttr K a.c_Space "_rows"
  na_Space_states : NoAttr K a.c_Space "_states"
  g_PoolError : mg "PoolError" = some (.ref a.c_PoolError)
  x_PoolError : PySem.W.excIn K a.c_PoolError [.type "ValueError", .type "Exception", .type "BaseException", .type "object"] "ValueError.__new__" = true
  k_PoolError : PySem.W.keepIn K (.ref a.c_PoolError) = true
  b_PoolError : PySem.W.subIn K (.ref a.c_PoolError) (.type "BaseException") = some true
  t_PoolError : PySem.W.typeIn K (.ref a.c_PoolError) = some (.type "type")
  E_PoolError : ExcC K a.c_PoolError
  g_InvalidArgument : mg "InvalidArgument" = some (.ref a.c_InvalidArgument)
  x_InvalidArgument : PySem.W.excIn K a.c_InvalidArgument [.type "ValueError", .type "Exception", .type "BaseException", .type "object"] "ValueError.__new__" = true
  k_InvalidArgument : PySem.W.keepIn K (.ref a.c_InvalidArgument) = true
  b_InvalidArgument : PySem.W.subIn K (.ref a.c_InvalidArgument) (.type "BaseException") = some true
  t_InvalidArgument : PySem.W.typeIn K (.ref a.c_InvalidArgument) = some (.type "type")
  E_InvalidArgument : ExcC K a.c_InvalidArgument
  g_NoSpace : mg "NoSpace" = some (.ref a.c_NoSpace)
  x_NoSpace : PySem.W.excIn K a.c_NoSpace [.type "ValueError", .type "Exception", .type "BaseException", .type "object"] "ValueError.__new__" = true
  k_NoSpace : PySem.W.keepIn K (.ref a.c_NoSpace) = true
  b_NoSpace : PySem.W.subIn K (.ref a.c_NoSpace) (.type "BaseException") = some true
  t_NoSpace : PySem.W.typeIn K (.ref a.c_NoSpace) = some (.type "type")
  E_NoSpace : ExcC K a.c_NoSpace
  u_InvalidArgument_PoolError : PySem.W.exmOne K (.ref a.c_InvalidArgument) (.ref a.c_PoolError) = some true
  u_NoSpace_PoolError : PySem.W.exmOne K (.ref a.c_NoSpace) (.ref a.c_PoolError) = some true
  i_InvalidArgument_InvalidArgument : PySem.W.kitOne K (.ref a.c_InvalidArgument) (.ref a.c_InvalidArgument) = some true
  i_NoSpace_NoSpace : PySem.W.kitOne K (.ref a.c_NoSpace) (.ref a.c_NoSpace) = some true
/-! the promises -/
/-! the draws: a list of the script, a place in it, a rest, a seed -/
/-- at p stands a pot, its script's list at l -/
def Pot (H : Hp) (p l : Addr) : Prop := ∃ (ns : List Int) (i acc seed : Int), H p = some (.lst [.ref l, .int i, .int acc, .int seed]) ∧ H l = some (.lst (ns.map V.int)) ∧ 0 ≤ i ∧ 0 ≤ acc ∧ 0 ≤ seed ∧ seed < 2147483647
theorem Pot.ne {H : Hp} {p l : Addr} (h : Pot H p l) : l ≠ p := by
  obtain ⟨ns, i, acc, seed, h1, h2, _⟩ := h
  refine ne_of h2 h1 fun e => ?_
  have e1 := HO.lst.inj e
  cases ns with
  | nil => cases e1
  | cons a r => rw [List.map_cons] at e1; injection e1 with e2 _; cases e2
theorem Pot.same {H H' : Hp} {p l : Addr} (h : Pot H p l) (s : Same H H') : Pot H' p l := by
  obtain ⟨ns, i, acc, seed, h1, h2, h3⟩ := h
  exact ⟨ns, i, acc, seed, s _ _ h1, s _ _ h2, h3⟩
theorem Pot.only {H H' : Hp} {p l q : Addr} (h : Pot H p l) (s : Only q H H') (n1 : p ≠ q) (n2 : l ≠ q) : Pot H' p l := by
  obtain ⟨ns, i, acc, seed, h1, h2, h3⟩ := h
  exact ⟨ns, i, acc, seed, by rw [s _ n1]; exact h1, by rw [s _ n2]; exact h2, h3⟩
/-- a draw's answer below the limit -/
def sp_law_next (K : PySem.W.Frag) (a : Ad) : Sp := fun vs H Q _ => ∃ (p l : Addr) (m : Int), vs = [.ref p, .int m] ∧ Pot H p l ∧ 0 < m ∧ m < 1099511627776 ∧
  ∀ (v : Int) (H' : Hp), 0 ≤ v → v < m → Pot H' p l → Only p H H' → Q (.int v) H'
theorem sp_law_next_len {K : PySem.W.Frag} {a : Ad} {vs : List V} {H : Hp} {Q : VK} {E : XK} (h : sp_law_next K a vs H Q E) : vs.length = 2 := by
  obtain ⟨p, l, m, rfl, _⟩ := h
  rfl
def sp_law_pot (K : PySem.W.Frag) (a : Ad) : Sp := fun vs H Q _ => ∃ (s : Addr) (ns : List Int), vs = [.ref s] ∧ SqL K H s (ns.map V.int) ∧ ns.length ≤ 1000 ∧
  ∀ (p l : Addr) (H' : Hp), H p = none → H l = none → Same H H' → Pot H' p l → Q (.ref p) H'
theorem sp_law_pot_len {K : PySem.W.Frag} {a : Ad} {vs : List V} {H : Hp} {Q : VK} {E : XK} (h : sp_law_pot K a vs H Q E) : vs.length = 1 := by
  obtain ⟨s, ns, rfl, _⟩ := h
  rfl
/-- the law itself: True at every script -/
def sp_law0 (K : PySem.W.Frag) : Sp := fun vs H Q _ => ∃ (s : Addr) (ns : List Int), vs = [.ref s] ∧ SqL K H s (ns.map V.int) ∧ ns.length ≤ 63 ∧ ∀ H', Q (.bl true) H'
def sp_law (K : PySem.W.Frag) (a : Ad) : Sp := sp_law0 K
theorem sp_law_len {K : PySem.W.Frag} {a : Ad} {vs : List V} {H : Hp} {Q : VK} {E : XK} (h : sp_law K a vs H Q E) : vs.length = 1 := by
  obtain ⟨s, ns, rfl, _⟩ := h
  rfl
theorem int_item {ns : List Int} {i : Nat} {y : V} (h : (ns.map V.int)[i]? = some y) : ∃ z, ns[i]? = some z ∧ y = V.int z := by
  rw [List.getElem?_map] at h
  cases e : ns[i]? with
  | none => rw [e] at h; cases h
  | some z => rw [e] at h; exact ⟨z, rfl, (Option.some.inj h).symm⟩
/-- the pot's own object is no list of refs alone, no tuple -/
theorem Pot.list {H : Hp} {p l : Addr} (h : Pot H p l) : ∃ i acc seed : Int, H p = some (.lst [.ref l, .int i, .int acc, .int seed]) := by
  obtain ⟨ns, i, acc, seed, h1, _⟩ := h
  exact ⟨i, acc, seed, h1⟩
theorem But.seq {K : PySem.W.Frag} {H H' : Hp} {p a : Addr} {xs : List V} (b : But p H H') (n : a ≠ p) (h : SqL K H a xs) : SqL K H' a xs := by
  rcases h with (h | ⟨o, h⟩) | h
  · exact .inl (.inl (b _ _ h n))
  · exact .inl (.inr ⟨o, b _ _ h n⟩)
  · exact .inr h
theorem But.tup {K : PySem.W.Frag} {H H' : Hp} {p l a : Addr} {xs : List V} (P : Pot H p l) (b : But p H H') (h : SqT K H a xs) : SqT K H' a xs := by
  obtain ⟨i, acc, seed, hp⟩ := P.list
  rcases h with (h | ⟨o, h⟩) | h
  · exact .inl (.inl (b _ _ h (ne_of h hp (by intro q; cases q))))
  · exact .inl (.inr ⟨o, b _ _ h (ne_of h hp (by intro q; cases q))⟩)
  · exact .inr h
theorem Pot.noList {H : Hp} {p l a : Addr} (P : Pot H p l) {xs : List V} (h : H a = some (.lst xs)) (hx : ∀ i acc seed : Int, xs ≠ [.ref l, .int i, .int acc, .int seed]) : a ≠ p := by
  obtain ⟨i, acc, seed, hp⟩ := P.list
  exact ne_of h hp fun q => hx i acc seed (HO.lst.inj q)
theorem Pot.off {H : Hp} {p l q : Addr} (P : Pot H p l) (h : H q = none) : p ≠ q ∧ l ≠ q := by
  obtain ⟨_, _, _, _, g1, g2, _⟩ := P
  exact ⟨ne_of_none g1 h, ne_of_none g2 h⟩
theorem Pot.new {H : Hp} {p l q : Addr} {o : HO} (P : Pot H p l) (h : H q = none) : Pot (upd H q o) p l := P.same (Same.new h)
/-- an int is an int -/
def sp_law_is_int (K : PySem.W.Frag) (a : Ad) : Sp := fun vs H Q _ => ∃ x : Int, vs = [.int x] ∧ Q (.bl true) H
theorem sp_law_is_int_len {K : PySem.W.Frag} {a : Ad} {vs : List V} {H : Hp} {Q : VK} {E : XK} (h : sp_law_is_int K a vs H Q E) : vs.length = 1 := by
  obtain ⟨x, rfl, _⟩ := h
  rfl
/-! the rows of a disk: free 0, new 1, old 2, waiting 3 -/
theorem sorted_one {xs ys : List Int} (p : xs.Perm ys) (h1 : xs.Pairwise (· ≤ ·)) (h2 : ys.Pairwise (· ≤ ·)) : xs = ys :=
  List.Perm.eq_of_pairwise (le := (· ≤ ·)) (fun _ _ _ _ h1 h2 => Int.le_antisymm h1 h2) h1 h2 p
def flds (rows first : Int) (d : Addr) (low : Int) : List (Str × V) := [("_rows", .int rows), ("_first", .int first), ("_states", .ref d), ("_lowest", .int low)]
theorem flds_init (rows first : Int) (d : Addr) : putF "_lowest" (.int first) (putF "_states" (.ref d) (putF "_first" (.int first) (putF "_rows" (.int rows) []))) = flds rows first d first := by kernel_rfl
theorem flds_low (rows first : Int) (d : Addr) (low z : Int) : putF "_lowest" (.int z) (flds rows first d low) = flds rows first d z := by kernel_rfl
theorem flds_st (rows first : Int) (d e : Addr) (low : Int) : putF "_states" (.ref e) (flds rows first d low) = flds rows first e low := by kernel_rfl
theorem flds_rows (rows first : Int) (d : Addr) (low : Int) : (flds rows first d low).lookup ("_rows" : Str) = some (.int rows) := by kernel_rfl
theorem flds_first (rows first : Int) (d : Addr) (low : Int) : (flds rows first d low).lookup ("_first" : Str) = some (.int first) := by kernel_rfl
theorem flds_states (rows first : Int) (d : Addr) (low : Int) : (flds rows first d low).lookup ("_states" : Str) = some (.ref d) := by kernel_rfl
theorem flds_lowest (rows first : Int) (d : Addr) (low : Int) : (flds rows first d low).lookup ("_lowest" : Str) = some (.int low) := by kernel_rfl
def kvM (M : List (Int × Int)) : List (Key × V) := M.map fun q => (Sum.inl q.1, V.int q.2)
def stM (M : List (Int × Int)) (r : Int) : Int := match M.find? fun q => decide (q.1 = r) with
  | some q => q.2
  | none => 0
theorem valV_M : ∀ (M : List (Int × Int)) (r : Int), valV (kvM M) (Sum.inl r) = (M.find? fun q => decide (q.1 = r)).map fun q => V.int q.2
  | [], _ => rfl
  | q :: M, r => by
    unfold valV kvM
    rw [List.map_cons, List.find?_cons, List.find?_cons]
    by_cases h : q.1 = r
    · rw [show decide ((Sum.inl q.1 : Key) = Sum.inl r) = true from decide_eq_true (by rw [h]), decide_eq_true h]
      rfl
    · rw [show decide ((Sum.inl q.1 : Key) = Sum.inl r) = false from decide_eq_false fun z => h (Sum.inl.inj z), decide_eq_false h]
      exact valV_M M r
/-- what is known of such a dict -/
structure Ok (rows first : Nat) (φ : Int → Int) (M : List (Int × Int)) : Prop where
  nd : (M.map (·.1)).Nodup
  st : ∀ r, φ r = stM M r
  inn : ∀ q ∈ M, ((first : Int) ≤ q.1 ∧ q.1 < rows) ∧ (1 ≤ q.2 ∧ q.2 ≤ 3)
theorem stM_mem {M : List (Int × Int)} {r s : Int} (nd : (M.map (·.1)).Nodup) (m : (r, s) ∈ M) : stM M r = s := by
  induction M with
  | nil => cases m
  | cons q M ih =>
    unfold stM
    rw [List.find?_cons]
    rw [List.map_cons, List.nodup_cons] at nd
    rcases List.mem_cons.mp m with e | m'
    · subst e
      rw [decide_eq_true rfl]
    · have : q.1 ≠ r := fun z => nd.1 (List.mem_map.mpr ⟨(r, s), m', z.symm⟩)
      rw [decide_eq_false this]
      exact ih nd.2 m'
theorem stM_get {M : List (Int × Int)} {r : Int} (h : stM M r ≠ 0) : (r, stM M r) ∈ M := by
  unfold stM at h ⊢
  cases e : M.find? fun q => decide (q.1 = r) with
  | none => rw [e] at h; exact absurd rfl h
  | some q =>
    have h1 := List.find?_some e
    have h2 : q.1 = r := of_decide_eq_true h1
    show (r, q.2) ∈ M
    rw [← h2]
    exact List.mem_of_find?_eq_some e
theorem Ok.mem {rows first : Nat} {φ : Int → Int} {M : List (Int × Int)} (h : Ok rows first φ M) {r s : Int} (m : (r, s) ∈ M) : φ r = s := by rw [h.st, stM_mem h.nd m]
theorem Ok.get {rows first : Nat} {φ : Int → Int} {M : List (Int × Int)} (h : Ok rows first φ M) {r : Int} (n : φ r ≠ 0) : (r, φ r) ∈ M := by
  rw [h.st] at n ⊢
  exact stM_get n
theorem Ok.val {rows first : Nat} {φ : Int → Int} {M : List (Int × Int)} (h : Ok rows first φ M) (r : Int) : valV (kvM M) (Sum.inl r) = if φ r = 0 then none else some (V.int (φ r)) := by
  rw [valV_M, h.st]
  unfold stM
  cases e : M.find? fun q => decide (q.1 = r) with
  | none => rfl
  | some q =>
    have := (h.inn q (List.mem_of_find?_eq_some e)).2
    show some (V.int q.2) = if q.2 = 0 then none else some (V.int q.2)
    rw [if_neg (by omega)]
theorem Ok.range {rows first : Nat} {φ : Int → Int} {M : List (Int × Int)} (h : Ok rows first φ M) {r : Int} (n : φ r ≠ 0) : ((first : Int) ≤ r ∧ r < rows) ∧ (1 ≤ φ r ∧ φ r ≤ 3) := h.inn _ (h.get n)
def rowsL (first rows : Nat) : List Int := (List.range (rows - first)).map fun (i : Nat) => ((first + i : Nat) : Int)
theorem rowsL_mem {first rows : Nat} {r : Int} : r ∈ rowsL first rows ↔ (first : Int) ≤ r ∧ r < rows := by
  unfold rowsL
  rw [List.mem_map]
  constructor
  · rintro ⟨i, hi, rfl⟩
    have := List.mem_range.mp hi
    omega
  · rintro ⟨h1, h2⟩
    exact ⟨(r - first).toNat, List.mem_range.mpr (by omega), by omega⟩
theorem rowsL_lt (first rows : Nat) : (rowsL first rows).Pairwise (· < ·) := by
  unfold rowsL
  rw [List.pairwise_map]
  refine List.pairwise_lt_range.imp fun {a b} h => ?_
  omega
theorem rowsL_len (first rows : Nat) : (rowsL first rows).length = rows - first := by simp [rowsL]
def pickL (first rows : Nat) (φ : Int → Int) (p : Int → Bool) : List Int := (rowsL first rows).filter fun r => p (φ r)
theorem pick_sorted (first rows : Nat) (φ : Int → Int) (p : Int → Bool) : (pickL first rows φ p).Pairwise (· ≤ ·) := ((rowsL_lt first rows).filter _).imp fun h => Int.le_of_lt h
theorem pick_perm {rows first : Nat} {φ : Int → Int} {M : List (Int × Int)} (h : Ok rows first φ M) (p : Int → Bool) (hp : p 0 = false) : ((M.filter fun q => p q.2).map (·.1)).Perm (pickL first rows φ p) := by
  have n1 : ((M.filter fun q => p q.2).map (·.1)).Nodup := List.Nodup.sublist (List.Sublist.map _ List.filter_sublist) h.nd
  have n2 : (pickL first rows φ p).Nodup := List.Nodup.sublist List.filter_sublist ((rowsL_lt first rows).imp fun h => Int.ne_of_lt h)
  refine (List.perm_ext_iff_of_nodup n1 n2).mpr fun r => ?_
  unfold pickL
  rw [List.mem_map, List.mem_filter, rowsL_mem]
  constructor
  · rintro ⟨q, hq, rfl⟩
    obtain ⟨m, hp'⟩ := List.mem_filter.mp hq
    rw [h.mem (s := q.2) m]
    exact ⟨(h.inn q m).1, hp'⟩
  · rintro ⟨hr, hp'⟩
    have n : φ r ≠ 0 := fun z => by rw [z, hp] at hp'; cases hp'
    exact ⟨(r, φ r), List.mem_filter.mpr ⟨h.get n, hp'⟩, rfl⟩
def upF (φ : Int → Int) (r s : Int) : Int → Int := fun x => if x = r then s else φ x
theorem stM_snoc {M : List (Int × Int)} {r s : Int} (h : stM M r = 0) (hM : ∀ q ∈ M, 1 ≤ q.2) (x : Int) : stM (M ++ [(r, s)]) x = upF (stM M) r s x := by
  unfold upF
  by_cases e : x = r
  · subst e
    rw [if_pos rfl]
    have : M.find? (fun q => decide (q.1 = x)) = none := by
      cases q : M.find? fun q => decide (q.1 = x) with
      | none => rfl
      | some y =>
        unfold stM at h
        rw [q] at h
        have h1 := hM y (List.mem_of_find?_eq_some q)
        have h2 : y.2 = 0 := h
        omega
    unfold stM
    rw [List.find?_append, this]
    simp
  · rw [if_neg e]
    unfold stM
    rw [List.find?_append]
    cases q : M.find? fun q => decide (q.1 = x) with
    | some y => rfl
    | none => simp [Ne.symm e]
theorem Ok.put {rows first : Nat} {φ : Int → Int} {M : List (Int × Int)} (h : Ok rows first φ M) {r s : Int} (h0 : φ r = 0) (hr : (first : Int) ≤ r ∧ r < rows) (hs : 1 ≤ s ∧ s ≤ 3) : Ok rows first (upF φ r s) (M ++ [(r, s)]) := by
  have hM : ∀ q ∈ M, 1 ≤ q.2 := fun q m => (h.inn q m).2.1
  have h0' : stM M r = 0 := by rw [← h.st]; exact h0
  refine ⟨?_, fun x => ?_, fun q m => ?_⟩
  · rw [List.map_append, List.nodup_append]
    refine ⟨h.nd, by simp, fun a ha b hb => ?_⟩
    have : b = r := by simpa using hb
    subst this
    obtain ⟨q, m, rfl⟩ := List.mem_map.mp ha
    intro z
    have h1 := stM_mem h.nd (r := q.1) (s := q.2) m
    rw [z, h0'] at h1
    have := hM q m
    omega
  · rw [stM_snoc h0' hM]
    unfold upF
    split
    · rfl
    · exact h.st x
  · rcases List.mem_append.mp m with m | m
    · exact h.inn q m
    · have : q = (r, s) := by simpa using m
      subst this
      exact ⟨hr, hs⟩
theorem Ok.of {rows first : Nat} {φ : Int → Int} {M : List (Int × Int)} (nd : (M.map (·.1)).Nodup) (inn : ∀ q ∈ M, ((first : Int) ≤ q.1 ∧ q.1 < rows) ∧ (1 ≤ q.2 ∧ q.2 ≤ 3)) (hm : ∀ x, φ x ≠ 0 → (x, φ x) ∈ M) (hm2 : ∀ q ∈ M, φ q.1 = q.2) : Ok rows first φ M := by
  refine ⟨nd, fun x => ?_, inn⟩
  by_cases h : φ x = 0
  · by_cases g : stM M x = 0
    · rw [h, g]
    · have := hm2 _ (stM_get g)
      exact this
  · exact (stM_mem nd (hm x h)).symm
theorem Ok.len {rows first : Nat} {φ : Int → Int} {M : List (Int × Int)} (h : Ok rows first φ M) : M.length = (pickL first rows φ fun s => decide (s ≠ 0)).length := by
  have p := (pick_perm h (fun s => decide (s ≠ 0)) (by decide)).length_eq
  have e : (M.filter fun q => decide (q.2 ≠ 0)) = M := List.filter_eq_self.mpr fun q m => decide_eq_true (by have := (h.inn q m).2; omega)
  rw [e, List.length_map] at p
  exact p
theorem pick_le (first rows : Nat) (φ : Int → Int) (p : Int → Bool) : (pickL first rows φ p).length ≤ rows - first := Nat.le_trans (List.length_filter_le _ _) (by rw [rowsL_len]; exact Nat.le_refl _)
def setM (M : List (Int × Int)) (r s : Int) : List (Int × Int) := M.map fun q => if q.1 = r then (q.1, s) else q
theorem setM_keys (M : List (Int × Int)) (r s : Int) : (setM M r s).map (·.1) = M.map (·.1) := by
  unfold setM
  rw [List.map_map]
  refine List.map_congr_left fun q _ => ?_
  show (if q.1 = r then (q.1, s) else q).1 = q.1
  split <;> rfl
theorem kv_set {M : List (Int × Int)} {r s : Int} (h : (valV (kvM M) (Sum.inl r)).isSome = true) : putK (kvM M) (Sum.inl r) (V.int s) = kvM (setM M r s) := by
  unfold putK
  rw [valV_any, if_pos h]
  unfold kvM setM
  rw [List.map_map, List.map_map]
  refine List.map_congr_left fun q _ => ?_
  show (if (Sum.inl q.1 : Key) = Sum.inl r then ((Sum.inl q.1 : Key), V.int s) else (Sum.inl q.1, V.int q.2)) = (Sum.inl (if q.1 = r then (q.1, s) else q).1, V.int (if q.1 = r then (q.1, s) else q).2)
  by_cases e : q.1 = r
  · rw [if_pos (by rw [e]), if_pos e]
  · rw [if_neg fun z => e (Sum.inl.inj z), if_neg e]
theorem kv_new {M : List (Int × Int)} {r s : Int} (h : valV (kvM M) (Sum.inl r) = none) : putK (kvM M) (Sum.inl r) (V.int s) = kvM (M ++ [(r, s)]) := by
  rw [putK_new _ h]
  unfold kvM
  rw [List.map_append]
  rfl
def delM (M : List (Int × Int)) (r : Int) : List (Int × Int) := M.filter fun q => decide (q.1 ≠ r)
theorem kv_del (M : List (Int × Int)) (r : Int) : dropK (kvM M) (Sum.inl r) = kvM (delM M r) := by
  unfold dropK kvM delM
  rw [List.filter_map]
  congr 1
  refine List.filter_congr fun q _ => ?_
  by_cases e : q.1 = r <;> simp [e]
theorem Ok.set {rows first : Nat} {φ : Int → Int} {M : List (Int × Int)} (h : Ok rows first φ M) {r s : Int} (h0 : φ r ≠ 0) (hs : 1 ≤ s ∧ s ≤ 3) : Ok rows first (upF φ r s) (setM M r s) := by
  refine Ok.of (by rw [setM_keys]; exact h.nd) (fun q m => ?_) (fun x hx => ?_) fun q m => ?_
  · obtain ⟨y, my, rfl⟩ := List.mem_map.mp m
    have := h.inn y my
    split
    · exact ⟨this.1, hs⟩
    · exact this
  · unfold upF at hx ⊢
    by_cases e : x = r
    · subst e
      rw [if_pos rfl]
      refine List.mem_map.mpr ⟨(x, φ x), h.get h0, ?_⟩
      rw [if_pos rfl]
    · rw [if_neg e] at hx ⊢
      refine List.mem_map.mpr ⟨(x, φ x), h.get hx, ?_⟩
      rw [if_neg e]
  · obtain ⟨y, my, rfl⟩ := List.mem_map.mp m
    unfold upF
    by_cases e : y.1 = r
    · rw [if_pos e]
      show (if y.1 = r then s else _) = s
      rw [if_pos e]
    · rw [if_neg e, if_neg e]
      exact h.mem (r := y.1) (s := y.2) my
theorem Ok.del {rows first : Nat} {φ : Int → Int} {M : List (Int × Int)} (h : Ok rows first φ M) (r : Int) : Ok rows first (upF φ r 0) (delM M r) := by
  refine Ok.of (List.Nodup.sublist (List.Sublist.map _ List.filter_sublist) h.nd) (fun q m => h.inn q (List.mem_filter.mp m).1) (fun x hx => ?_) fun q m => ?_
  · unfold upF at hx ⊢
    by_cases e : x = r
    · rw [if_pos e] at hx
      exact absurd rfl hx
    · rw [if_neg e] at hx ⊢
      exact List.mem_filter.mpr ⟨h.get hx, decide_eq_true e⟩
  · obtain ⟨m1, m2⟩ := List.mem_filter.mp m
    have m2 := of_decide_eq_true m2
    unfold upF
    rw [if_neg m2]
    exact h.mem (r := q.1) (s := q.2) m1
def settM (M : List (Int × Int)) : List (Int × Int) := (M.filter fun q => decide (q.2 ≠ 3)).map fun q => (q.1, 2)
def settF (φ : Int → Int) : Int → Int := fun x => if φ x = 0 ∨ φ x = 3 then 0 else 2
theorem Ok.sett {rows first : Nat} {φ : Int → Int} {M : List (Int × Int)} (h : Ok rows first φ M) : Ok rows first (settF φ) (settM M) := by
  have ek : (settM M).map (·.1) = (M.filter fun q => decide (q.2 ≠ 3)).map (·.1) := by unfold settM; rw [List.map_map]; rfl
  refine Ok.of (by rw [ek]; exact List.Nodup.sublist (List.Sublist.map _ List.filter_sublist) h.nd) (fun q m => ?_) (fun x hx => ?_) fun q m => ?_
  · obtain ⟨y, my, rfl⟩ := List.mem_map.mp m
    exact ⟨(h.inn y (List.mem_filter.mp my).1).1, by show (1 : Int) ≤ 2; decide, by show (2 : Int) ≤ 3; decide⟩
  · unfold settF at hx ⊢
    by_cases e : φ x = 0 ∨ φ x = 3
    · rw [if_pos e] at hx
      exact absurd rfl hx
    · rw [if_neg e]
      have n0 : φ x ≠ 0 := fun z => e (.inl z)
      exact List.mem_map.mpr ⟨(x, φ x), List.mem_filter.mpr ⟨h.get n0, decide_eq_true fun z => e (.inr z)⟩, rfl⟩
  · obtain ⟨y, my, rfl⟩ := List.mem_map.mp m
    obtain ⟨m1, m2⟩ := List.mem_filter.mp my
    have m2 := of_decide_eq_true m2
    have e := h.mem (r := y.1) (s := y.2) m1
    have := (h.inn y m1).2
    show settF φ y.1 = 2
    unfold settF
    rw [if_neg (by rw [e]; omega)]
/-- a space stands at p, its dict at d -/
def SpD (a : Ad) (H : Hp) (p d : Addr) (first rows : Nat) (φ : Int → Int) : Prop := ∃ (dx : Addr) (low : Int) (M : List (Int × Int)), H p = some (.ins a.c_Space dx (flds rows first d low)) ∧ H d = some (.dK (kvM M)) ∧ Ok rows first φ M ∧ (first : Int) ≤ low ∧ (∀ r, (first : Int) ≤ r → r < low → φ r ≠ 0) ∧ low ≤ rows + 1
theorem SpD.same {a : Ad} {H H' : Hp} {p d : Addr} {first rows : Nat} {φ : Int → Int} (h : SpD a H p d first rows φ) (s : Same H H') : SpD a H' p d first rows φ := by
  obtain ⟨dx, low, M, h1, h2, h3⟩ := h
  exact ⟨dx, low, M, s _ _ h1, s _ _ h2, h3⟩
def Frm (p d : Addr) (H H' : Hp) : Prop := ∀ b o, H b = some o → b ≠ p → b ≠ d → H' b = some o
def InR (first rows : Nat) (r : Int) : Prop := (first : Int) ≤ r ∧ r < rows
def sp_Space_init (K : PySem.W.Frag) (a : Ad) : Sp := fun vs H Q _ => ∃ (p dx : Addr) (first rows : Nat), vs = [.ref p, .int (rows : Int), .int (first : Int)] ∧ H p = some (.ins a.c_Space dx []) ∧ first ≤ rows ∧
  ∀ (d : Addr) (H' : Hp), H d = none → SpD a H' p d first rows (fun _ => 0) → (∀ b o, H b = some o → b ≠ p → H' b = some o) → Q .non H'
def sp_Space_take (K : PySem.W.Frag) (a : Ad) : Sp := fun vs H Q E => ∃ (p d : Addr) (first rows : Nat) (φ : Int → Int), vs = [.ref p] ∧ SpD a H p d first rows φ ∧ rows ≤ 1000 ∧
  ((∀ r, InR first rows r → φ r ≠ 0) → ∀ H', Same H H' → E (.ref a.c_NoSpace) none H') ∧
  (∀ r, InR first rows r → φ r = 0 → (∀ q, (first : Int) ≤ q → q < r → φ q ≠ 0) → ∀ H', SpD a H' p d first rows (upF φ r 1) → Frm p d H H' → Q (.int r) H')
def sp_Space_claim (K : PySem.W.Frag) (a : Ad) : Sp := fun vs H Q E => ∃ (p d : Addr) (first rows : Nat) (φ : Int → Int) (r : Int), vs = [.ref p, .int r] ∧ SpD a H p d first rows φ ∧ rows ≤ 1000 ∧
  (¬ (InR first rows r ∧ φ r = 0) → ∀ H', Same H H' → E (.ref a.c_InvalidArgument) none H') ∧
  (InR first rows r → φ r = 0 → ∀ H', SpD a H' p d first rows (upF φ r 2) → Frm p d H H' → Q .non H')
def sp_Space_give (K : PySem.W.Frag) (a : Ad) : Sp := fun vs H Q E => ∃ (p d : Addr) (first rows : Nat) (φ : Int → Int) (r : Int), vs = [.ref p, .int r] ∧ SpD a H p d first rows φ ∧ rows ≤ 1000 ∧
  ((φ r = 0 ∨ φ r = 3) → ∀ H', Same H H' → E (.ref a.c_InvalidArgument) none H') ∧
  (¬ (φ r = 0 ∨ φ r = 3) → ∀ H', SpD a H' p d first rows (upF φ r (if φ r = 2 then 3 else 0)) → Frm p d H H' → Q .non H')
def sp_Space_settle (K : PySem.W.Frag) (a : Ad) : Sp := fun vs H Q _ => ∃ (p d : Addr) (first rows : Nat) (φ : Int → Int), vs = [.ref p] ∧ SpD a H p d first rows φ ∧ rows ≤ 1000 ∧
  ∀ (d' : Addr) (H' : Hp), H d' = none → SpD a H' p d' first rows (settF φ) → Frm p d H H' → Q .non H'
def sp_Space_is_free (K : PySem.W.Frag) (a : Ad) : Sp := fun vs H Q _ => ∃ (p d : Addr) (first rows : Nat) (φ : Int → Int) (r : Int), vs = [.ref p, .int r] ∧ SpD a H p d first rows φ ∧ ((InR first rows r ∧ φ r = 0) → Q (.bl true) H) ∧ (¬ (InR first rows r ∧ φ r = 0) → Q (.bl false) H)
def sp_Space_free_count (K : PySem.W.Frag) (a : Ad) : Sp := fun vs H Q _ => ∃ (p d : Addr) (first rows : Nat) (φ : Int → Int), vs = [.ref p] ∧ SpD a H p d first rows φ ∧ Q (.int ((rows : Int) - first - ((pickL first rows φ fun s => decide (s ≠ 0)).length : Nat))) H
def sp_Space_used_rows (K : PySem.W.Frag) (a : Ad) : Sp := fun vs H Q _ => ∃ (p d : Addr) (first rows : Nat) (φ : Int → Int), vs = [.ref p] ∧ SpD a H p d first rows φ ∧ rows ≤ 60 ∧
  ∀ (D : Addr) (H' : Hp), Same H H' → H D = none → H' D = some (.lst ((pickL first rows φ fun s => decide (s = 1 ∨ s = 2)).map V.int)) → Q (.ref D) H'
def sp_Space_waiting_rows (K : PySem.W.Frag) (a : Ad) : Sp := fun vs H Q _ => ∃ (p d : Addr) (first rows : Nat) (φ : Int → Int), vs = [.ref p] ∧ SpD a H p d first rows φ ∧ rows ≤ 60 ∧
  ∀ (D : Addr) (H' : Hp), Same H H' → H D = none → H' D = some (.lst ((pickL first rows φ fun s => decide (s = 3)).map V.int)) → Q (.ref D) H'
theorem sp_Space_init_len {K : PySem.W.Frag} {a : Ad} {vs : List V} {H : Hp} {Q : VK} {E : XK} (h : sp_Space_init K a vs H Q E) : vs.length = 3 := by
  obtain ⟨p, dx, first, rows, rfl, _⟩ := h
  rfl
theorem sp_Space_take_len {K : PySem.W.Frag} {a : Ad} {vs : List V} {H : Hp} {Q : VK} {E : XK} (h : sp_Space_take K a vs H Q E) : vs.length = 1 := by
  obtain ⟨p, d, first, rows, φ, rfl, _⟩ := h
  rfl
theorem sp_Space_claim_len {K : PySem.W.Frag} {a : Ad} {vs : List V} {H : Hp} {Q : VK} {E : XK} (h : sp_Space_claim K a vs H Q E) : vs.length = 2 := by
  obtain ⟨p, d, first, rows, φ, r, rfl, _⟩ := h
  rfl
theorem sp_Space_give_len {K : PySem.W.Frag} {a : Ad} {vs : List V} {H : Hp} {Q : VK} {E : XK} (h : sp_Space_give K a vs H Q E) : vs.length = 2 := by
  obtain ⟨p, d, first, rows, φ, r, rfl, _⟩ := h
  rfl
theorem sp_Space_settle_len {K : PySem.W.Frag} {a : Ad} {vs : List V} {H : Hp} {Q : VK} {E : XK} (h : sp_Space_settle K a vs H Q E) : vs.length = 1 := by
  obtain ⟨p, d, first, rows, φ, rfl, _⟩ := h
  rfl
theorem sp_Space_is_free_len {K : PySem.W.Frag} {a : Ad} {vs : List V} {H : Hp} {Q : VK} {E : XK} (h : sp_Space_is_free K a vs H Q E) : vs.length = 2 := by
  obtain ⟨p, d, first, rows, φ, r, rfl, _⟩ := h
  rfl
theorem sp_Space_free_count_len {K : PySem.W.Frag} {a : Ad} {vs : List V} {H : Hp} {Q : VK} {E : XK} (h : sp_Space_free_count K a vs H Q E) : vs.length = 1 := by
  obtain ⟨p, d, first, rows, φ, rfl, _⟩ := h
  rfl
theorem sp_Space_used_rows_len {K : PySem.W.Frag} {a : Ad} {vs : List V} {H : Hp} {Q : VK} {E : XK} (h : sp_Space_used_rows K a vs H Q E) : vs.length = 1 := by
  obtain ⟨p, d, first, rows, φ, rfl, _⟩ := h
  rfl
theorem sp_Space_waiting_rows_len {K : PySem.W.Frag} {a : Ad} {vs : List V} {H : Hp} {Q : VK} {E : XK} (h : sp_Space_waiting_rows K a vs H Q E) : vs.length = 1 := by
  obtain ⟨p, d, first, rows, φ, rfl, _⟩ := h
  rfl
/-! the law's own list of states -/
def cdM (s : Int) : Nat := if s = 0 then 102 else if s = 1 then 110 else if s = 2 then 111 else 119
def chM (s : Int) : Str := ⟨#[cdM s]⟩
def statesM (rows : Nat) (φ : Int → Int) : List V := (List.range rows).map fun (i : Nat) => V.str (chM (φ (i : Int)))
theorem statesM_len (rows : Nat) (φ : Int → Int) : (statesM rows φ).length = rows := by simp [statesM]
theorem statesM_get {rows i : Nat} (φ : Int → Int) (h : i < rows) : (statesM rows φ)[i]? = some (V.str (chM (φ (i : Int)))) := by
  unfold statesM
  rw [List.getElem?_map, List.getElem?_range h]
  rfl
theorem statesM_set {rows i : Nat} (φ : Int → Int) (s : Int) (h : i < rows) : (statesM rows φ).set i (V.str (chM s)) = statesM rows (upF φ (i : Int) s) := by
  refine List.ext_getElem? fun j => ?_
  rw [List.getElem?_set]
  by_cases hj : j < rows
  · rw [statesM_get _ hj, statesM_get _ hj]
    unfold upF
    by_cases e : i = j
    · subst e
      rw [if_pos rfl, if_pos (by rw [statesM_len]; exact hj), if_pos rfl]
    · rw [if_neg e, if_neg (by omega)]
  · rw [List.getElem?_eq_none (l := statesM rows φ) (by rw [statesM_len]; omega), List.getElem?_eq_none (l := statesM rows (upF φ (i : Int) s)) (by rw [statesM_len]; omega)]
    split
    · rw [if_neg (by rw [statesM_len]; omega)]
    · rfl
theorem ch_f (s : Int) : decide (V.str (chM s) = V.str (Str.ofString "f")) = decide (cdM s = 102) := by
  have e : Str.ofString "f" = ⟨#[102]⟩ := by kernel_rfl
  rw [e]
  by_cases h : cdM s = 102
  · rw [decide_eq_true h, decide_eq_true (by unfold chM; rw [h])]
  · rw [decide_eq_false h, decide_eq_false (fun z => h (by unfold chM at z; simpa using z))]
theorem ch_n (s : Int) : decide (V.str (chM s) = V.str (Str.ofString "n")) = decide (cdM s = 110) := by
  have e : Str.ofString "n" = ⟨#[110]⟩ := by kernel_rfl
  rw [e]
  by_cases h : cdM s = 110
  · rw [decide_eq_true h, decide_eq_true (by unfold chM; rw [h])]
  · rw [decide_eq_false h, decide_eq_false (fun z => h (by unfold chM at z; simpa using z))]
theorem ch_w (s : Int) : decide (V.str (chM s) = V.str (Str.ofString "w")) = decide (cdM s = 119) := by
  have e : Str.ofString "w" = ⟨#[119]⟩ := by kernel_rfl
  rw [e]
  by_cases h : cdM s = 119
  · rw [decide_eq_true h, decide_eq_true (by unfold chM; rw [h])]
  · rw [decide_eq_false h, decide_eq_false (fun z => h (by unfold chM at z; simpa using z))]
theorem ch_no (s : Int) : decide (cdM s ∈ (Str.ofString "no").cps.toList) = decide (cdM s = 110 ∨ cdM s = 111) := by
  have e : (Str.ofString "no").cps.toList = [110, 111] := by kernel_rfl
  rw [e]
  simp
theorem cd_f {s : Int} : cdM s = 102 ↔ s = 0 := by unfold cdM; split <;> (try split) <;> (try split) <;> omega
theorem cd_n {s : Int} : cdM s = 110 ↔ s = 1 := by unfold cdM; split <;> (try split) <;> (try split) <;> omega
theorem cd_o {s : Int} : cdM s = 111 ↔ s = 2 := by unfold cdM; split <;> (try split) <;> (try split) <;> omega
theorem cd_w {s : Int} (h : s ≤ 3) (h0 : 0 ≤ s) : cdM s = 119 ↔ s = 3 := by unfold cdM; split <;> (try split) <;> (try split) <;> omega
theorem SpD.vals {a : Ad} {H : Hp} {p d : Addr} {first rows : Nat} {φ : Int → Int} (h : SpD a H p d first rows φ) (r : Int) : 0 ≤ φ r ∧ φ r ≤ 3 := by
  obtain ⟨dx, low, M, h1, h2, h3, _⟩ := h
  by_cases e : φ r = 0
  · omega
  · have := (h3.range e).2
    omega
theorem SpD.out {a : Ad} {H : Hp} {p d : Addr} {first rows : Nat} {φ : Int → Int} (h : SpD a H p d first rows φ) {r : Int} (n : ¬ InR first rows r) : φ r = 0 := by
  obtain ⟨dx, low, M, h1, h2, h3, _⟩ := h
  exact Classical.byContradiction fun e => n (h3.range e).1
theorem pick_split {a : Ad} {H : Hp} {p d : Addr} {first rows : Nat} {φ : Int → Int} (h : SpD a H p d first rows φ) : (pickL first rows φ fun s => decide (s ≠ 0)).length = (pickL first rows φ fun s => decide (s = 1 ∨ s = 2)).length + (pickL first rows φ fun s => decide (s = 3)).length := by
  unfold pickL
  generalize rowsL first rows = L
  induction L with
  | nil => rfl
  | cons r L ih =>
    have hv := h.vals r
    rw [List.filter_cons, List.filter_cons, List.filter_cons]
    have : φ r = 0 ∨ φ r = 1 ∨ φ r = 2 ∨ φ r = 3 := by omega
    rcases this with e | e | e | e
    all_goals
      simp [e] at ih ⊢
      omega
theorem st_f : (V.str (Str.ofString "f") : V) = V.str (chM 0) := by kernel_rfl
theorem st_n : (V.str (Str.ofString "n") : V) = V.str (chM 1) := by kernel_rfl
theorem st_o : (V.str (Str.ofString "o") : V) = V.str (chM 2) := by kernel_rfl
theorem st_w : (V.str (Str.ofString "w") : V) = V.str (chM 3) := by kernel_rfl
theorem pick_head {first rows : Nat} {φ : Int → Int} {r : Int} (hr : InR first rows r) (e : φ r = 0) (h : ∀ q, (first : Int) ≤ q → q < r → φ q ≠ 0) : (pickL first rows φ fun s => decide (s = 0))[0]? = some r := by
  have m : r ∈ pickL first rows φ fun s => decide (s = 0) := List.mem_filter.mpr ⟨rowsL_mem.mpr hr, decide_eq_true e⟩
  have so := pick_sorted first rows φ fun s => decide (s = 0)
  have all : ∀ x ∈ pickL first rows φ fun s => decide (s = 0), (first : Int) ≤ x ∧ φ x = 0 := fun x mx => by
    obtain ⟨a1, a2⟩ := List.mem_filter.mp mx
    exact ⟨(rowsL_mem.mp a1).1, of_decide_eq_true a2⟩
  generalize (pickL first rows φ fun s => decide (s = 0)) = L at m so all
  cases L with
  | nil => cases m
  | cons x L =>
    obtain ⟨b1, b2⟩ := all x (by simp)
    have : x ≤ r := by
      rcases List.mem_cons.mp m with z | z
      · omega
      · exact (List.pairwise_cons.mp so).1 r z
    have : ¬ x < r := fun z => h x b1 z b2
    show some x = some r
    congr 1
    omega
theorem pick_none {first rows : Nat} {φ : Int → Int} (h : ∀ r, InR first rows r → φ r ≠ 0) : (pickL first rows φ fun s => decide (s = 0)) = [] :=
  List.filter_eq_nil_iff.mpr fun r m z => h r (rowsL_mem.mp m) (of_decide_eq_true z)
def partF (φ : Int → Int) (first i : Nat) : Int → Int := fun x => if (first : Int) ≤ x ∧ x < ((first + i : Nat) : Int) then settF φ x else φ x
theorem partF_zero (φ : Int → Int) (first : Nat) : partF φ first 0 = φ := funext fun x => by
  unfold partF
  rw [if_neg (by omega)]
theorem partF_succ (φ : Int → Int) (first i : Nat) : partF φ first (i + 1) = upF (partF φ first i) ((first + i : Nat) : Int) (settF φ ((first + i : Nat) : Int)) := funext fun x => by
  unfold partF upF
  by_cases e : x = ((first + i : Nat) : Int)
  · subst e
    rw [if_pos rfl, if_pos (by omega)]
  · rw [if_neg e]
    show _ = if (first : Int) ≤ x ∧ x < ((first + i : Nat) : Int) then settF φ x else φ x
    by_cases q : (first : Int) ≤ x ∧ x < ((first + i : Nat) : Int)
    · rw [if_pos q, if_pos (by omega)]
    · rw [if_neg q, if_neg (by omega)]
theorem states_new (rows : Nat) : (List.replicate rows [V.str (Str.ofString "f")]).flatten = statesM rows fun _ => 0 := by
  rw [st_f]
  refine List.ext_getElem? fun j => ?_
  have e : (List.replicate rows [V.str (chM 0)]).flatten = List.replicate rows (V.str (chM 0)) := by
    induction rows with
    | zero => rfl
    | succ n ih => rw [List.replicate_succ, List.flatten_cons, ih, List.replicate_succ]; rfl
  rw [e]
  by_cases h : j < rows
  · rw [statesM_get _ h, List.getElem?_replicate, if_pos h]
  · rw [List.getElem?_eq_none (by rw [List.length_replicate]; omega), List.getElem?_eq_none (by rw [statesM_len]; omega)]
theorem SpD.only {a : Ad} {H H' : Hp} {p l q d : Addr} {first rows : Nat} {φ : Int → Int} (h : SpD a H q d first rows φ) (P : Pot H p l) (o : Only p H H') : SpD a H' q d first rows φ := by
  obtain ⟨dx, low, M, h1, h2, h3⟩ := h
  obtain ⟨i, acc, seed, hp⟩ := P.list
  exact ⟨dx, low, M, by rw [o _ (ne_of h1 hp (by intro z; cases z))]; exact h1, by rw [o _ (ne_of h2 hp (by intro z; cases z))]; exact h2, h3⟩
theorem make_free {H H' : Hp} {x dx d : Addr} {u v : HO} (nd : upd (upd H dx u) x v d = none) : H d = none := by
  have n1 : d ≠ x := fun z => by rw [z, upd_same] at nd; cases nd
  rw [upd_ne n1] at nd
  have n2 : d ≠ dx := fun z => by rw [z, upd_same] at nd; cases nd
  rw [upd_ne n2] at nd
  exact nd
def sp_law_take (K : PySem.W.Frag) (a : Ad) : Sp := fun vs H Q _ => ∃ (p d : Addr) (first rows : Nat) (φ : Int → Int), vs = [.ref p] ∧ SpD a H p d first rows φ ∧ rows ≤ 1000 ∧
  ((∀ r, InR first rows r → φ r ≠ 0) → ∀ H', Same H H' → Q (.int (-2)) H') ∧
  (∀ r, InR first rows r → φ r = 0 → (∀ q, (first : Int) ≤ q → q < r → φ q ≠ 0) → ∀ H', SpD a H' p d first rows (upF φ r 1) → Frm p d H H' → Q (.int r) H')
def sp_law_claim (K : PySem.W.Frag) (a : Ad) : Sp := fun vs H Q _ => ∃ (p d : Addr) (first rows : Nat) (φ : Int → Int) (r : Int), vs = [.ref p, .int r] ∧ SpD a H p d first rows φ ∧ rows ≤ 1000 ∧
  (¬ (InR first rows r ∧ φ r = 0) → ∀ H', Same H H' → Q (.int (-2)) H') ∧
  (InR first rows r → φ r = 0 → ∀ H', SpD a H' p d first rows (upF φ r 2) → Frm p d H H' → Q .non H')
def sp_law_give (K : PySem.W.Frag) (a : Ad) : Sp := fun vs H Q _ => ∃ (p d : Addr) (first rows : Nat) (φ : Int → Int) (r : Int), vs = [.ref p, .int r] ∧ SpD a H p d first rows φ ∧ rows ≤ 1000 ∧
  ((φ r = 0 ∨ φ r = 3) → ∀ H', Same H H' → Q (.int (-2)) H') ∧
  (¬ (φ r = 0 ∨ φ r = 3) → ∀ H', SpD a H' p d first rows (upF φ r (if φ r = 2 then 3 else 0)) → Frm p d H H' → Q .non H')
def sp_law_looks_right (K : PySem.W.Frag) (a : Ad) : Sp := fun vs H Q _ => ∃ (p d S : Addr) (first rows : Nat) (φ : Int → Int), vs = [.ref p, .ref S, .int (first : Int)] ∧ SpD a H p d first rows φ ∧ H S = some (.lst (statesM rows φ)) ∧ rows ≤ 60 ∧ first ≤ rows ∧ ∀ H', Same H H' → Q (.bl true) H'
def sp_law_step (K : PySem.W.Frag) (a : Ad) : Sp := fun vs H Q _ => ∃ (p d S : Addr) (first rows : Nat) (φ : Int → Int) (kind row : Int), vs = [.ref p, .ref S, .int (first : Int), .int kind, .int row] ∧ SpD a H p d first rows φ ∧ H S = some (.lst (statesM rows φ)) ∧ rows ≤ 60 ∧ first ≤ rows ∧ -100 ≤ row ∧ row ≤ 100 ∧
  ∀ (d' : Addr) (φ' : Int → Int) (H' : Hp), (d' = d ∨ H d' = none) → SpD a H' p d' first rows φ' → H' S = some (.lst (statesM rows φ')) → (∀ b o, H b = some o → b ≠ p → b ≠ d → b ≠ S → H' b = some o) → Q (.bl true) H'
theorem sp_law_take_len {K : PySem.W.Frag} {a : Ad} {vs : List V} {H : Hp} {Q : VK} {E : XK} (h : sp_law_take K a vs H Q E) : vs.length = 1 := by
  obtain ⟨p, d, first, rows, φ, rfl, _⟩ := h
  rfl
theorem sp_law_claim_len {K : PySem.W.Frag} {a : Ad} {vs : List V} {H : Hp} {Q : VK} {E : XK} (h : sp_law_claim K a vs H Q E) : vs.length = 2 := by
  obtain ⟨p, d, first, rows, φ, r, rfl, _⟩ := h
  rfl
theorem sp_law_give_len {K : PySem.W.Frag} {a : Ad} {vs : List V} {H : Hp} {Q : VK} {E : XK} (h : sp_law_give K a vs H Q E) : vs.length = 2 := by
  obtain ⟨p, d, first, rows, φ, r, rfl, _⟩ := h
  rfl
theorem sp_law_looks_right_len {K : PySem.W.Frag} {a : Ad} {vs : List V} {H : Hp} {Q : VK} {E : XK} (h : sp_law_looks_right K a vs H Q E) : vs.length = 3 := by
  obtain ⟨p, d, S, first, rows, φ, rfl, _⟩ := h
  rfl
theorem sp_law_step_len {K : PySem.W.Frag} {a : Ad} {vs : List V} {H : Hp} {Q : VK} {E : XK} (h : sp_law_step K a vs H Q E) : vs.length = 5 := by
  obtain ⟨p, d, S, first, rows, φ, kind, row, rfl, _⟩ := h
  rfl
section
variable {P : Program} {w : World} {K : PySem.W.Frag} {mg : Str → Option Value} {base : Heap} {a : Ad}
theorem sc_law_pot : FnScope ["script", "seed", "cell"] ["script"] (defScope s_law_pot) := ⟨rfl, rfl, rfl, by decide +kernel, rfl, by decide +kernel, by decide +kernel⟩
theorem ok_law_pot (T : Txt K mg a) : FnOk P w K mg base CX0 1 a.f_law_pot a.d_law_pot ["script"] (sp_law_pot K a) := by
  refine T.F_law_pot.ok sc_law_pot (fun vs H Q E h => ?len) (fun cdv A outer s H vs Q E hr h => ?body)
  case len =>
    exact sp_law_pot_len h
  case body =>
    obtain ⟨s, ns, rfl, hS, hlen, k⟩ := h
    refine ⟨_, (pss_cons (ps_set (i := 1) sc_law_pot.nd rfl (Or.inl rfl) pe_int)
      (pss_cons (ps_for PassesOwn.never rfl (pi_list (pv 0)) (pg_name (i := 2) sc_law_pot.nd rfl (Or.inl rfl))
      (pss_one (ps_set (i := 1) sc_law_pot.nd rfl (Or.inl rfl) (pe_op op_mod (pe_callTy call_int1 (by rfl) T.n_int (by decide +kernel) (pa_cons (pe_op op_add (pe_op op_mul (pv 1) pe_int) (pv 2)) pa_nil)) pe_int))))
      (pss_one (ps_ret (pe_lst (pa_cons (pe_callTy call_list_of (by rfl) T.n_list (by decide +kernel) (pa_cons (pv 0) pa_nil)) (pa_cons pe_int (pa_cons pe_int (pa_cons (pv 1) pa_nil))))))))), ?_⟩
    refine ⟨_, rfl, s, rfl, ⟨_, hS⟩, for_list (K := K) (a := s) (xs := ns.map V.int) (fun i σ H' => ∃ (z : Int) (v : Option V), σ = [some (.ref s), some (.int z), v] ∧ 0 ≤ z ∧ z < 2147483647 ∧ H' = H)
      ⟨1, none, rfl, by decide, by decide, rfl⟩ (fun i σ H' _ ⟨_, _, _, _, _, e⟩ => by rw [e]; exact hS) ?_ ?_⟩
    · rintro i y σ H' hi ⟨z, v, rfl, z0, z1, rfl⟩
      obtain ⟨c, hc, rfl⟩ := int_item hi
      refine ⟨_, rfl, _, _, rfl, rfl, .inl ⟨by omega, by omega⟩, _, rfl, _, _, rfl, rfl, .inl ⟨_, rfl, _, _, rfl, rfl, (by show (0 : Int) < 2147483647; decide), ?_⟩⟩
      exact ⟨_, _, rfl, Int.emod_nonneg _ (by decide), Int.emod_lt_of_pos _ (by decide), rfl⟩
    · rintro σ H' ⟨z, v, rfl, z0, z1, rfl⟩
      refine ⟨_, rfl, s, _, rfl, .inl hS, fun l hl => ?_⟩
      refine ⟨_, rfl, (by show 4 ≤ sizeLine; decide), fun p hp => ?_⟩
      have npl : l ≠ p := fun e => by subst e; rw [upd_same] at hp; cases hp
      have hp0 : H' p = none := by rw [upd_ne npl.symm] at hp; exact hp
      refine k p l _ hp0 hl (fun b o e => ?_) ⟨ns, 0, 0, z, upd_same, by rw [upd_ne npl, upd_same], by decide, by decide, z0, z1⟩
      rw [upd_ne (ne_of_none e hp0), upd_ne (ne_of_none e hl)]
      exact e
theorem sc_law_next : FnScope ["pot", "limit", "cell", "found", "mixed"] ["pot", "limit"] (defScope s_law_next) := ⟨rfl, rfl, rfl, by decide +kernel, rfl, by decide +kernel, by decide +kernel⟩
theorem ok_law_next (T : Txt K mg a) : FnOk P w K mg base CX0 1 a.f_law_next a.d_law_next ["pot", "limit"] (sp_law_next K a) := by
  refine T.F_law_next.ok sc_law_next (fun vs H Q E h => ?len) (fun cdv A outer s H vs Q E hr h => ?body)
  case len =>
    exact sp_law_next_len h
  case body =>
    obtain ⟨p, l, m, rfl, hP, m0, m1, k⟩ := h
    obtain ⟨ns, i, acc, seed, h1, h2, i0, acc0, s0, s1⟩ := id hP
    have nlp := hP.ne
    have mod0 : ∀ x : Int, 0 ≤ x % m := fun x => Int.emod_nonneg _ (by omega)
    have mod1 : ∀ x : Int, x % m < m := fun x => Int.emod_lt_of_pos _ m0
    have mW : m.natAbs < 2 ^ 41 := by
      have : m.natAbs < 2199023255552 := by omega
      exact this
    refine ⟨_, (Evl.pss_cut (ps_if (PW.pt (pw_and (pt_cmpR op_eq (pe_ix ix_list (pv 0) pe_int (fun _ _ => rfl)) pe_int (nomark _)) (pw_and1 (pt_cmpR op_lt (pe_ix ix_list (pv 0) pe_int (fun _ _ => rfl)) (pe_callB call_len_seq (by rfl) T.n_len PySem.boot_len (pa_cons (pe_ix ix_list (pv 0) pe_int (fun _ _ => rfl)) pa_nil)) (nomark _)))))
      (pss_cons (ps_set (i := 2) sc_law_next.nd rfl (Or.inl rfl) (pe_callB call_abs (by rfl) T.n_abs (by decide +kernel) (pa_cons (pe_callTy call_int1 (by rfl) T.n_int (by decide +kernel) (pa_cons (pe_ix ix_list (pe_ix ix_list (pv 0) pe_int (fun _ _ => rfl)) (pe_ix ix_list (pv 0) pe_int (fun _ _ => rfl)) (fun _ _ => rfl)) pa_nil)) pa_nil)))
      (pss_cons (ps_asg (pe_op op_add (pe_ix ix_list (pv 0) pe_int (fun _ _ => rfl)) pe_int) (pg_sub (pv 0) pe_int set_list))
      (pss_cons (ps_if (pt_cmpR op_lt (pv 2) (pe_op op_pow pe_int pe_int) (nomark _))
      (pss_one (ps_ret (pe_op op_mod (pe_callTy call_int1 (by rfl) T.n_int (by decide +kernel) (pa_cons (pv 2) pa_nil)) (pv 1))))
      pss_nil)
      (pss_one (ps_asg (pv 2) (pg_sub (pv 0) pe_int set_list))))))
      pss_nil)
      (pss_cons (ps_if (pt_cmpR op_gt (pe_ix ix_list (pv 0) pe_int (fun _ _ => rfl)) pe_int (nomark _))
      (pss_cons (ps_set (i := 3) sc_law_next.nd rfl (Or.inl rfl) (pe_op op_mod (pe_callTy call_int1 (by rfl) T.n_int (by decide +kernel) (pa_cons (pe_ix ix_list (pv 0) pe_int (fun _ _ => rfl)) pa_nil)) (pv 1)))
      (pss_cons (ps_asg (pe_op op_fdivW (pe_ix ix_list (pv 0) pe_int (fun _ _ => rfl)) (pv 1)) (pg_sub (pv 0) pe_int set_list))
      (pss_one (ps_ret (pv 3)))))
      pss_nil)
      (pss_cons (ps_asg (pe_op op_mod (pe_callTy call_int1 (by rfl) T.n_int (by decide +kernel) (pa_cons (pe_op op_add (pe_op op_mul (pe_ix ix_list (pv 0) pe_int (fun _ _ => rfl)) pe_int) pe_int) pa_nil)) pe_int) (pg_sub (pv 0) pe_int set_list))
      (pss_cons (ps_set (i := 4) sc_law_next.nd rfl (Or.inl rfl) (pe_op op_mod (pe_callTy call_int1 (by rfl) T.n_int (by decide +kernel) (pa_cons (pe_op op_add (pe_op op_mul (pe_ix ix_list (pv 0) pe_int (fun _ _ => rfl)) pe_int) (pe_op op_fdiv (pe_ix ix_list (pv 0) pe_int (fun _ _ => rfl)) pe_int)) pa_nil)) pe_int))
      (pss_one (ps_ret (pe_op op_mod (pe_callTy call_int1 (by rfl) T.n_int (by decide +kernel) (pa_cons (pv 4) pa_nil)) (pv 1)))))))), ?_⟩
    refine ⟨fun σ H' => ∃ (u : Option V) (i' acc' : Int), σ = [some (.ref p), some (.int m), u, none, none] ∧ H' p = some (.lst [.ref l, .int i', .int acc', .int seed]) ∧ 0 ≤ i' ∧ 0 ≤ acc' ∧ Only p H H', ?_, ?_⟩
    · -- if pot[2] == 0 and pot[1] < len(pot[0])
      refine ⟨_, rfl, p, _, _, _, rfl, rfl, SqL.of h1, at_of (j := 2) rfl rfl, rfl, _, rfl, ?_⟩
      refine ite2 (fun e2 => ?_) (fun e2 => iteF ⟨none, i, acc, rfl, h1, i0, acc0, Only.refl⟩)
      refine ⟨_, rfl, p, _, _, _, rfl, rfl, SqL.of h1, at_of (j := 1) rfl rfl, _, rfl, p, _, _, _, rfl, rfl, SqL.of h1, at_of (j := 0) rfl rfl, l, _, rfl, .inl (SqL.of h2), _, _, rfl, rfl, _, rfl, ?_⟩
      refine ite2 (fun e3 => ?_) (fun e3 => ⟨none, i, acc, rfl, h1, i0, acc0, Only.refl⟩)
      have i1 : i < (ns.length : Int) := by
        have := of_decide_eq_true e3
        rw [List.length_map] at this
        exact this
      obtain ⟨j, rfl⟩ : ∃ j : Nat, i = (j : Int) := ⟨i.toNat, by omega⟩
      have hj : j < ns.length := by omega
      have hit : (ns.map V.int)[j]? = some (V.int ns[j]) := by rw [List.getElem?_map, List.getElem?_eq_getElem hj]; rfl
      -- cell = abs(int(pot[0][pot[1]])); pot[1] = pot[1] + 1
      refine ⟨_, rfl, p, _, _, _, rfl, rfl, SqL.of h1, at_of (j := 0) rfl rfl, _, rfl, p, _, _, _, rfl, rfl, SqL.of h1, at_of (j := 1) rfl rfl, l, _, _, _, rfl, rfl, SqL.of h2, at_of (j := j) rfl hit, .inl ⟨_, rfl, _, rfl, ?_⟩⟩
      have abs0 : 0 ≤ (if ns[j] < 0 then -ns[j] else ns[j]) := by split <;> omega
      generalize (if ns[j] < 0 then -ns[j] else ns[j]) = c at abs0 ⊢
      refine ⟨_, rfl, p, _, _, _, rfl, rfl, SqL.of h1, at_of (j := 1) rfl rfl, _, _, rfl, rfl, _, rfl, p, _, _, 1, rfl, rfl, h1, rfl, ?_⟩
      have g1 : upd H p (.lst (List.set [V.ref l, V.int (j : Int), V.int acc, V.int seed] 1 (V.int ((j : Int) + 1)))) p = some (.lst [.ref l, .int ((j : Int) + 1), .int acc, .int seed]) := upd_same
      -- if cell < 10 ** 18: return int(cell) % limit
      refine ⟨_, rfl, _, _, rfl, rfl, ⟨by decide, by decide, by decide⟩, _, _, rfl, rfl, _, rfl, ?_⟩
      refine ite2 (fun e4 => ?_) (fun e4 => ?_)
      · refine ⟨_, rfl, .inl ⟨_, rfl, _, rfl, _, _, rfl, rfl, m0, ?_⟩⟩
        exact k _ _ (mod0 _) (mod1 _) ⟨ns, _, _, _, g1, by rw [upd_ne nlp]; exact h2, by omega, acc0, s0, s1⟩ Only.upd
      · -- pot[2] = cell
        refine ⟨_, rfl, _, rfl, p, _, _, 2, rfl, rfl, g1, rfl, ?_⟩
        exact ⟨_, (j : Int) + 1, c, rfl, upd_same, by omega, abs0, Only.upd.trans Only.upd⟩
    · rintro σ H' ⟨u, i', acc', rfl, g1, i0', acc0', oH⟩
      have g2 : H' l = some (.lst (ns.map V.int)) := by rw [oH _ nlp]; exact h2
      -- if pot[2] > 0
      refine ⟨_, rfl, p, _, _, _, rfl, rfl, SqL.of g1, at_of (j := 2) rfl rfl, _, _, rfl, rfl, _, rfl, ?_⟩
      refine ite2 (fun e2 => ?_) (fun e2 => ?_)
      · refine ⟨_, rfl, p, _, _, _, rfl, rfl, SqL.of g1, at_of (j := 2) rfl rfl, .inl ⟨_, rfl, _, rfl, _, _, rfl, rfl, m0, ?_⟩⟩
        refine ⟨_, rfl, p, _, _, _, rfl, rfl, SqL.of g1, at_of (j := 2) rfl rfl, _, rfl, _, _, rfl, rfl, wide_div m0 mW (by decide) (by decide), _, rfl, p, _, _, 2, rfl, rfl, g1, rfl, ?_⟩
        refine ⟨_, rfl, ?_⟩
        exact k _ _ (mod0 _) (mod1 _) ⟨ns, i', acc' / m, seed, upd_same, by rw [upd_ne nlp]; exact g2, i0', Int.ediv_nonneg acc0' (by omega), s0, s1⟩ (oH.trans Only.upd)
      · -- pot[3] = int(pot[3] * 48271 + 12345) % 2147483647
        refine ⟨_, rfl, p, _, _, _, rfl, rfl, SqL.of g1, at_of (j := 3) rfl rfl, _, _, rfl, rfl, .inl ⟨by omega, by omega⟩, _, _, rfl, rfl, .inl ⟨_, rfl, _, _, rfl, rfl, (by show (0 : Int) < 2147483647; decide), ?_⟩⟩
        have t0 := Int.emod_nonneg (seed * 48271 + 12345) (show (2147483647 : Int) ≠ 0 by decide)
        have t1 := Int.emod_lt_of_pos (seed * 48271 + 12345) (show (0 : Int) < 2147483647 by decide)
        refine ⟨_, rfl, p, _, _, 3, rfl, rfl, g1, rfl, ?_⟩
        have g3 : upd H' p (.lst (List.set [V.ref l, V.int i', V.int acc', V.int seed] 3 (V.int ((seed * 48271 + 12345) % 2147483647)))) p = some (.lst [.ref l, .int i', .int acc', .int ((seed * 48271 + 12345) % 2147483647)]) := upd_same
        refine ⟨_, rfl, p, _, _, _, rfl, rfl, SqL.of g3, at_of (j := 3) rfl rfl, _, _, rfl, rfl, .inl ⟨by omega, by omega⟩, _, rfl, p, _, _, _, rfl, rfl, SqL.of g3, at_of (j := 3) rfl rfl, _, _, rfl, rfl, ⟨by decide, by decide⟩, _, _, rfl, rfl, .inl ⟨_, rfl, _, _, rfl, rfl, (by show (0 : Int) < 2147483629; decide), ?_⟩⟩
        refine ⟨_, rfl, .inl ⟨_, rfl, _, rfl, _, _, rfl, rfl, m0, ?_⟩⟩
        exact k _ _ (mod0 _) (mod1 _) ⟨ns, _, _, _, g3, by rw [upd_ne nlp]; exact g2, i0', acc0', t0, t1⟩ (oH.trans Only.upd)
theorem sc_law_is_int : FnScope ["value"] ["value"] (defScope s_law_is_int) := ⟨rfl, rfl, rfl, by decide +kernel, rfl, by decide +kernel, by decide +kernel⟩
theorem ok_law_is_int (T : Txt K mg a) : FnOk P w K mg base CX0 1 a.f_law_is_int a.d_law_is_int ["value"] (sp_law_is_int K a) := by
  refine T.F_law_is_int.ok sc_law_is_int (fun vs H Q E h => ?len) (fun cdv A outer s H vs Q E hr h => ?body)
  case len =>
    exact sp_law_is_int_len h
  case body =>
    obtain ⟨x, rfl, k⟩ := h
    refine ⟨_, (pss_one (ps_ret (pe_and (pe_callB call_isi (by rfl) T.n_isinstance (by decide +kernel) (pa_cons (pv 0) (pa_cons (pe_bltn (v := .ty "int") (by rfl) T.n_int (by decide +kernel) rfl) pa_nil))) (pe_one (pe_not (pe_callB call_isi (by rfl) T.n_isinstance (by decide +kernel) (pa_cons (pv 0) (pa_cons (pe_bltn (v := .ty "bool") (by rfl) T.n_bool (by decide +kernel) rfl) pa_nil)))))))), ?_⟩
    refine ⟨_, rfl, _, _, _, _, true, rfl, .ty "int", .base (.int x), kit_ty (by decide +kernel), _, rfl, ?_⟩
    refine iteT ?_
    exact ⟨_, rfl, _, _, _, _, false, rfl, .ty "bool", .base (.int x), kit_ty (by decide +kernel), _, rfl, k⟩
theorem sc_Space_init : FnScope ["self", "rows", "first"] ["self", "rows", "first"] (defScope s_Space_init) := ⟨rfl, rfl, rfl, by decide +kernel, rfl, by decide +kernel, by decide +kernel⟩
theorem ok_Space_init (T : Txt K mg a) : FnOk P w K mg base CX0 1 a.f_Space_init a.d_Space_init ["self", "rows", "first"] (sp_Space_init K a) := by
  refine T.F_Space_init.ok sc_Space_init (fun vs H Q E h => ?len) (fun cdv A outer s H vs Q E hr h => ?body)
  case len =>
    exact sp_Space_init_len h
  case body =>
    obtain ⟨p, dx, first, rows, rfl, hp, hfr, k⟩ := h
    refine ⟨_, (pss_cons (ps_fld (pv 0) (pv 1) rfl)
      (pss_cons (ps_fld (pv 0) (pv 2) rfl)
      (pss_cons (ps_fld (pv 0) pe_dnewK rfl)
      (pss_one (ps_fld (pv 0) (pv 2) rfl))))), ?_⟩
    refine ⟨_, rfl, _, rfl, p, _, dx, _, rfl, hp, T.cl_Space, T.na_Space_rows, (by show 0 < 1000; decide), ?_⟩
    refine ⟨_, rfl, _, rfl, p, _, dx, _, rfl, upd_same, T.cl_Space, T.na_Space_first, (by show 1 < 1000; decide), ?_⟩
    intro d hd
    have npd : p ≠ d := ne_of_none (upd_same) hd
    have hd0 : H d = none := by rw [upd_ne npd.symm, upd_ne npd.symm] at hd; exact hd
    refine ⟨_, rfl, p, _, dx, _, rfl, (by rw [upd_ne npd]; exact upd_same), T.cl_Space, T.na_Space_states, (by show 2 < 1000; decide), ?_⟩
    refine ⟨_, rfl, _, rfl, p, _, dx, _, rfl, upd_same, T.cl_Space, T.na_Space_lowest, (by show 3 < 1000; decide), ?_⟩
    refine k d _ hd0 ⟨dx, first, [], ?_, ?_, ⟨List.nodup_nil, fun _ => rfl, fun _ m => nomatch m⟩, Int.le_refl _, fun r a1 a2 => by omega, by omega⟩ fun b o e nb => ?_
    · rw [upd_same]
      exact congrArg (fun l => some (HO.ins a.c_Space dx l)) (flds_init (rows : Int) (first : Int) d)
    · rw [upd_ne npd.symm, upd_ne npd.symm, upd_same]
      rfl
    · rw [upd_ne nb, upd_ne nb, upd_ne (ne_of_none e hd0), upd_ne nb, upd_ne nb]
      exact e
theorem sc_Space_take : FnScope ["self", "row"] ["self"] (defScope s_Space_take) := ⟨rfl, rfl, rfl, by decide +kernel, rfl, by decide +kernel, by decide +kernel⟩
theorem ok_Space_take (T : Txt K mg a) : FnOk P w K mg base (L2.CX P w) 1 a.f_Space_take a.d_Space_take ["self"] (sp_Space_take K a) := by
  refine T.F_Space_take.okX sc_Space_take (fun vs H Q E h => ?len) (fun cdv A outer s H vs Q E hr h => ?body)
  case len =>
    exact sp_Space_take_len h
  case body =>
    obtain ⟨p, d, first, rows, φ, rfl, hs, hr1, kE, kQ⟩ := h
    obtain ⟨dx, low, M, h1, h2, ok, l1, l2, l3⟩ := hs
    have npd : p ≠ d := ne_of h1 h2 (by intro z; cases z)
    refine ⟨_, (pss_cons (ps_set (i := 1) sc_Space_take.nd rfl (Or.inl rfl) (pe_fld (pv 0) rfl))
      (pss_cons (ps_while (passes_of rfl) (pt_cmp (pc_din (hu_of hr) (pv 1) (pe_fld (pv 0) rfl)))
      (pss_one (ps_aug (i := 1) sc_Space_take.nd rfl (Or.inl rfl) pe_int ip_add)))
      (pss_cons (ps_if (pt_cmpR op_ge (pv 1) (pe_fld (pv 0) rfl) (nomark _))
      (pss_one (ps_raise rfl (takes_of rfl rfl rfl rfl) (pmk_own PySem.F.excBase_ValueError T.x_NoSpace T.g_NoSpace T.k_NoSpace (raises_own T.b_NoSpace T.t_NoSpace) (by exact rfl))))
      pss_nil)
      (pss_cons (ps_dput (hu_of hr) (pe_fld (pv 0) rfl) (pv 1) (pe_const T.g_NEW) rfl)
      (pss_cons (ps_fld (pv 0) (pe_op op_add (pv 1) pe_int) rfl)
      (pss_one (ps_ret (pv 1)))))))), ?_⟩
    refine ⟨_, rfl, p, _, dx, _, _, rfl, h1, T.cl_Space, T.na_Space_lowest, flds_lowest _ _ _ _, ?_⟩
    -- while row in self._states
    refine ⟨fun n σ H' => ∃ row : Int, σ = [some (.ref p), some (.int row)] ∧ n = ((rows : Int) + 2 - row).toNat ∧ low ≤ row ∧ row ≤ rows + 1 ∧ (∀ r, (first : Int) ≤ r → r < row → φ r ≠ 0) ∧ H' = H, ⟨_, low, rfl, rfl, Int.le_refl _, l3, l2, rfl⟩, ?_⟩
    rintro n σ H' ⟨row, rfl, rfl, a1, a2, a3, rfl⟩
    refine ⟨_, rfl, _, rfl, p, _, dx, _, _, rfl, h1, T.cl_Space, T.na_Space_states, flds_states _ _ _ _, d, _, rfl, DGet.k (k := Sum.inl row) h2, _, rfl, ?_⟩
    rw [ok.val]
    by_cases e : φ row = 0
    · rw [if_pos e]
      refine iteF ?_
      refine ⟨_, rfl, _, rfl, p, _, dx, _, _, rfl, h1, T.cl_Space, T.na_Space_rows, flds_rows _ _ _ _, _, _, rfl, rfl, _, rfl, ite2 (fun b => kE (fun r hr => a3 r hr.1 (by have := of_decide_eq_true b; have := hr.2; omega)) _ (Same.refl _)) (fun b => ?_)⟩
      have b' : row < rows := Int.not_le.mp fun z => b (decide_eq_true z)
      have vn : valV (kvM M) (Sum.inl row) = none := by rw [ok.val, if_pos e]
      have lM : M.length ≤ rows := by rw [ok.len]; exact Nat.le_trans (pick_le _ _ _ _) (Nat.sub_le _ _)
      refine ⟨_, rfl, p, _, dx, _, _, rfl, h1, T.cl_Space, T.na_Space_states, flds_states _ _ _ _, _, rfl, d, _, rfl, DPut.k (k := Sum.inl row) h2 (small _ (by simp [kvM]; omega)), ?_⟩
      rw [kv_new vn]
      refine ⟨_, rfl, _, _, rfl, rfl, _, rfl, p, _, dx, _, rfl, by rw [upd_ne npd]; exact h1, T.cl_Space, T.na_Space_lowest, (by show 4 < 1000; decide), ?_⟩
      refine ⟨_, rfl, kQ row ⟨by omega, b'⟩ e a3 _ ⟨dx, row + 1, M ++ [(row, 1)], ?_, ?_, ok.put e ⟨by omega, b'⟩ ⟨by decide, by decide⟩, by omega, fun r r1 r2 => ?_, by omega⟩ fun b o eb n1 n2 => ?_⟩
      · rw [upd_same]
        exact congrArg (fun l => some (HO.ins a.c_Space dx l)) (flds_low (rows : Int) (first : Int) d low (row + 1))
      · rw [upd_ne npd.symm, upd_same]
      · unfold upF
        split
        · decide
        · exact a3 r r1 (by omega)
      · rw [upd_ne n1, upd_ne n2]
        exact eb
    · rw [if_neg e]
      refine iteT ?_
      have rg := (ok.range e).1
      refine ⟨fun σ' H'' => ∃ m', m' < ((rows : Int) + 2 - row).toNat ∧ _, fun _ _ q => q, ?_⟩
      refine ⟨_, rfl, _, _, rfl, rfl, _, ?_, row + 1, rfl, rfl, by omega, by omega, fun r r1 r2 => ?_, rfl⟩
      · omega
      · by_cases z : r = row
        · rw [z]
          exact e
        · exact a3 r r1 (by omega)
theorem sc_Space_give : FnScope ["self", "row", "state"] ["self", "row"] (defScope s_Space_give) := ⟨rfl, rfl, rfl, by decide +kernel, rfl, by decide +kernel, by decide +kernel⟩
theorem ok_Space_give (T : Txt K mg a) : FnOk P w K mg base (L2.CX P w) 1 a.f_Space_give a.d_Space_give ["self", "row"] (sp_Space_give K a) := by
  refine T.F_Space_give.okX sc_Space_give (fun vs H Q E h => ?len) (fun cdv A outer s H vs Q E hr h => ?body)
  case len =>
    exact sp_Space_give_len h
  case body =>
    obtain ⟨p, d, first, rows, φ, r, rfl, hs, hr1, kE, kQ⟩ := h
    obtain ⟨dx, low, M, h1, h2, ok, l1, l2, l3⟩ := id hs
    have npd : p ≠ d := ne_of h1 h2 (by intro z; cases z)
    refine ⟨_, (pss_cons (ps_set (i := 2) sc_Space_give.nd rfl (Or.inl rfl) (pe_dget1 (hu_of hr) (pe_fld (pv 0) rfl) (pv 1) ⟨rfl, rfl, rfl, rfl⟩))
      (pss_cons (ps_if (PW.pt (pw_or (pt_cmpR op_isN (pv 2) pe_non (nomark _)) (pw_or1 (pt_cmpR op_eq (pv 2) (pe_const T.g_WAITING) (nomark _)))))
      (pss_one (ps_raise rfl (takes_of rfl rfl rfl rfl) (pmk_own PySem.F.excBase_ValueError T.x_InvalidArgument T.g_InvalidArgument T.k_InvalidArgument (raises_own T.b_InvalidArgument T.t_InvalidArgument) (by exact rfl))))
      pss_nil)
      (pss_one (ps_if (pt_cmpR op_eq (pv 2) (pe_const T.g_OLD) (nomark _))
      (pss_one (ps_dput (hu_of hr) (pe_fld (pv 0) rfl) (pv 1) (pe_const T.g_WAITING) rfl))
      (pss_cons (ps_ddel (pe_fld (pv 0) rfl) (pv 1))
      (pss_one (ps_fld (pv 0) (pe_callB (call_min2 rfl) (by rfl) T.n_min (by decide +kernel) (pa_cons (pe_fld (pv 0) rfl) (pa_cons (pv 1) pa_nil))) rfl))))))), ?_⟩
    refine ⟨_, rfl, p, _, dx, _, _, rfl, h1, T.cl_Space, T.na_Space_states, flds_states _ _ _ _, d, rfl, .inl ⟨_, .inl h2⟩, _, rfl, _, DGet.k (k := Sum.inl r) h2, ?_⟩
    rw [ok.val]
    by_cases e0 : φ r = 0
    · rw [if_pos e0]
      refine ⟨_, rfl, rfl, _, rfl, iteT (kE (.inl e0) _ (Same.refl _))⟩
    rw [if_neg e0]
    refine ⟨_, rfl, rfl, _, rfl, iteF ?_⟩
    refine ⟨_, rfl, rfl, _, rfl, ite2 (fun b => kE (.inr (V.int.inj (show V.int (φ r) = V.int 3 from of_decide_eq_true b))) _ (Same.refl _)) (fun b => ?_)⟩
    have e3 : φ r ≠ 3 := fun z => b (decide_eq_true (show V.int (φ r) = V.int 3 by rw [z]))
    have nz : ¬ (φ r = 0 ∨ φ r = 3) := fun z => z.elim e0 e3
    have rg := ok.range e0
    have vs : (valV (kvM M) (Sum.inl r)).isSome = true := by rw [ok.val, if_neg e0]; rfl
    have lM : M.length ≤ rows := by rw [ok.len]; exact Nat.le_trans (pick_le _ _ _ _) (Nat.sub_le _ _)
    refine ⟨_, rfl, rfl, _, rfl, ite2 (fun b2 => ?_) (fun b2 => ?_)⟩
    · have e2 : φ r = 2 := V.int.inj (show V.int (φ r) = V.int 2 from of_decide_eq_true b2)
      refine ⟨_, rfl, p, _, dx, _, _, rfl, h1, T.cl_Space, T.na_Space_states, flds_states _ _ _ _, _, rfl, d, _, rfl, DPut.k (k := Sum.inl r) h2 (small _ (by simp [kvM]; omega)), ?_⟩
      rw [kv_set vs]
      refine kQ nz _ ⟨dx, low, setM M r 3, by rw [upd_ne npd]; exact h1, upd_same, ?_, l1, fun q q1 q2 => ?_, l3⟩ fun b o eb n1 n2 => by rw [upd_ne n2]; exact eb
      · rw [if_pos e2]
        exact ok.set e0 ⟨by decide, by decide⟩
      · rw [if_pos e2]
        unfold upF
        split
        · decide
        · exact l2 q q1 q2
    · have e2 : φ r ≠ 2 := fun z => b2 (decide_eq_true (show V.int (φ r) = V.int 2 by rw [z]))
      rw [if_neg e2] at kQ
      refine ⟨_, rfl, p, _, dx, _, _, rfl, h1, T.cl_Space, T.na_Space_states, flds_states _ _ _ _, _, rfl, d, _, Sum.inl r, rfl, h2, rfl, vs, ?_⟩
      rw [kv_del]
      have h1' : upd H d (.dK (kvM (delM M r))) p = some (.ins a.c_Space dx (flds rows first d low)) := by rw [upd_ne npd]; exact h1
      refine ⟨_, rfl, p, _, dx, _, _, rfl, h1', T.cl_Space, T.na_Space_lowest, flds_lowest _ _ _ _, _, rfl, low, r, rfl, ?_⟩
      refine ⟨_, rfl, p, _, dx, _, rfl, h1', T.cl_Space, T.na_Space_lowest, (by show 4 < 1000; decide), ?_⟩
      have lw : (if r < low then r else low) ≤ r ∧ (if r < low then r else low) ≤ low ∧ (first : Int) ≤ (if r < low then r else low) := by
        have := rg.1
        split <;> omega
      generalize (if r < low then r else low) = low' at lw ⊢
      refine kQ nz _ ⟨dx, low', delM M r, ?_, ?_, ok.del r, lw.2.2, fun q q1 q2 => ?_, by omega⟩ fun b o eb n1 n2 => ?_
      · rw [upd_same]
        exact congrArg (fun l => some (HO.ins a.c_Space dx l)) (flds_low (rows : Int) (first : Int) d low low')
      · rw [upd_ne npd.symm, upd_same]
      · unfold upF
        rw [if_neg (by omega)]
        exact l2 q q1 (by omega)
      · rw [upd_ne n1, upd_ne n2]
        exact eb
theorem sc_Space_settle : FnScope ["self", "row", "state"] ["self"] (defScope s_Space_settle) := ⟨rfl, rfl, rfl, by decide +kernel, rfl, by decide +kernel, by decide +kernel⟩
theorem ok_Space_settle (T : Txt K mg a) : FnOk P w K mg base CX0 1 a.f_Space_settle a.d_Space_settle ["self"] (sp_Space_settle K a) := by
  refine T.F_Space_settle.ok sc_Space_settle (fun vs H Q E h => ?len) (fun cdv A outer s H vs Q E hr h => ?body)
  case len =>
    exact sp_Space_settle_len h
  case body =>
    obtain ⟨p, d, first, rows, φ, rfl, hs, hr1, k⟩ := h
    obtain ⟨dx, low, M, h1, h2, ok, l1, l2, l3⟩ := id hs
    have npd : p ≠ d := ne_of h1 h2 (by intro z; cases z)
    refine ⟨_, (pss_cons (ps_fld (pv 0) (pe_lock (pe_dc (own := [("row", 1), ("state", 2)]) (g := (gTup K 2 (gCons (gName 1) (gCons (gName 2) gNil)))) (by rfl) sc_Space_settle.nd (pi_items (pe_fld (pv 0) rfl)) (blkOk_by (own := [("row", 1), ("state", 2)]) (N := ["self", "row", "state"]) (sc := defScope s_Space_settle) (by decide +kernel))
      (fun _ _ _ _ _ => (pg_tup rfl (pgs_cons (pg_name (i := 1) sc_Space_settle.nd rfl (Or.inl rfl)) (pgs_cons (pg_name (i := 2) sc_Space_settle.nd rfl (Or.inl rfl)) pgs_nil)))) (fun _ _ _ _ _ => (pts_one (pt_cmpR op_ne (pv 2) (pe_const T.g_WAITING) (nomark _)))) (fun _ _ _ _ _ => (pv 1)) (fun _ _ _ _ _ => (pe_const T.g_OLD)))) rfl)
      (pss_one (ps_fld (pv 0) (pe_fld (pv 0) rfl) rfl))), ?_⟩
    have hdl : upd H d (.dK (kvM M)) = H := funext fun b => by
      by_cases z : b = d
      · rw [z, upd_same, h2]
      · rw [upd_ne z]
    refine ⟨d, _, h2, trivial, fun od => ?_⟩
    have h1' : upd H d (.frz od (.dK (kvM M))) p = some (.ins a.c_Space dx (flds rows first d low)) := by rw [upd_ne npd]; exact h1
    refine ⟨_, rfl, p, _, dx, _, _, rfl, h1', T.cl_Space, T.na_Space_states, flds_states _ _ _ _, d, od, kvM M, rfl, upd_same, fun D nD => ?_⟩
    have lM : M.length ≤ rows := by rw [ok.len]; exact Nat.le_trans (pick_le _ _ _ _) (Nat.sub_le _ _)
    have lk : (kvM M).length = M.length := by simp [kvM]
    have frz : upd H d (.frz od (.dK (kvM M))) d = some (.frz od (.dK (kvM M))) := upd_same
    have wk := walk_items (d := d) (o := od) (kvs := kvM M)
    refine ⟨fun i m H' => m = (kvM M).length - i ∧ i ≤ (kvM M).length ∧ Same (upd H d (.frz od (.dK (kvM M)))) H' ∧ H' D = some (.dK (kvM (settM (M.take i)))), ⟨_, rfl, Nat.zero_le _, Same.new nD, upd_same⟩, ?_⟩
    rintro i m H1 ⟨rfl, hi, s1, hD⟩
    by_cases hlt : i < (kvM M).length
    · refine .inr ⟨wk.goes i H1 hlt (s1 _ _ frz), fun H' => Same (upd H d (.frz od (.dK (kvM M)))) H' ∧ H' D = some (.dK (kvM (settM (M.take (i + 1))))), fun H' q => ⟨(kvM M).length - (i + 1), by omega, rfl, hlt, q.1, q.2⟩, fun x H' y => ?_⟩
      obtain ⟨t, u, v, rfl, ht, rfl, hu, hv⟩ := wk.yields i H1 x H' hlt (s1 _ _ frz) y
      obtain ⟨q, hq, e1, e2⟩ : ∃ q : Int × Int, M[i]? = some q ∧ u = V.int q.1 ∧ v = V.int q.2 := by
        replace hu : ((kvM M)[i]?.map fun kv => kV kv.1) = some u := hu
        replace hv : ((kvM M)[i]?.map Prod.snd) = some v := hv
        unfold kvM at hu hv
        rw [List.getElem?_map] at hu hv
        cases z : M[i]? with
        | none => rw [z] at hu; cases hu
        | some q => rw [z] at hu hv; exact ⟨q, rfl, (Option.some.inj hu).symm, (Option.some.inj hv).symm⟩
      subst e1 e2
      have mq := List.mem_of_getElem? hq
      have st := Same.new (o := .tup [V.int q.1, V.int q.2]) ht
      have es : settM (M.take (i + 1)) = settM (M.take i) ++ if q.2 = 3 then [] else [(q.1, 2)] := by
        unfold settM
        rw [take_snoc hq, List.filter_append, List.map_append]
        congr 1
        by_cases e3 : q.2 = 3 <;> simp [e3]
      refine ⟨t, _, rfl, SqT.of upd_same, rfl, _, _, rfl, _, _, rfl, rfl, ?_⟩
      refine ⟨rfl, _, rfl, rfl, _, rfl, ite2 (fun b => ?_) (fun b => ?_)⟩
      · have q3 : q.2 ≠ 3 := fun z => by simp [z] at b
        rw [if_neg q3] at es
        have vn : valV (kvM (settM (M.take i))) (Sum.inl q.1) = none := by
          rw [valV_M]
          cases z : (settM (M.take i)).find? fun y => decide (y.1 = q.1) with
          | none => rfl
          | some y =>
            exfalso
            have h0 := List.find?_some z
            have h1 : y.1 = q.1 := of_decide_eq_true h0
            obtain ⟨w, mw, e⟩ := List.mem_map.mp (List.mem_of_find?_eq_some z)
            have mw := (List.mem_filter.mp mw).1
            have e1 : w.1 = q.1 := by rw [← h1, ← e]
            obtain ⟨j, hj⟩ := List.mem_iff_getElem?.mp mw
            rw [List.getElem?_take] at hj
            split at hj
            · next hji =>
              have k1 : (M.map (·.1))[j]? = some q.1 := by rw [List.getElem?_map, hj, ← e1]; rfl
              have k2 : (M.map (·.1))[i]? = some q.1 := by rw [List.getElem?_map, hq]; rfl
              have lj := item_lt hj
              have := (List.getElem?_inj (by rw [List.length_map]; exact lj) ok.nd).mp (k1.trans k2.symm)
              omega
            · cases hj
        refine ⟨_, rfl, _, Sum.inl q.1, rfl, st _ _ hD, small _ ?_, same_put (s1.trans st) nD, ?_⟩
        · unfold kvM settM
          rw [List.length_map, List.length_map]
          have := List.length_filter_le (fun q : Int × Int => decide (q.2 ≠ 3)) (M.take i)
          rw [List.length_take] at this
          omega
        · rw [upd_same, es, kv_new vn]
      · have q3 : q.2 = 3 := Classical.byContradiction fun z => b (by simp [z])
        rw [if_pos q3, List.append_nil] at es
        exact ⟨s1.trans st, by rw [es]; exact st _ _ hD⟩
    · have ei : i = (kvM M).length := by omega
      subst ei
      refine .inl ⟨wk.stops H1 (s1 _ _ frz), ?_⟩
      rw [lk, List.take_length] at hD
      have hd1 := s1 _ _ frz
      have nDd : D ≠ d := (ne_of_none frz nD).symm
      have nD0 : H D = none := by rw [upd_ne nDd] at nD; exact nD
      have npD : p ≠ D := ne_of_none h1' nD
      have s2 : Same H (upd H1 d (.dK (kvM M))) := fun b o e => by
        by_cases z : b = d
        · subst z
          rw [upd_same]
          rw [h2] at e
          exact e
        · rw [upd_ne z]
          exact s1 _ _ (by rw [upd_ne z]; exact e)
      refine ⟨hd1, _, rfl, p, _, dx, _, rfl, s2 _ _ h1, T.cl_Space, T.na_Space_states, (by show 4 < 1000; decide), ?_⟩
      rw [flds_st]
      refine ⟨_, rfl, p, _, dx, _, _, rfl, upd_same, T.cl_Space, T.na_Space_first, flds_first _ _ _ _, _, rfl, p, _, dx, _, rfl, upd_same, T.cl_Space, T.na_Space_lowest, (by show 4 < 1000; decide), ?_⟩
      rw [flds_low]
      refine k D _ nD0 ⟨dx, first, settM M, upd_same, ?_, ok.sett, Int.le_refl _, fun r r1 r2 => absurd r2 (by omega), by omega⟩ fun b o eb n1 n2 => ?_
      · rw [upd_ne npD.symm, upd_ne npD.symm, upd_ne nDd]
        exact hD
      · rw [upd_ne n1, upd_ne n1]
        exact s2 _ _ eb
theorem sc_Space_is_free : FnScope ["self", "row"] ["self", "row"] (defScope s_Space_is_free) := ⟨rfl, rfl, rfl, by decide +kernel, rfl, by decide +kernel, by decide +kernel⟩
theorem ok_Space_is_free (T : Txt K mg a) : FnOk P w K mg base CX0 1 a.f_Space_is_free a.d_Space_is_free ["self", "row"] (sp_Space_is_free K a) := by
  refine T.F_Space_is_free.ok sc_Space_is_free (fun vs H Q E h => ?len) (fun cdv A outer s H vs Q E hr h => ?body)
  case len =>
    exact sp_Space_is_free_len h
  case body =>
    obtain ⟨p, d, first, rows, φ, r, rfl, hs, kT, kF⟩ := h
    obtain ⟨dx, low, M, h1, h2, ok, l1, l2, l3⟩ := id hs
    refine ⟨_, (pss_one (ps_ret (pe_and (pe_chain op_le op_lt (pe_fld (pv 0) rfl) (pv 1) (pe_fld (pv 0) rfl)) (pe_one (pe_cmp (pc_dnotin (hu_of hr) (pv 1) (pe_fld (pv 0) rfl))))))), ?_⟩
    refine ⟨_, rfl, p, _, dx, _, _, rfl, h1, T.cl_Space, T.na_Space_first, flds_first _ _ _ _, _, rfl, _, _, rfl, rfl, _, rfl, ite2 (fun b1 => ?_) (fun b1 => ?_)⟩
    · have b1 := of_decide_eq_true b1
      refine ⟨_, rfl, p, _, dx, _, _, rfl, h1, T.cl_Space, T.na_Space_rows, flds_rows _ _ _ _, _, _, rfl, rfl, _, rfl, ite2 (fun b2 => ?_) (fun b2 => kF fun z => b2 (decide_eq_true z.1.2))⟩
      have b2 := of_decide_eq_true b2
      refine ⟨_, rfl, _, rfl, p, _, dx, _, _, rfl, h1, T.cl_Space, T.na_Space_states, flds_states _ _ _ _, d, _, rfl, DGet.k (k := Sum.inl r) h2, ?_⟩
      rw [ok.val]
      by_cases e : φ r = 0
      · rw [if_pos e]
        exact kT ⟨⟨b1, b2⟩, e⟩
      · rw [if_neg e]
        exact kF fun z => e z.2
    · exact ⟨_, rfl, iteF (kF fun z => b1 (decide_eq_true z.1.1))⟩
theorem sc_Space_free_count : FnScope ["self"] ["self"] (defScope s_Space_free_count) := ⟨rfl, rfl, rfl, by decide +kernel, rfl, by decide +kernel, by decide +kernel⟩
theorem ok_Space_free_count (T : Txt K mg a) : FnOk P w K mg base CX0 1 a.f_Space_free_count a.d_Space_free_count ["self"] (sp_Space_free_count K a) := by
  refine T.F_Space_free_count.ok sc_Space_free_count (fun vs H Q E h => ?len) (fun cdv A outer s H vs Q E hr h => ?body)
  case len =>
    exact sp_Space_free_count_len h
  case body =>
    obtain ⟨p, d, first, rows, φ, rfl, hs, k⟩ := h
    obtain ⟨dx, low, M, h1, h2, ok, l1, l2, l3⟩ := id hs
    refine ⟨_, (pss_one (ps_ret (pe_op op_sub (pe_op op_sub (pe_fld (pv 0) rfl) (pe_fld (pv 0) rfl)) (pe_callB call_lenD (by rfl) T.n_len PySem.boot_len (pa_cons (pe_fld (pv 0) rfl) pa_nil))))), ?_⟩
    refine ⟨_, rfl, p, _, dx, _, _, rfl, h1, T.cl_Space, T.na_Space_rows, flds_rows _ _ _ _, _, rfl, p, _, dx, _, _, rfl, h1, T.cl_Space, T.na_Space_first, flds_first _ _ _ _, _, _, rfl, rfl, _, rfl, p, _, dx, _, _, rfl, h1, T.cl_Space, T.na_Space_states, flds_states _ _ _ _, d, _, rfl, h2, _, _, rfl, rfl, ?_⟩
    have e : ((kvM M).length : Int) = ((pickL first rows φ fun s => decide (s ≠ 0)).length : Nat) := by rw [← ok.len]; simp [kvM]
    show Q (.int ((rows : Int) - first - ((kvM M).length : Int))) H
    rw [e]
    exact k
theorem sc_Space_used_rows : FnScope ["self", "row", "state"] ["self"] (defScope s_Space_used_rows) := ⟨rfl, rfl, rfl, by decide +kernel, rfl, by decide +kernel, by decide +kernel⟩
theorem ok_Space_used_rows (T : Txt K mg a) : FnOk P w K mg base CX0 1 a.f_Space_used_rows a.d_Space_used_rows ["self"] (sp_Space_used_rows K a) := by
  refine T.F_Space_used_rows.ok sc_Space_used_rows (fun vs H Q E h => ?len) (fun cdv A outer s H vs Q E hr h => ?body)
  case len =>
    exact sp_Space_used_rows_len h
  case body =>
    obtain ⟨p, d, first, rows, φ, rfl, hs, hr1, k⟩ := h
    obtain ⟨dx, low, M, h1, h2, ok, l1, l2, l3⟩ := id hs
    have npd : p ≠ d := ne_of h1 h2 (by intro z; cases z)
    refine ⟨_, (pss_one (ps_ret (pe_callB cr_sorted (by rfl) T.n_sorted (by decide +kernel) (pa_cons (pe_lock (pe_lc (own := [("row", 1), ("state", 2)]) (g := (gTup K 2 (gCons (gName 1) (gCons (gName 2) gNil)))) (by rfl) sc_Space_used_rows.nd (pi_items (pe_fld (pv 0) rfl)) (blkOk_by (own := [("row", 1), ("state", 2)]) (N := ["self", "row", "state"]) (sc := defScope s_Space_used_rows) (by decide +kernel))
      (fun _ _ _ _ _ => (pg_tup rfl (pgs_cons (pg_name (i := 1) sc_Space_used_rows.nd rfl (Or.inl rfl)) (pgs_cons (pg_name (i := 2) sc_Space_used_rows.nd rfl (Or.inl rfl)) pgs_nil)))) (fun _ _ _ _ _ => (pts_one (pt_cmpR op_ne (pv 2) (pe_const T.g_WAITING) (nomark _)))) (fun _ _ _ _ _ => (pv 1)))) pa_nil)))), ?_⟩
    refine ⟨d, _, h2, trivial, fun od => ?_⟩
    have h1' : upd H d (.frz od (.dK (kvM M))) p = some (.ins a.c_Space dx (flds rows first d low)) := by rw [upd_ne npd]; exact h1
    refine ⟨_, rfl, p, _, dx, _, _, rfl, h1', T.cl_Space, T.na_Space_states, flds_states _ _ _ _, d, od, kvM M, rfl, upd_same, fun D nD => ?_⟩
    refine lc_it walk_items (fun i H' => Same (upd H d (.frz od (.dK (kvM M)))) H' ∧ H' D = some (.lst ((((M.take i).filter fun q => (fun s : Int => decide (s = 1 ∨ s = 2)) q.2).map (·.1)).map V.int))) ⟨Same.new nD, upd_same⟩ (fun i H' _ q => q.1 _ _ upd_same) ?_ ?_
    · rintro i y H1 H2 hi ⟨s1, hD⟩ ⟨t, u, v, rfl, ht, rfl, hu, hv⟩
      obtain ⟨q, hq, e1, e2⟩ : ∃ q : Int × Int, M[i]? = some q ∧ u = V.int q.1 ∧ v = V.int q.2 := by
        replace hu : ((kvM M)[i]?.map fun kv => kV kv.1) = some u := hu
        replace hv : ((kvM M)[i]?.map Prod.snd) = some v := hv
        unfold kvM at hu hv
        rw [List.getElem?_map] at hu hv
        cases z : M[i]? with
        | none => rw [z] at hu; cases hu
        | some q => rw [z] at hu hv; exact ⟨q, rfl, (Option.some.inj hu).symm, (Option.some.inj hv).symm⟩
      subst e1 e2
      have mq := List.mem_of_getElem? hq
      have rq := (ok.inn q mq).2
      have st := Same.new (o := .tup [V.int q.1, V.int q.2]) ht
      have fs : (M.take (i + 1)).filter (fun q => (fun s : Int => decide (s = 1 ∨ s = 2)) q.2) = (M.take i).filter (fun q => (fun s : Int => decide (s = 1 ∨ s = 2)) q.2) ++ if decide ((fun s : Int => (s = 1 ∨ s = 2)) q.2) then [q] else [] := by
        rw [take_snoc hq, List.filter_append]
        congr 1
        simp only [List.filter_cons, List.filter_nil]
      have fl : ((M.take i).filter fun q => (fun s : Int => decide (s = 1 ∨ s = 2)) q.2).length ≤ M.length := Nat.le_trans (List.length_filter_le _ _) (by rw [List.length_take]; exact Nat.min_le_right _ _)
      have lM : M.length ≤ rows := by rw [ok.len]; exact Nat.le_trans (pick_le _ _ _ _) (Nat.sub_le _ _)
      refine ⟨t, _, rfl, SqT.of upd_same, rfl, _, _, rfl, _, _, rfl, rfl, ?_⟩
      refine ⟨rfl, _, rfl, rfl, _, rfl, ite2 (fun b => ?_) (fun b => ?_)⟩
      · have q3 : q.2 ≠ 3 := fun z => by simp [z] at b
        have dq : (1 : Int) ≤ q.2 ∧ (q.2 = 1 ∨ q.2 = 2) := ⟨rq.1, by omega⟩
        rw [decide_eq_true (show (fun s : Int => (s = 1 ∨ s = 2)) q.2 from dq.2)] at fs
        refine ⟨_, rfl, _, st _ _ hD, small _ (by rw [List.length_map, List.length_map]; omega), same_put (s1.trans st) nD, ?_⟩
        rw [upd_same, fs, List.map_append, List.map_append]
        rfl
      · have q3 : q.2 = 3 := Classical.byContradiction fun z => b (by simp [z])
        rw [decide_eq_false (show ¬ (fun s : Int => (s = 1 ∨ s = 2)) q.2 from (by rw [q3]; decide))] at fs
        refine ⟨s1.trans st, ?_⟩
        rw [fs]
        simp only [Bool.false_eq_true, if_false, List.append_nil]
        exact st _ _ hD
    rintro H1 ⟨s1, hD⟩
    have lk : (kvM M).length = M.length := by simp [kvM]
    rw [lk, List.take_length] at hD
    have hd1 := s1 _ _ (show upd H d (.frz od (.dK (kvM M))) d = some (.frz od (.dK (kvM M))) from upd_same)
    have lM : M.length ≤ rows := by rw [ok.len]; exact Nat.le_trans (pick_le _ _ _ _) (Nat.sub_le _ _)
    have nDd : D ≠ d := (ne_of_none (show upd H d (.frz od (.dK (kvM M))) d = some (.frz od (.dK (kvM M))) from upd_same) nD).symm
    have nD0 : H D = none := by rw [upd_ne nDd] at nD; exact nD
    have hD2 : upd H1 d (.dK (kvM M)) D = some (.lst (((M.filter fun q => (fun s : Int => decide (s = 1 ∨ s = 2)) q.2).map (·.1)).map V.int)) := by rw [upd_ne nDd]; exact hD
    have s2 : Same H (upd H1 d (.dK (kvM M))) := fun b o e => by
      by_cases z : b = d
      · subst z
        rw [upd_same]
        rw [h2] at e
        exact e
      · rw [upd_ne z]
        exact s1 _ _ (by rw [upd_ne z]; exact e)
    refine ⟨hd1, D, _, rfl, SqL.of hD2, by rw [List.length_map]; exact Nat.lt_of_le_of_lt (List.length_filter_le _ _) (by omega), fun ns Z pm om nZ => ?_⟩
    have e : ns = pickL first rows φ fun s => decide (s = 1 ∨ s = 2) := sorted_one (pm.trans (pick_perm ok (fun s => decide (s = 1 ∨ s = 2)) (by decide))) om (pick_sorted _ _ _ _)
    rw [e]
    refine k Z _ (s2.trans (Same.new nZ)) (same_none s2 nZ) upd_same
theorem sc_Space_waiting_rows : FnScope ["self", "row", "state"] ["self"] (defScope s_Space_waiting_rows) := ⟨rfl, rfl, rfl, by decide +kernel, rfl, by decide +kernel, by decide +kernel⟩
theorem ok_Space_waiting_rows (T : Txt K mg a) : FnOk P w K mg base CX0 1 a.f_Space_waiting_rows a.d_Space_waiting_rows ["self"] (sp_Space_waiting_rows K a) := by
  refine T.F_Space_waiting_rows.ok sc_Space_waiting_rows (fun vs H Q E h => ?len) (fun cdv A outer s H vs Q E hr h => ?body)
  case len =>
    exact sp_Space_waiting_rows_len h
  case body =>
    obtain ⟨p, d, first, rows, φ, rfl, hs, hr1, k⟩ := h
    obtain ⟨dx, low, M, h1, h2, ok, l1, l2, l3⟩ := id hs
    have npd : p ≠ d := ne_of h1 h2 (by intro z; cases z)
    refine ⟨_, (pss_one (ps_ret (pe_callB cr_sorted (by rfl) T.n_sorted (by decide +kernel) (pa_cons (pe_lock (pe_lc (own := [("row", 1), ("state", 2)]) (g := (gTup K 2 (gCons (gName 1) (gCons (gName 2) gNil)))) (by rfl) sc_Space_waiting_rows.nd (pi_items (pe_fld (pv 0) rfl)) (blkOk_by (own := [("row", 1), ("state", 2)]) (N := ["self", "row", "state"]) (sc := defScope s_Space_waiting_rows) (by decide +kernel))
      (fun _ _ _ _ _ => (pg_tup rfl (pgs_cons (pg_name (i := 1) sc_Space_waiting_rows.nd rfl (Or.inl rfl)) (pgs_cons (pg_name (i := 2) sc_Space_waiting_rows.nd rfl (Or.inl rfl)) pgs_nil)))) (fun _ _ _ _ _ => (pts_one (pt_cmpR op_eq (pv 2) (pe_const T.g_WAITING) (nomark _)))) (fun _ _ _ _ _ => (pv 1)))) pa_nil)))), ?_⟩
    refine ⟨d, _, h2, trivial, fun od => ?_⟩
    have h1' : upd H d (.frz od (.dK (kvM M))) p = some (.ins a.c_Space dx (flds rows first d low)) := by rw [upd_ne npd]; exact h1
    refine ⟨_, rfl, p, _, dx, _, _, rfl, h1', T.cl_Space, T.na_Space_states, flds_states _ _ _ _, d, od, kvM M, rfl, upd_same, fun D nD => ?_⟩
    refine lc_it walk_items (fun i H' => Same (upd H d (.frz od (.dK (kvM M)))) H' ∧ H' D = some (.lst ((((M.take i).filter fun q => (fun s : Int => decide (s = 3)) q.2).map (·.1)).map V.int))) ⟨Same.new nD, upd_same⟩ (fun i H' _ q => q.1 _ _ upd_same) ?_ ?_
    · rintro i y H1 H2 hi ⟨s1, hD⟩ ⟨t, u, v, rfl, ht, rfl, hu, hv⟩
      obtain ⟨q, hq, e1, e2⟩ : ∃ q : Int × Int, M[i]? = some q ∧ u = V.int q.1 ∧ v = V.int q.2 := by
        replace hu : ((kvM M)[i]?.map fun kv => kV kv.1) = some u := hu
        replace hv : ((kvM M)[i]?.map Prod.snd) = some v := hv
        unfold kvM at hu hv
        rw [List.getElem?_map] at hu hv
        cases z : M[i]? with
        | none => rw [z] at hu; cases hu
        | some q => rw [z] at hu hv; exact ⟨q, rfl, (Option.some.inj hu).symm, (Option.some.inj hv).symm⟩
      subst e1 e2
      have mq := List.mem_of_getElem? hq
      have rq := (ok.inn q mq).2
      have st := Same.new (o := .tup [V.int q.1, V.int q.2]) ht
      have fs : (M.take (i + 1)).filter (fun q => (fun s : Int => decide (s = 3)) q.2) = (M.take i).filter (fun q => (fun s : Int => decide (s = 3)) q.2) ++ if decide ((fun s : Int => (s = 3)) q.2) then [q] else [] := by
        rw [take_snoc hq, List.filter_append]
        congr 1
        simp only [List.filter_cons, List.filter_nil]
      have fl : ((M.take i).filter fun q => (fun s : Int => decide (s = 3)) q.2).length ≤ M.length := Nat.le_trans (List.length_filter_le _ _) (by rw [List.length_take]; exact Nat.min_le_right _ _)
      have lM : M.length ≤ rows := by rw [ok.len]; exact Nat.le_trans (pick_le _ _ _ _) (Nat.sub_le _ _)
      refine ⟨t, _, rfl, SqT.of upd_same, rfl, _, _, rfl, _, _, rfl, rfl, ?_⟩
      refine ⟨rfl, _, rfl, rfl, _, rfl, ite2 (fun b => ?_) (fun b => ?_)⟩
      · have q3 : q.2 = 3 := V.int.inj (of_decide_eq_true b)
        have dq : (1 : Int) ≤ q.2 ∧ q.2 = 3 := ⟨rq.1, q3⟩
        rw [decide_eq_true (show (fun s : Int => (s = 3)) q.2 from dq.2)] at fs
        refine ⟨_, rfl, _, st _ _ hD, small _ (by rw [List.length_map, List.length_map]; omega), same_put (s1.trans st) nD, ?_⟩
        rw [upd_same, fs, List.map_append, List.map_append]
        rfl
      · have q3 : q.2 ≠ 3 := fun z => b (decide_eq_true (by rw [z]))
        rw [decide_eq_false (show ¬ (fun s : Int => (s = 3)) q.2 from q3)] at fs
        refine ⟨s1.trans st, ?_⟩
        rw [fs]
        simp only [Bool.false_eq_true, if_false, List.append_nil]
        exact st _ _ hD
    rintro H1 ⟨s1, hD⟩
    have lk : (kvM M).length = M.length := by simp [kvM]
    rw [lk, List.take_length] at hD
    have hd1 := s1 _ _ (show upd H d (.frz od (.dK (kvM M))) d = some (.frz od (.dK (kvM M))) from upd_same)
    have lM : M.length ≤ rows := by rw [ok.len]; exact Nat.le_trans (pick_le _ _ _ _) (Nat.sub_le _ _)
    have nDd : D ≠ d := (ne_of_none (show upd H d (.frz od (.dK (kvM M))) d = some (.frz od (.dK (kvM M))) from upd_same) nD).symm
    have nD0 : H D = none := by rw [upd_ne nDd] at nD; exact nD
    have hD2 : upd H1 d (.dK (kvM M)) D = some (.lst (((M.filter fun q => (fun s : Int => decide (s = 3)) q.2).map (·.1)).map V.int)) := by rw [upd_ne nDd]; exact hD
    have s2 : Same H (upd H1 d (.dK (kvM M))) := fun b o e => by
      by_cases z : b = d
      · subst z
        rw [upd_same]
        rw [h2] at e
        exact e
      · rw [upd_ne z]
        exact s1 _ _ (by rw [upd_ne z]; exact e)
    refine ⟨hd1, D, _, rfl, SqL.of hD2, by rw [List.length_map]; exact Nat.lt_of_le_of_lt (List.length_filter_le _ _) (by omega), fun ns Z pm om nZ => ?_⟩
    have e : ns = pickL first rows φ fun s => decide (s = 3) := sorted_one (pm.trans (pick_perm ok (fun s => decide (s = 3)) (by decide))) om (pick_sorted _ _ _ _)
    rw [e]
    refine k Z _ (s2.trans (Same.new nZ)) (same_none s2 nZ) upd_same
theorem sc_law_take : FnScope ["space", "e"] ["space"] (defScope s_law_take) := ⟨rfl, rfl, rfl, by decide +kernel, rfl, by decide +kernel, by decide +kernel⟩
theorem ok_law_take (T : Txt K mg a) : FnOk P w K mg base CX0 2 a.f_law_take a.d_law_take ["space"] (sp_law_take K a) := by
  refine T.F_law_take.ok sc_law_take (fun vs H Q E h => ?len) (fun cdv A outer s H vs Q E hr h => ?body)
  case len =>
    exact sp_law_take_len h
  case body =>
    obtain ⟨p, d, first, rows, φ, rfl, hs, hr1, kE, kQ⟩ := h
    obtain ⟨dx, low, M, h1, h2, _⟩ := id hs
    have no : (flds (rows : Int) (first : Int) d low).lookup ("take" : Str) = none := by kernel_rfl
    refine ⟨_, (pss_one (ps_try_as (i := 1) rfl rfl sc_law_take.nd rfl rfl ⟨rfl, by decide, .inl T.g_PoolError⟩ takes0
      (fun W pn xe tk _ => (pss_one (ps_ret (pe_methT0 (pv 0) T.cl_Space T.m_Space_take (ok_Space_take T) (hr.mono (by decide)) T.d_Space_take (fun σ => passAt tk σ)))))
      (fun a oe cls d pn hz hf => (pss_one (ps_ret (pe_op op_sub (pe_un un_neg pe_int) (pe_callTy call_int1 (by rfl) T.n_int (by decide +kernel) (pa_cons (pe_callB (call_isE' hz hf) (by rfl) T.n_isinstance (by decide +kernel) (pa_cons (pv 1) (pa_cons (pe_glob (v := .ref _) rfl T.g_NoSpace rfl) pa_nil))) pa_nil)))))))), ?_⟩
    refine ⟨_, rfl, p, dx, _, rfl, h1, no, p, d, first, rows, φ, rfl, hs, hr1, fun b H1 s1 => ?_, fun r a1 a2 a3 H1 s1 f1 => kQ r a1 a2 a3 H1 s1 f1⟩
    refine ⟨true, T.u_NoSpace_PoolError, fun _ ad hb => ?_, fun z => Bool.noConfusion z⟩
    exact ⟨_, rfl, _, rfl, _, rfl, rfl, T.E_NoSpace, _, _, true, rfl, fun _ z => z, T.i_NoSpace_NoSpace, .inr ⟨_, rfl, _, _, rfl, rfl, kE b _ s1⟩⟩
theorem sc_law_give : FnScope ["space", "row", "e"] ["space", "row"] (defScope s_law_give) := ⟨rfl, rfl, rfl, by decide +kernel, rfl, by decide +kernel, by decide +kernel⟩
theorem ok_law_give (T : Txt K mg a) : FnOk P w K mg base CX0 2 a.f_law_give a.d_law_give ["space", "row"] (sp_law_give K a) := by
  refine T.F_law_give.ok sc_law_give (fun vs H Q E h => ?len) (fun cdv A outer s H vs Q E hr h => ?body)
  case len =>
    exact sp_law_give_len h
  case body =>
    obtain ⟨p, d, first, rows, φ, r, rfl, hs, hr1, kE, kQ⟩ := h
    obtain ⟨dx, low, M, h1, h2, _⟩ := id hs
    have no : (flds (rows : Int) (first : Int) d low).lookup ("give" : Str) = none := by kernel_rfl
    refine ⟨_, (pss_one (ps_try_as (i := 2) rfl rfl sc_law_give.nd rfl rfl ⟨rfl, by decide, .inl T.g_PoolError⟩ takes0
      (fun W pn xe tk _ => (pss_one (ps_ret (pe_methT (pv 0) T.cl_Space T.m_Space_give (ok_Space_give T) (hr.mono (by decide)) T.d_Space_give (fun σ => passAt tk σ) (pa_cons (pv 1) pa_nil)))))
      (fun a oe cls d pn hz hf => (pss_one (ps_ret (pe_op op_sub (pe_un un_neg pe_int) (pe_callTy call_int1 (by rfl) T.n_int (by decide +kernel) (pa_cons (pe_callB (call_isE' hz hf) (by rfl) T.n_isinstance (by decide +kernel) (pa_cons (pv 2) (pa_cons (pe_glob (v := .ref _) rfl T.g_InvalidArgument rfl) pa_nil))) pa_nil)))))))), ?_⟩
    refine ⟨_, rfl, p, dx, _, rfl, h1, no, _, rfl, p, d, first, rows, φ, r, rfl, hs, hr1, fun b H1 s1 => ?_, kQ⟩
    refine ⟨true, T.u_InvalidArgument_PoolError, fun _ ad hb => ?_, fun z => Bool.noConfusion z⟩
    exact ⟨_, rfl, _, rfl, _, rfl, rfl, T.E_InvalidArgument, _, _, true, rfl, fun _ z => z, T.i_InvalidArgument_InvalidArgument, .inr ⟨_, rfl, _, _, rfl, rfl, kE b _ s1⟩⟩
theorem sc_law_looks_right : FnScope ["space", "states", "first", "rows", "used", "waiting", "count", "row"] ["space", "states", "first"] (defScope s_law_looks_right) := ⟨rfl, rfl, rfl, by decide +kernel, rfl, by decide +kernel, by decide +kernel⟩
theorem ok_law_looks_right (T : Txt K mg a) : FnOk P w K mg base CX0 2 a.f_law_looks_right a.d_law_looks_right ["space", "states", "first"] (sp_law_looks_right K a) := by
  refine T.F_law_looks_right.ok sc_law_looks_right (fun vs H Q E h => ?len) (fun cdv A outer s H vs Q E hr h => ?body)
  case len =>
    exact sp_law_looks_right_len h
  case body =>
    obtain ⟨p, d, S, first, rows, φ, rfl, hs, hS, hr1, hfr, k⟩ := h
    refine ⟨_, (pss_cons (ps_setLc (i := 3) (own := [("row", 7)]) (g := (gName 7)) (by rfl) sc_law_looks_right.nd rfl rfl (sw_true rfl rfl rfl (by decide +kernel)) (pi_range2 (by rfl) T.n_range (pa_cons (pv 2) (pa_cons (pe_callB call_len_seq (by rfl) T.n_len PySem.boot_len (pa_cons (pv 1) pa_nil)) pa_nil))) (blkOk_by (own := [("row", 7)]) (N := ["space", "states", "first", "rows", "used", "waiting", "count", "row"]) (sc := defScope s_law_looks_right) (by decide +kernel))
      (fun _ _ _ _ _ => (pg_name (i := 7) sc_law_looks_right.nd rfl (Or.inl rfl))) (fun _ _ _ _ _ => pts_nil) (fun _ _ _ _ _ => (pv 7)))
      (pss_cons (ps_setLc (i := 4) (own := [("row", 7)]) (g := (gName 7)) (by rfl) sc_law_looks_right.nd rfl rfl (sw_true rfl rfl rfl (by decide +kernel)) (pi_list (pv 3)) (blkOk_by (own := [("row", 7)]) (N := ["space", "states", "first", "rows", "used", "waiting", "count", "row"]) (sc := defScope s_law_looks_right) (by decide +kernel))
      (fun _ _ _ _ _ => (pg_name (i := 7) sc_law_looks_right.nd rfl (Or.inl rfl))) (fun _ _ _ _ _ => (pts_one (pt_cmpR op_in_sign (pe_ix (by exact ix_list : IxR _ (rIxL K)) (pv 1) (pv 7) (fun _ _ => rfl)) pe_str (by rfl)))) (fun _ _ _ _ _ => (pv 7)))
      (pss_cons (ps_setLc (i := 5) (own := [("row", 7)]) (g := (gName 7)) (by rfl) sc_law_looks_right.nd rfl rfl (sw_true rfl rfl rfl (by decide +kernel)) (pi_list (pv 3)) (blkOk_by (own := [("row", 7)]) (N := ["space", "states", "first", "rows", "used", "waiting", "count", "row"]) (sc := defScope s_law_looks_right) (by decide +kernel))
      (fun _ _ _ _ _ => (pg_name (i := 7) sc_law_looks_right.nd rfl (Or.inl rfl))) (fun _ _ _ _ _ => (pts_one (pt_cmpR op_eq (pe_ix (by exact ix_list : IxR _ (rIxL K)) (pv 1) (pv 7) (fun _ _ => rfl)) pe_str (nomark _)))) (fun _ _ _ _ _ => (pv 7)))
      (pss_cons (ps_set (i := 6) sc_law_looks_right.nd rfl (Or.inl rfl) (pe_meth0 (pv 0) T.cl_Space T.m_Space_free_count (ok_Space_free_count T) (hr.mono (by decide)) T.d_Space_free_count .nil pass0))
      (pss_cons (ps_if (PW.pt (pw_or (pt_not (pt_val (pe_call (ok_law_is_int T) (hr.mono (by decide)) rfl T.g_law_is_int T.F_law_is_int.kp T.d_law_is_int .nil pass0 (pa_cons (pv 6) pa_nil)))) (pw_or1 (pt_cmpR op_ne (pv 6) (pe_op op_sub (pe_op op_sub (pe_op op_sub (pe_callB call_len_seq (by rfl) T.n_len PySem.boot_len (pa_cons (pv 1) pa_nil)) (pv 2)) (pe_callB call_len_seq (by rfl) T.n_len PySem.boot_len (pa_cons (pv 4) pa_nil))) (pe_callB call_len_seq (by rfl) T.n_len PySem.boot_len (pa_cons (pv 5) pa_nil))) (nomark _)))))
      (pss_one (ps_ret pe_bl))
      pss_nil)
      (pss_one (ps_ret (pe_and (pe_cmpR (op_eqD hr.units) (pe_meth0 (pv 0) T.cl_Space T.m_Space_used_rows (ok_Space_used_rows T) (hr.mono (by decide)) T.d_Space_used_rows .nil pass0) (pv 4) (nomark _)) (pe_one (pe_cmpR (op_eqD hr.units) (pe_meth0 (pv 0) T.cl_Space T.m_Space_waiting_rows (ok_Space_waiting_rows T) (hr.mono (by decide)) T.d_Space_waiting_rows .nil pass0) (pv 5) (nomark _))))))))))), ?_⟩
    have sl := statesM_len rows φ
    refine ⟨_, rfl, _, rfl, S, _, rfl, .inl (SqL.of hS), _, _, rfl, ⟨by omega, by omega, by omega, by omega⟩, fun R nR => ?_⟩
    have rl := rowsL_len first rows
    refine lc_it walk_range (fun i H' => Same H H' ∧ H' R = some (.lst (((rowsL first rows).take i).map V.int))) ⟨Same.new nR, upd_same⟩ (fun _ _ _ _ => True.intro) ?_ ?_
    · rintro i y H1 H2 hi ⟨s1, hR⟩ ⟨rfl, rfl⟩
      have hi' : i < rows - first := by omega
      have g : (rowsL first rows)[i]? = some ((first + i : Nat) : Int) := by unfold rowsL; rw [List.getElem?_map, List.getElem?_range hi']; rfl
      refine ⟨rfl, _, rfl, _, hR, small _ (by rw [List.length_map, List.length_take]; omega), same_put s1 nR, ?_⟩
      rw [upd_same, take_snoc g, List.map_append]
      rfl
    rintro H1 ⟨s1, hR⟩
    rw [List.take_of_length_le (by rw [rl]; omega)] at hR
    -- used
    refine ⟨_, rfl, R, rfl, ⟨_, SqL.of hR⟩, fun U nU => lc_list (K := K) (a := R) (xs := (rowsL first rows).map V.int) (fun i H' => Same H1 H' ∧ H' U = some (.lst ((((rowsL first rows).take i).filter fun r => (fun s : Int => decide (s = 1 ∨ s = 2)) (φ r)).map V.int))) ⟨Same.new nU, upd_same⟩ (fun i H' _ q => q.1.seq (SqL.of hR)) ?_ ?_⟩
    · rintro i y H' hi ⟨s2, hU⟩
      obtain ⟨c, hc, rfl⟩ := int_item hi
      obtain ⟨rc1, rc2⟩ := rowsL_mem.mp (List.mem_of_getElem? hc)
      have hv := hs.vals c
      have fs : ((rowsL first rows).take (i + 1)).filter (fun r => (fun s : Int => decide (s = 1 ∨ s = 2)) (φ r)) = ((rowsL first rows).take i).filter (fun r => (fun s : Int => decide (s = 1 ∨ s = 2)) (φ r)) ++ if decide (φ c = 1 ∨ φ c = 2) then [c] else [] := by
        rw [take_snoc hc, List.filter_append]
        congr 1
        simp only [List.filter_cons, List.filter_nil]
      have fl : (((rowsL first rows).take i).filter fun r => (fun s : Int => decide (s = 1 ∨ s = 2)) (φ r)).length ≤ 60 := Nat.le_trans (List.length_filter_le _ _) (by rw [List.length_take]; omega)
      have gs : (statesM rows φ)[c.toNat]? = some (V.str (chM (φ c))) := by rw [statesM_get _ (by omega), show ((c.toNat : Nat) : Int) = c by omega]
      refine ⟨rfl, _, rfl, _, rfl, S, _, _, _, rfl, rfl, SqL.of (s2 _ _ (s1 _ _ hS)), at_of (j := c.toNat) (by omega) gs, cdM (φ c), _, rfl, rfl, _, rfl, ?_⟩
      rw [ch_no]
      refine ite2 (fun q => ?_) (fun q => ?_)
      · have q := of_decide_eq_true q
        rw [cd_n, cd_o] at q
        rw [decide_eq_true q] at fs
        refine ⟨_, rfl, _, hU, small _ (by rw [List.length_map]; omega), same_put s2 nU, ?_⟩
        rw [upd_same, fs, List.map_append]
        rfl
      · have q' : ¬ (φ c = 1 ∨ φ c = 2) := fun z => q (decide_eq_true (by rw [cd_n, cd_o]; exact z))
        rw [decide_eq_false q'] at fs
        refine ⟨s2, ?_⟩
        rw [fs]
        simp only [Bool.false_eq_true, if_false, List.append_nil]
        exact hU
    rintro H2 ⟨s2, hU⟩
    rw [List.length_map, List.take_length] at hU
    replace hU : H2 U = some (.lst ((pickL first rows φ fun s => decide (s = 1 ∨ s = 2)).map V.int)) := hU
    have hR2 := s2 _ _ hR
    -- waiting
    refine ⟨_, rfl, R, rfl, ⟨_, SqL.of hR2⟩, fun W nW => lc_list (K := K) (a := R) (xs := (rowsL first rows).map V.int) (fun i H' => Same H2 H' ∧ H' W = some (.lst ((((rowsL first rows).take i).filter fun r => (fun s : Int => decide (s = 3)) (φ r)).map V.int))) ⟨Same.new nW, upd_same⟩ (fun i H' _ q => q.1.seq (SqL.of hR2)) ?_ ?_⟩
    · rintro i y H' hi ⟨s3, hW⟩
      obtain ⟨c, hc, rfl⟩ := int_item hi
      obtain ⟨rc1, rc2⟩ := rowsL_mem.mp (List.mem_of_getElem? hc)
      have hv := hs.vals c
      have fs : ((rowsL first rows).take (i + 1)).filter (fun r => (fun s : Int => decide (s = 3)) (φ r)) = ((rowsL first rows).take i).filter (fun r => (fun s : Int => decide (s = 3)) (φ r)) ++ if decide (φ c = 3) then [c] else [] := by
        rw [take_snoc hc, List.filter_append]
        congr 1
        simp only [List.filter_cons, List.filter_nil]
      have fl : (((rowsL first rows).take i).filter fun r => (fun s : Int => decide (s = 3)) (φ r)).length ≤ 60 := Nat.le_trans (List.length_filter_le _ _) (by rw [List.length_take]; omega)
      have gs : (statesM rows φ)[c.toNat]? = some (V.str (chM (φ c))) := by rw [statesM_get _ (by omega), show ((c.toNat : Nat) : Int) = c by omega]
      refine ⟨rfl, _, rfl, _, rfl, S, _, _, _, rfl, rfl, SqL.of (s3 _ _ (s2 _ _ (s1 _ _ hS))), at_of (j := c.toNat) (by omega) gs, rfl, _, rfl, ?_⟩
      rw [ch_w]
      refine ite2 (fun q => ?_) (fun q => ?_)
      · have q := of_decide_eq_true q
        rw [cd_w hv.2 hv.1] at q
        rw [decide_eq_true q] at fs
        refine ⟨_, rfl, _, hW, small _ (by rw [List.length_map]; omega), same_put s3 nW, ?_⟩
        rw [upd_same, fs, List.map_append]
        rfl
      · have q' : ¬ φ c = 3 := fun z => q (decide_eq_true (by rw [cd_w hv.2 hv.1]; exact z))
        rw [decide_eq_false q'] at fs
        refine ⟨s3, ?_⟩
        rw [fs]
        simp only [Bool.false_eq_true, if_false, List.append_nil]
        exact hW
    rintro H3 ⟨s3, hW⟩
    rw [List.length_map, List.take_length] at hW
    replace hW : H3 W = some (.lst ((pickL first rows φ fun s => decide (s = 3)).map V.int)) := hW
    have s123 := (s1.trans s2).trans s3
    have hs3 := hs.same s123
    have hU3 := s3 _ _ hU
    have hS3 := s123 _ _ hS
    obtain ⟨dx, low, M, h1, _⟩ := id hs3
    -- count = space.free_count()
    have no1 : (flds (rows : Int) (first : Int) d low).lookup ("free_count" : Str) = none := by kernel_rfl
    have no2 : (flds (rows : Int) (first : Int) d low).lookup ("used_rows" : Str) = none := by kernel_rfl
    have no3 : (flds (rows : Int) (first : Int) d low).lookup ("waiting_rows" : Str) = none := by kernel_rfl
    refine ⟨_, rfl, p, dx, _, rfl, h1, no1, p, d, first, rows, φ, rfl, hs3, ?_⟩
    refine ⟨_, rfl, _, rfl, true, rfl, iteF ?_⟩
    refine ⟨_, rfl, _, rfl, S, _, rfl, .inl (SqL.of hS3), _, rfl, _, _, rfl, rfl, _, rfl, U, _, rfl, .inl (SqL.of hU3), _, _, rfl, rfl, _, rfl, W, _, rfl, .inl (SqL.of hW), _, _, rfl, rfl, rfl, _, rfl, iteNS (congrArg V.int ?_) ?_⟩
    · rw [sl, List.length_map, List.length_map, pick_split hs]
      omega
    refine ⟨_, rfl, p, dx, _, rfl, h1, no2, p, d, first, rows, φ, rfl, hs3, hr1, fun D1 H4 s4 n4 d4 => ?_⟩
    have hU4 := s4 _ _ hU3
    refine ⟨_, rfl, _, _, dp_ints (SqL.of d4), dp_ints (SqL.of hU4), shaped_ints _, shaped_ints _, ?_⟩
    rw [eqv_ints, decide_eq_true rfl]
    refine ⟨true, rfl, iteT ?_⟩
    refine ⟨_, rfl, p, dx, _, rfl, s4 _ _ h1, no3, p, d, first, rows, φ, rfl, hs3.same s4, hr1, fun D2 H5 s5 n5 d5 => ?_⟩
    refine ⟨_, rfl, _, _, dp_ints (SqL.of d5), dp_ints (SqL.of (s5 _ _ (s4 _ _ hW))), shaped_ints _, shaped_ints _, ?_⟩
    rw [eqv_ints, decide_eq_true rfl]
    exact k _ ((s123.trans s4).trans s5)
theorem sc_Space_claim : FnScope ["self", "row"] ["self", "row"] (defScope s_Space_claim) := ⟨rfl, rfl, rfl, by decide +kernel, rfl, by decide +kernel, by decide +kernel⟩
theorem ok_Space_claim (T : Txt K mg a) : FnOk P w K mg base (L2.CX P w) 2 a.f_Space_claim a.d_Space_claim ["self", "row"] (sp_Space_claim K a) := by
  refine T.F_Space_claim.okX sc_Space_claim (fun vs H Q E h => ?len) (fun cdv A outer s H vs Q E hr h => ?body)
  case len =>
    exact sp_Space_claim_len h
  case body =>
    obtain ⟨p, d, first, rows, φ, r, rfl, hs, hr1, kE, kQ⟩ := h
    obtain ⟨dx, low, M, h1, h2, ok, l1, l2, l3⟩ := id hs
    have npd : p ≠ d := ne_of h1 h2 (by intro z; cases z)
    refine ⟨_, (pss_cons (ps_if (pt_not (pt_val (pe_meth (pv 0) T.cl_Space T.m_Space_is_free (ok_Space_is_free T) (hr.mono (by decide)) T.d_Space_is_free .nil pass0 (pa_cons (pv 1) pa_nil))))
      (pss_one (ps_raise rfl (takes_of rfl rfl rfl rfl) (pmk_own PySem.F.excBase_ValueError T.x_InvalidArgument T.g_InvalidArgument T.k_InvalidArgument (raises_own T.b_InvalidArgument T.t_InvalidArgument) (by exact rfl))))
      pss_nil)
      (pss_one (ps_dput (hu_of hr) (pe_fld (pv 0) rfl) (pv 1) (pe_const T.g_OLD) rfl))), ?_⟩
    have no : (flds (rows : Int) (first : Int) d low).lookup ("is_free" : Str) = none := by kernel_rfl
    refine ⟨_, rfl, p, dx, _, rfl, h1, no, _, rfl, p, d, first, rows, φ, r, rfl, hs, fun hin => ⟨true, rfl, iteF ?_⟩, fun hn => ⟨false, rfl, iteT (kE hn _ (Same.refl _))⟩⟩
    obtain ⟨hr, e⟩ := hin
    have vn : valV (kvM M) (Sum.inl r) = none := by rw [ok.val, if_pos e]
    have lM : M.length ≤ rows := by rw [ok.len]; exact Nat.le_trans (pick_le _ _ _ _) (Nat.sub_le _ _)
    refine ⟨_, rfl, p, _, dx, _, _, rfl, h1, T.cl_Space, T.na_Space_states, flds_states _ _ _ _, _, rfl, d, _, rfl, DPut.k (k := Sum.inl r) h2 (small _ (by simp [kvM]; omega)), ?_⟩
    rw [kv_new vn]
    refine kQ hr e _ ⟨dx, low, M ++ [(r, 2)], by rw [upd_ne npd]; exact h1, upd_same, ok.put e hr ⟨by decide, by decide⟩, l1, fun q q1 q2 => ?_, l3⟩ fun b o eb n1 n2 => by rw [upd_ne n2]; exact eb
    unfold upF
    split
    · decide
    · exact l2 q q1 q2
theorem sc_law_claim : FnScope ["space", "row", "e"] ["space", "row"] (defScope s_law_claim) := ⟨rfl, rfl, rfl, by decide +kernel, rfl, by decide +kernel, by decide +kernel⟩
theorem ok_law_claim (T : Txt K mg a) : FnOk P w K mg base CX0 3 a.f_law_claim a.d_law_claim ["space", "row"] (sp_law_claim K a) := by
  refine T.F_law_claim.ok sc_law_claim (fun vs H Q E h => ?len) (fun cdv A outer s H vs Q E hr h => ?body)
  case len =>
    exact sp_law_claim_len h
  case body =>
    obtain ⟨p, d, first, rows, φ, r, rfl, hs, hr1, kE, kQ⟩ := h
    obtain ⟨dx, low, M, h1, h2, _⟩ := id hs
    have no : (flds (rows : Int) (first : Int) d low).lookup ("claim" : Str) = none := by kernel_rfl
    refine ⟨_, (pss_one (ps_try_as (i := 2) rfl rfl sc_law_claim.nd rfl rfl ⟨rfl, by decide, .inl T.g_PoolError⟩ takes0
      (fun W pn xe tk _ => (pss_one (ps_ret (pe_methT (pv 0) T.cl_Space T.m_Space_claim (ok_Space_claim T) (hr.mono (by decide)) T.d_Space_claim (fun σ => passAt tk σ) (pa_cons (pv 1) pa_nil)))))
      (fun a oe cls d pn hz hf => (pss_one (ps_ret (pe_op op_sub (pe_un un_neg pe_int) (pe_callTy call_int1 (by rfl) T.n_int (by decide +kernel) (pa_cons (pe_callB (call_isE' hz hf) (by rfl) T.n_isinstance (by decide +kernel) (pa_cons (pv 2) (pa_cons (pe_glob (v := .ref _) rfl T.g_InvalidArgument rfl) pa_nil))) pa_nil)))))))), ?_⟩
    refine ⟨_, rfl, p, dx, _, rfl, h1, no, _, rfl, p, d, first, rows, φ, r, rfl, hs, hr1, fun b H1 s1 => ?_, kQ⟩
    refine ⟨true, T.u_InvalidArgument_PoolError, fun _ ad hb => ?_, fun z => Bool.noConfusion z⟩
    exact ⟨_, rfl, _, rfl, _, rfl, rfl, T.E_InvalidArgument, _, _, true, rfl, fun _ z => z, T.i_InvalidArgument_InvalidArgument, .inr ⟨_, rfl, _, _, rfl, rfl, kE b _ s1⟩⟩
theorem sc_law_step : FnScope ["space", "states", "first", "kind", "row", "inside", "free", "found", "k"] ["space", "states", "first", "kind", "row"] (defScope s_law_step) := ⟨rfl, rfl, rfl, by decide +kernel, rfl, by decide +kernel, by decide +kernel⟩
theorem ok_law_step (T : Txt K mg a) : FnOk P w K mg base CX0 4 a.f_law_step a.d_law_step ["space", "states", "first", "kind", "row"] (sp_law_step K a) := by
  refine T.F_law_step.ok sc_law_step (fun vs H Q E h => ?len) (fun cdv A outer s H vs Q E hr h => ?body)
  case len =>
    exact sp_law_step_len h
  case body =>
    obtain ⟨p, d, S, first, rows, φ, kind, row, rfl, hs, hS, hr1, hfr, w0, w1, k⟩ := h
    obtain ⟨dx, low, M, h1, h2, _⟩ := id hs
    have nSp : S ≠ p := ne_of hS h1 (by intro z; cases z)
    have nSd : S ≠ d := ne_of hS h2 (by intro z; cases z)
    have sl := statesM_len rows φ
    refine ⟨_, (Evl.pss_cut (ps_set (i := 5) sc_law_step.nd rfl (Or.inl rfl) (pe_chain op_le op_lt (pv 2) (pv 4) (pe_callB call_len_seq (by rfl) T.n_len PySem.boot_len (pa_cons (pv 1) pa_nil))))
      (pss_cons (ps_if (pt_cmpR op_lt (pv 3) pe_int (nomark _))
      (pss_cons (ps_setLc (i := 6) (own := [("k", 8)]) (g := (gName 8)) (by rfl) sc_law_step.nd rfl rfl (sw_true rfl rfl rfl (by decide +kernel)) (pi_range2 (by rfl) T.n_range (pa_cons (pv 2) (pa_cons (pe_callB call_len_seq (by rfl) T.n_len PySem.boot_len (pa_cons (pv 1) pa_nil)) pa_nil))) (blkOk_by (own := [("k", 8)]) (N := ["space", "states", "first", "kind", "row", "inside", "free", "found", "k"]) (sc := defScope s_law_step) (by decide +kernel))
      (fun _ _ _ _ _ => (pg_name (i := 8) sc_law_step.nd rfl (Or.inl rfl))) (fun _ _ _ _ _ => (pts_one (pt_cmpR op_eq (pe_ix (by exact ix_list : IxR _ (rIxL K)) (pv 1) (pv 8) (fun _ _ => rfl)) pe_str (nomark _)))) (fun _ _ _ _ _ => (pv 8)))
      (pss_cons (ps_set (i := 7) sc_law_step.nd rfl (Or.inl rfl) (pe_call (ok_law_take T) (hr.mono (by decide)) rfl T.g_law_take T.F_law_take.kp T.d_law_take .nil pass0 (pa_cons (pv 0) pa_nil)))
      (pss_cons (ps_if (pt_cmpR op_eq (pe_callB call_len_seq (by rfl) T.n_len PySem.boot_len (pa_cons (pv 6) pa_nil)) pe_int (nomark _))
      (pss_one (ps_ret (pe_cmpR op_eq (pv 7) (pe_un un_neg pe_int) (nomark _))))
      pss_nil)
      (pss_cons (ps_asg pe_str (pg_sub (pv 1) (pe_ix ix_list (pv 6) pe_int (fun _ _ => rfl)) set_list))
      (pss_one (ps_ret (pe_and (pe_call (ok_law_is_int T) (hr.mono (by decide)) rfl T.g_law_is_int T.F_law_is_int.kp T.d_law_is_int .nil pass0 (pa_cons (pv 7) pa_nil)) (pe_one (pe_cmpR op_eq (pv 7) (pe_ix ix_list (pv 6) pe_int (fun _ _ => rfl)) (nomark _))))))))))
      pss_nil)
      (pss_cons (ps_if (pt_cmpR op_lt (pv 3) pe_int (nomark _))
      (pss_cons (ps_set (i := 7) sc_law_step.nd rfl (Or.inl rfl) (pe_call (ok_law_claim T) (hr.mono (by decide)) rfl T.g_law_claim T.F_law_claim.kp T.d_law_claim .nil pass0 (pa_cons (pv 0) (pa_cons (pv 4) pa_nil))))
      (pss_cons (ps_if (PW.pt (pw_or (pt_not (pt_val (pv 5))) (pw_or1 (pt_cmpR op_ne (pe_ix ix_list (pv 1) (pv 4) (fun _ _ => rfl)) pe_str (nomark _)))))
      (pss_one (ps_ret (pe_cmpR op_eq (pv 7) (pe_un un_neg pe_int) (nomark _))))
      pss_nil)
      (pss_cons (ps_asg pe_str (pg_sub (pv 1) (pv 4) set_list))
      (pss_one (ps_ret (pe_cmpR op_isN (pv 7) pe_non (nomark _)))))))
      pss_nil)
      (pss_cons (ps_if (pt_cmpR op_lt (pv 3) pe_int (nomark _))
      (pss_cons (ps_set (i := 7) sc_law_step.nd rfl (Or.inl rfl) (pe_call (ok_law_give T) (hr.mono (by decide)) rfl T.g_law_give T.F_law_give.kp T.d_law_give .nil pass0 (pa_cons (pv 0) (pa_cons (pv 4) pa_nil))))
      (pss_cons (ps_if (PW.pt (pw_or (pt_not (pt_val (pv 5))) (pw_or1 (pt_cmpR op_notIn_sign (pe_ix ix_list (pv 1) (pv 4) (fun _ _ => rfl)) pe_str (by rfl)))))
      (pss_one (ps_ret (pe_cmpR op_eq (pv 7) (pe_un un_neg pe_int) (nomark _))))
      pss_nil)
      (pss_cons (ps_asg (pe_ix ix_list (pe_lst (pa_cons pe_str (pa_cons pe_str pa_nil))) (pe_callTy call_int1 (by rfl) T.n_int (by decide +kernel) (pa_cons (pe_cmpR op_eq (pe_ix ix_list (pv 1) (pv 4) (fun _ _ => rfl)) pe_str (nomark _)) pa_nil)) (fun _ _ => rfl)) (pg_sub (pv 1) (pv 4) set_list))
      (pss_one (ps_ret (pe_cmpR op_isN (pv 7) pe_non (nomark _)))))))
      pss_nil)
      (pss_cons (ps_for PassesOwn.never rfl (pi_range2 (by rfl) T.n_range (pa_cons (pv 2) (pa_cons (pe_callB call_len_seq (by rfl) T.n_len PySem.boot_len (pa_cons (pv 1) pa_nil)) pa_nil))) (pg_name (i := 8) sc_law_step.nd rfl (Or.inl rfl))
      (pss_one (ps_asg (pe_ix ix_list (pe_lst (pa_cons (pe_ix ix_list (pv 1) (pv 8) (fun _ _ => rfl)) (pa_cons pe_str (pa_cons pe_str pa_nil)))) (pe_op op_add (pe_callTy call_int1 (by rfl) T.n_int (by decide +kernel) (pa_cons (pe_cmpR op_eq (pe_ix ix_list (pv 1) (pv 8) (fun _ _ => rfl)) pe_str (nomark _)) pa_nil)) (pe_op op_mul pe_int (pe_callTy call_int1 (by rfl) T.n_int (by decide +kernel) (pa_cons (pe_cmpR op_eq (pe_ix ix_list (pv 1) (pv 8) (fun _ _ => rfl)) pe_str (nomark _)) pa_nil)))) (fun _ _ => rfl)) (pg_sub (pv 1) (pv 8) set_list))))
      (pss_one (ps_ret (pe_cmpR op_isN (pe_meth0 (pv 0) T.cl_Space T.m_Space_settle (ok_Space_settle T) (hr.mono (by decide)) T.d_Space_settle .nil pass0) pe_non (nomark _))))))))), ?_⟩
    -- inside = first <= row < len(states)
    refine ⟨fun σ H' => σ = [some (.ref p), some (.ref S), some (.int (first : Int)), some (.int kind), some (.int row), some (.bl (decide ((first : Int) ≤ row ∧ row < (rows : Int)))), none, none, none] ∧ H' = H, ?_, ?_⟩
    · refine ⟨_, rfl, _, rfl, _, _, rfl, rfl, _, rfl, ite2 (fun b1 => ?_) (fun b1 => ?_)⟩
      · have b1 := of_decide_eq_true b1
        refine ⟨_, rfl, S, _, rfl, .inl (SqL.of hS), _, _, rfl, rfl, ⟨?_, rfl⟩⟩
        rw [sl]
        have e : decide (row < (rows : Int)) = decide ((first : Int) ≤ row ∧ row < (rows : Int)) := by
          by_cases q : row < (rows : Int)
          · rw [decide_eq_true q, decide_eq_true ⟨b1, q⟩]
          · rw [decide_eq_false q, decide_eq_false (fun z => q z.2)]
        show _ = [_, _, _, _, _, some (V.bl (decide ((first : Int) ≤ row ∧ row < (rows : Int)))), _, _, _]
        rw [← e]
        rfl
      · refine ⟨?_, rfl⟩
        rw [decide_eq_false (fun z => b1 (decide_eq_true z.1))]
        rfl
    rintro σ H' ⟨rfl, rfl⟩
    have frm0 : ∀ {H1 : Hp}, Same H' H1 → ∀ b o, H' b = some o → b ≠ p → b ≠ d → b ≠ S → H1 b = some o := fun s1 b o e _ _ _ => s1 _ _ e
    -- if kind < 4
    refine ⟨_, rfl, _, _, rfl, rfl, _, rfl, ite2 (fun b4 => ?_) (fun b4 => ?_)⟩
    · -- free
      refine ⟨_, rfl, _, rfl, S, _, rfl, .inl (SqL.of hS), _, _, rfl, ⟨by omega, by omega, by omega, by omega⟩, fun F nF => ?_⟩
      have rl := rowsL_len first rows
      refine lc_it walk_range (fun i H1 => Same H' H1 ∧ H1 F = some (.lst ((((rowsL first rows).take i).filter fun r => (fun s : Int => decide (s = 0)) (φ r)).map V.int))) ⟨Same.new nF, upd_same⟩ (fun _ _ _ _ => True.intro) ?_ ?_
      · rintro i y H1 H2 hi ⟨s1, hF⟩ ⟨rfl, rfl⟩
        have hi' : i < rows - first := by omega
        have g : (rowsL first rows)[i]? = some ((first + i : Nat) : Int) := by unfold rowsL; rw [List.getElem?_map, List.getElem?_range hi']; rfl
        have fs : ((rowsL first rows).take (i + 1)).filter (fun r => (fun s : Int => decide (s = 0)) (φ r)) = ((rowsL first rows).take i).filter (fun r => (fun s : Int => decide (s = 0)) (φ r)) ++ if decide (φ ((first + i : Nat) : Int) = 0) then [((first + i : Nat) : Int)] else [] := by
          rw [take_snoc g, List.filter_append]
          congr 1
          simp only [List.filter_cons, List.filter_nil]
        have fl : (((rowsL first rows).take i).filter fun r => (fun s : Int => decide (s = 0)) (φ r)).length ≤ 60 := Nat.le_trans (List.length_filter_le _ _) (by rw [List.length_take]; omega)
        refine ⟨rfl, _, rfl, _, rfl, S, _, _, _, rfl, rfl, SqL.of (s1 _ _ hS), at_of (j := first + i) (by omega) (statesM_get φ (by omega)), rfl, _, rfl, ?_⟩
        rw [ch_f]
        refine ite2 (fun q => ?_) (fun q => ?_)
        · have q := of_decide_eq_true q
          rw [cd_f] at q
          rw [decide_eq_true q] at fs
          refine ⟨_, rfl, _, hF, small _ (by rw [List.length_map]; omega), same_put s1 nF, ?_⟩
          rw [upd_same, fs, List.map_append]
          rfl
        · have q' : ¬ φ ((first + i : Nat) : Int) = 0 := fun z => q (decide_eq_true (by rw [cd_f]; exact z))
          rw [decide_eq_false q'] at fs
          refine ⟨s1, ?_⟩
          rw [fs]
          simp only [Bool.false_eq_true, if_false, List.append_nil]
          exact hF
      rintro H1 ⟨s1, hF⟩
      rw [List.take_of_length_le (by rw [rl]; omega)] at hF
      replace hF : H1 F = some (.lst ((pickL first rows φ fun s => decide (s = 0)).map V.int)) := hF
      have fl : (pickL first rows φ fun s => decide (s = 0)).length ≤ 60 := Nat.le_trans (pick_le _ _ _ _) (by omega)
      have hs1 := hs.same s1
      have hS1 := s1 _ _ hS
      -- found = _law_take(space)
      refine ⟨_, rfl, p, d, first, rows, φ, rfl, hs1, by omega, fun hno H2 s2 => ?_, fun r r1 r2 r3 H2 hs2 f2 => ?_⟩
      · have hF2 := s2 _ _ hF
        rw [pick_none hno] at hF2
        refine ⟨_, rfl, F, _, rfl, .inl (SqL.of hF2), rfl, _, rfl, iteT ?_⟩
        refine ⟨_, rfl, _, rfl, rfl, ?_⟩
        rw [decide_eq_true rfl]
        exact k d φ H2 (.inl rfl) (hs1.same s2) (s2 _ _ hS1) (frm0 (s1.trans s2))
      · have nSd' : S ≠ d := nSd
        have hF2 : H2 F = some (.lst ((pickL first rows φ fun s => decide (s = 0)).map V.int)) := by
          obtain ⟨dx', low', M', k1, k2, _⟩ := hs1
          exact f2 _ _ hF (ne_of hF k1 (by intro z; cases z)) (ne_of hF k2 (by intro z; cases z))
        have hS2 : H2 S = some (.lst (statesM rows φ)) := f2 _ _ hS1 nSp nSd
        have hd := pick_head r1 r2 r3
        have hdV : ((pickL first rows φ fun s => decide (s = 0)).map V.int)[0]? = some (V.int r) := by rw [List.getElem?_map, hd]; rfl
        have nz : (pickL first rows φ fun s => decide (s = 0)).length ≠ 0 := fun z => by rw [List.length_eq_zero_iff.mp z] at hd; cases hd
        refine ⟨_, rfl, F, _, rfl, .inl (SqL.of hF2), rfl, _, rfl, ite2 (fun q => absurd (V.int.inj (of_decide_eq_true q)) (by rw [List.length_map]; omega)) (fun _ => ?_)⟩
        obtain ⟨rn, rfl⟩ : ∃ n : Nat, r = (n : Int) := ⟨r.toNat, by have := r1.1; omega⟩
        have rlt : rn < rows := by have := r1.2; omega
        refine ⟨_, rfl, _, rfl, F, _, _, _, rfl, rfl, SqL.of hF2, at_of (j := 0) rfl hdV, ?_⟩
        refine ⟨S, _, _, rn, rfl, rfl, hS2, ixN_nat (by rw [sl]; exact rlt), ?_⟩
        rw [st_n, statesM_set φ 1 rlt]
        have nFS : F ≠ S := (ne_of_none hS nF).symm
        refine ⟨_, rfl, (rn : Int), rfl, true, rfl, iteT ⟨_, rfl, _, rfl, F, _, _, _, rfl, rfl, SqL.of (by rw [upd_ne nFS]; exact hF2), at_of (j := 0) rfl hdV, rfl, ?_⟩⟩
        rw [decide_eq_true rfl]
        refine k d (upF φ (rn : Int) 1) _ (.inl rfl) ?_ upd_same fun b o eb n1 n2 n3 => ?_
        · obtain ⟨dx', low', M', k1, k2, k3⟩ := hs2
          exact ⟨dx', low', M', by rw [upd_ne nSp.symm]; exact k1, by rw [upd_ne nSd.symm]; exact k2, k3⟩
        · rw [upd_ne n3]
          exact f2 _ _ (s1 _ _ eb) n1 n2
    -- if kind < 6
    refine ⟨_, rfl, _, _, rfl, rfl, _, rfl, ite2 (fun b6 => ?_) (fun b6 => ?_)⟩
    · refine ⟨_, rfl, _, rfl, p, d, first, rows, φ, row, rfl, hs, by omega, fun hno H2 s2 => ?_, fun r1 r2 H2 hs2 f2 => ?_⟩
      · have hS2 := s2 _ _ hS
        have done : Q (.bl true) H2 := k d φ H2 (.inl rfl) (hs.same s2) hS2 (frm0 s2)
        by_cases hin : (first : Int) ≤ row ∧ row < (rows : Int)
        · have gs : (statesM rows φ)[row.toNat]? = some (V.str (chM (φ row))) := by rw [statesM_get _ (by omega), show ((row.toNat : Nat) : Int) = row by omega]
          refine ⟨_, rfl, _, rfl, ?_⟩
          rw [decide_eq_true hin]
          refine iteF ⟨_, rfl, _, rfl, S, _, _, _, rfl, rfl, SqL.of hS2, at_of (j := row.toNat) (by omega) gs, rfl, _, rfl, ?_⟩
          rw [ch_f, decide_eq_false (fun z => hno ⟨hin, cd_f.mp z⟩)]
          refine iteT ⟨_, rfl, _, rfl, rfl, ?_⟩
          rw [decide_eq_true rfl]
          exact done
        · refine ⟨_, rfl, _, rfl, ?_⟩
          rw [decide_eq_false hin]
          refine iteT ⟨_, rfl, _, rfl, rfl, ?_⟩
          rw [decide_eq_true rfl]
          exact done
      · have hin : (first : Int) ≤ row ∧ row < (rows : Int) := r1
        have hS2 := f2 _ _ hS nSp nSd
        obtain ⟨rn, rfl⟩ : ∃ n : Nat, row = (n : Int) := ⟨row.toNat, by omega⟩
        have rlt : rn < rows := by omega
        refine ⟨_, rfl, _, rfl, ?_⟩
        rw [decide_eq_true hin]
        refine iteF ⟨_, rfl, _, rfl, S, _, _, _, rfl, rfl, SqL.of hS2, at_of (j := rn) rfl (statesM_get φ rlt), rfl, _, rfl, ?_⟩
        rw [ch_f, decide_eq_true (cd_f.mpr r2)]
        refine iteF ⟨_, rfl, _, rfl, S, _, _, rn, rfl, rfl, hS2, ixN_nat (by rw [sl]; exact rlt), ?_⟩
        rw [st_o, statesM_set φ 2 rlt]
        refine ⟨_, rfl, rfl, ?_⟩
        rw [decide_eq_true rfl]
        refine k d (upF φ (rn : Int) 2) _ (.inl rfl) ?_ upd_same fun b o eb n1 n2 n3 => ?_
        · obtain ⟨dx', low', M', k1, k2, k3⟩ := hs2
          exact ⟨dx', low', M', by rw [upd_ne nSp.symm]; exact k1, by rw [upd_ne nSd.symm]; exact k2, k3⟩
        · rw [upd_ne n3]
          exact f2 _ _ eb n1 n2
    -- if kind < 9
    refine ⟨_, rfl, _, _, rfl, rfl, _, rfl, ite2 (fun b9 => ?_) (fun b9 => ?_)⟩
    · refine ⟨_, rfl, _, rfl, p, d, first, rows, φ, row, rfl, hs, by omega, fun hno H2 s2 => ?_, fun r1 H2 hs2 f2 => ?_⟩
      · have hS2 := s2 _ _ hS
        have done : Q (.bl true) H2 := k d φ H2 (.inl rfl) (hs.same s2) hS2 (frm0 s2)
        by_cases hin : (first : Int) ≤ row ∧ row < (rows : Int)
        · have gs : (statesM rows φ)[row.toNat]? = some (V.str (chM (φ row))) := by rw [statesM_get _ (by omega), show ((row.toNat : Nat) : Int) = row by omega]
          refine ⟨_, rfl, _, rfl, ?_⟩
          rw [decide_eq_true hin]
          refine iteF ⟨_, rfl, _, rfl, S, _, _, _, rfl, rfl, SqL.of hS2, at_of (j := row.toNat) (by omega) gs, cdM (φ row), _, rfl, rfl, _, rfl, ?_⟩
          rw [ch_no, decide_eq_false (fun z => by rw [cd_n, cd_o] at z; omega)]
          refine iteT ⟨_, rfl, _, rfl, rfl, ?_⟩
          rw [decide_eq_true rfl]
          exact done
        · refine ⟨_, rfl, _, rfl, ?_⟩
          rw [decide_eq_false hin]
          refine iteT ⟨_, rfl, _, rfl, rfl, ?_⟩
          rw [decide_eq_true rfl]
          exact done
      · have hin : (first : Int) ≤ row ∧ row < (rows : Int) := Classical.byContradiction fun z => r1 (.inl (hs.out z))
        have hv := hs.vals row
        have hS2 := f2 _ _ hS nSp nSd
        obtain ⟨rn, rfl⟩ : ∃ n : Nat, row = (n : Int) := ⟨row.toNat, by omega⟩
        have rlt : rn < rows := by omega
        have r12 : φ (rn : Int) = 1 ∨ φ (rn : Int) = 2 := by omega
        refine ⟨_, rfl, _, rfl, ?_⟩
        rw [decide_eq_true hin]
        refine iteF ⟨_, rfl, _, rfl, S, _, _, _, rfl, rfl, SqL.of hS2, at_of (j := rn) rfl (statesM_get φ rlt), cdM (φ (rn : Int)), _, rfl, rfl, _, rfl, ?_⟩
        rw [ch_no, decide_eq_true (by rw [cd_n, cd_o]; exact r12)]
        refine iteF ⟨(by show 2 ≤ sizeLine; decide), fun q nq => ?_⟩
        have sq := Same.new (o := .lst [V.str (Str.ofString "w"), .str (Str.ofString "f")]) nq
        have hS3 := sq _ _ hS2
        have dq : upd H2 q (.lst [V.str (Str.ofString "w"), .str (Str.ofString "f")]) q = some (.lst [V.str (Str.ofString "w"), .str (Str.ofString "f")]) := upd_same
        have hs3 := hs2.same sq
        have f3 : Frm p d H' (upd H2 q (.lst [V.str (Str.ofString "w"), .str (Str.ofString "f")])) := fun b o eb n1 n2 => sq _ _ (f2 _ _ eb n1 n2)
        generalize upd H2 q (.lst [V.str (Str.ofString "w"), .str (Str.ofString "f")]) = H3 at hS3 dq hs3 f3 ⊢
        refine ⟨_, rfl, _, rfl, S, _, _, _, rfl, rfl, SqL.of hS3, at_of (j := rn) rfl (statesM_get φ rlt), rfl, .inr ⟨_, rfl, ?_⟩⟩
        rw [ch_n]
        have fin2 : ∀ (v : V) (sv : Int), v = V.str (chM sv) → (if φ (rn : Int) = 2 then 3 else 0) = sv → Q (.bl true) (upd H3 S (.lst ((statesM rows φ).set rn v))) := fun v sv ev es => by
          rw [ev, statesM_set φ sv rlt]
          rw [es] at hs3
          refine k d (upF φ (rn : Int) sv) _ (.inl rfl) ?_ upd_same fun b o eb n1 n2 n3 => ?_
          · obtain ⟨dx', low', M', k1, k2, k3⟩ := hs3
            exact ⟨dx', low', M', by rw [upd_ne nSp.symm]; exact k1, by rw [upd_ne nSd.symm]; exact k2, k3⟩
          · rw [upd_ne n3]
            exact f3 _ _ eb n1 n2
        rcases r12 with e | e
        · rw [decide_eq_true (cd_n.mpr e)]
          refine ⟨q, _, _, _, rfl, rfl, SqL.of dq, at_of (j := 1) rfl rfl, _, rfl, _, rfl, S, _, _, rn, rfl, rfl, hS3, ixN_nat (by rw [sl]; exact rlt), ?_⟩
          refine ⟨_, rfl, rfl, ?_⟩
          rw [decide_eq_true rfl]
          exact fin2 _ 0 st_f (by rw [if_neg (by omega)])
        · rw [decide_eq_false (fun z => by have := cd_n.mp z; omega)]
          refine ⟨q, _, _, _, rfl, rfl, SqL.of dq, at_of (j := 0) rfl rfl, _, rfl, _, rfl, S, _, _, rn, rfl, rfl, hS3, ixN_nat (by rw [sl]; exact rlt), ?_⟩
          refine ⟨_, rfl, rfl, ?_⟩
          rw [decide_eq_true rfl]
          exact fin2 _ 3 st_w (by rw [if_pos e])
    -- for k in range(first, len(states))
    refine ⟨_, rfl, _, rfl, S, _, rfl, .inl (SqL.of hS), _, _, rfl, ⟨by omega, by omega, by omega, by omega⟩, ?_⟩
    rw [sl, show ((rows : Int) - (first : Int)).toNat = rows - first by omega]
    refine for_range (lo := (first : Int)) (n := rows - first) (fun i σ H1 => ∃ v8 : Option V, σ = [some (.ref p), some (.ref S), some (.int (first : Int)), some (.int kind), some (.int row), some (.bl (decide ((first : Int) ≤ row ∧ row < (rows : Int)))), none, none, v8] ∧ H1 S = some (.lst (statesM rows (partF φ first i))) ∧ ∀ b o, H' b = some o → b ≠ S → H1 b = some o) ⟨none, rfl, by rw [partF_zero]; exact hS, fun _ _ e _ => e⟩ ?_ ?_
    · rintro i σ H1 hi ⟨v8, rfl, hS1, f1⟩
      have ilt : first + i < rows := by omega
      have hv := hs.vals ((first + i : Nat) : Int)
      have gp : partF φ first i ((first + i : Nat) : Int) = φ ((first + i : Nat) : Int) := by unfold partF; rw [if_neg (by omega)]
      have gs : (statesM rows (partF φ first i))[first + i]? = some (V.str (chM (φ ((first + i : Nat) : Int)))) := by rw [statesM_get _ ilt, gp]
      have gl : (statesM rows (partF φ first i)).length = rows := statesM_len _ _
      have eix : (first : Int) + (i : Nat) = ((first + i : Nat) : Int) := by omega
      refine ⟨_, rfl, _, rfl, S, _, _, _, rfl, rfl, SqL.of hS1, at_of (j := first + i) eix gs, (by show 3 ≤ sizeLine; decide), fun q nq => ?_⟩
      have sq := Same.new (o := .lst [V.str (chM (φ ((first + i : Nat) : Int))), .str (Str.ofString "f"), .str (Str.ofString "o")]) nq
      have hS2 := sq _ _ hS1
      have dq : upd H1 q (.lst [V.str (chM (φ ((first + i : Nat) : Int))), .str (Str.ofString "f"), .str (Str.ofString "o")]) q = some (.lst [V.str (chM (φ ((first + i : Nat) : Int))), .str (Str.ofString "f"), .str (Str.ofString "o")]) := upd_same
      have f2 : ∀ b o, H' b = some o → b ≠ S → upd H1 q (.lst [V.str (chM (φ ((first + i : Nat) : Int))), .str (Str.ofString "f"), .str (Str.ofString "o")]) b = some o := fun b o eb nb => sq _ _ (f1 _ _ eb nb)
      generalize upd H1 q (.lst [V.str (chM (φ ((first + i : Nat) : Int))), .str (Str.ofString "f"), .str (Str.ofString "o")]) = H2 at hS2 dq f2 ⊢
      refine ⟨_, rfl, _, rfl, S, _, _, _, rfl, rfl, SqL.of hS2, at_of (j := first + i) eix gs, rfl, .inr ⟨_, rfl, ?_⟩⟩
      refine ⟨_, rfl, _, rfl, S, _, _, _, rfl, rfl, SqL.of hS2, at_of (j := first + i) eix gs, rfl, .inr ⟨_, rfl, ?_⟩⟩
      rw [ch_n, ch_w]
      have fin2 : ∀ (v : V) (sv : Int), v = V.str (chM sv) → settF φ ((first + i : Nat) : Int) = sv → ∃ v8 : Option V, [some (.ref p), some (.ref S), some (.int (first : Int)), some (.int kind), some (.int row), some (.bl (decide ((first : Int) ≤ row ∧ row < (rows : Int)))), none, none, some (V.int ((first : Int) + (i : Nat)))] = [some (.ref p), some (.ref S), some (.int (first : Int)), some (.int kind), some (.int row), some (.bl (decide ((first : Int) ≤ row ∧ row < (rows : Int)))), none, none, v8] ∧ upd H2 S (.lst ((statesM rows (partF φ first i)).set (first + i) v)) S = some (.lst (statesM rows (partF φ first (i + 1)))) ∧ ∀ b o, H' b = some o → b ≠ S → upd H2 S (.lst ((statesM rows (partF φ first i)).set (first + i) v)) b = some o := fun v sv ev es => by
        refine ⟨_, rfl, ?_, fun b o eb nb => by rw [upd_ne nb]; exact f2 _ _ eb nb⟩
        rw [upd_same, ev, statesM_set _ sv ilt, partF_succ, es]
      have r4 : φ ((first + i : Nat) : Int) = 0 ∨ φ ((first + i : Nat) : Int) = 1 ∨ φ ((first + i : Nat) : Int) = 2 ∨ φ ((first + i : Nat) : Int) = 3 := by omega
      rcases r4 with e | e | e | e
      · have sf : settF φ ((first + i : Nat) : Int) = 0 := by unfold settF; rw [if_pos (.inl e)]
        rw [e] at dq ⊢
        refine ⟨_, _, rfl, rfl, .inl ⟨by decide, by decide⟩, _, _, rfl, rfl, q, _, _, _, rfl, rfl, SqL.of dq, at_of (j := 0) rfl rfl, ?_⟩
        exact ⟨_, rfl, _, rfl, S, _, _, first + i, rfl, congrArg V.int eix, hS2, ixN_nat (by rw [gl]; exact ilt), fin2 _ 0 rfl sf⟩
      · have sf : settF φ ((first + i : Nat) : Int) = 2 := by unfold settF; rw [if_neg (by omega)]
        rw [e] at dq ⊢
        refine ⟨_, _, rfl, rfl, .inl ⟨by decide, by decide⟩, _, _, rfl, rfl, q, _, _, _, rfl, rfl, SqL.of dq, at_of (j := 2) rfl rfl, ?_⟩
        exact ⟨_, rfl, _, rfl, S, _, _, first + i, rfl, congrArg V.int eix, hS2, ixN_nat (by rw [gl]; exact ilt), fin2 _ 2 st_o sf⟩
      · have sf : settF φ ((first + i : Nat) : Int) = 2 := by unfold settF; rw [if_neg (by omega)]
        rw [e] at dq ⊢
        refine ⟨_, _, rfl, rfl, .inl ⟨by decide, by decide⟩, _, _, rfl, rfl, q, _, _, _, rfl, rfl, SqL.of dq, at_of (j := 0) rfl rfl, ?_⟩
        exact ⟨_, rfl, _, rfl, S, _, _, first + i, rfl, congrArg V.int eix, hS2, ixN_nat (by rw [gl]; exact ilt), fin2 _ 2 rfl sf⟩
      · have sf : settF φ ((first + i : Nat) : Int) = 0 := by unfold settF; rw [if_pos (.inr e)]
        rw [e] at dq ⊢
        refine ⟨_, _, rfl, rfl, .inl ⟨by decide, by decide⟩, _, _, rfl, rfl, q, _, _, _, rfl, rfl, SqL.of dq, at_of (j := 1) rfl rfl, ?_⟩
        exact ⟨_, rfl, _, rfl, S, _, _, first + i, rfl, congrArg V.int eix, hS2, ixN_nat (by rw [gl]; exact ilt), fin2 _ 0 st_f sf⟩
    rintro σ H1 ⟨v8, rfl, hS1, f1⟩
    have hs1 : SpD a H1 p d first rows φ := by
      obtain ⟨dx', low', M', k1, k2, k3⟩ := hs
      exact ⟨dx', low', M', f1 _ _ k1 nSp.symm, f1 _ _ k2 nSd.symm, k3⟩
    obtain ⟨dx1, low1, M1, g1, g2, _⟩ := id hs1
    have no : (flds (rows : Int) (first : Int) d low1).lookup ("settle" : Str) = none := by kernel_rfl
    refine ⟨_, rfl, p, dx1, _, rfl, g1, no, p, d, first, rows, φ, rfl, hs1, by omega, fun d' H2 nd' hs2 f2 => ⟨rfl, ?_⟩⟩
    rw [decide_eq_true rfl]
    have e : statesM rows (partF φ first (rows - first)) = statesM rows (settF φ) := by
      unfold statesM
      refine List.map_congr_left fun j hj => ?_
      have hj' := List.mem_range.mp hj
      have : partF φ first (rows - first) (j : Int) = settF φ (j : Int) := by
        unfold partF
        split
        · rfl
        · next q =>
          have : φ (j : Int) = 0 := hs.out fun z => q ⟨z.1, by have := z.2; omega⟩
          unfold settF
          rw [if_pos (.inl this), this]
      rw [this]
    rw [e] at hS1
    have nd0 : H' d' = none := by
      cases z : H' d' with
      | none => rfl
      | some o =>
        by_cases zs : d' = S
        · rw [zs, hS1] at nd'
          cases nd'
        · rw [f1 _ _ z zs] at nd'
          cases nd'
    exact k d' (settF φ) H2 (.inr nd0) hs2 (f2 _ _ hS1 nSp nSd) fun b o eb n1 n2 n3 => f2 _ _ (f1 _ _ eb n3) n1 n2
theorem sc_law : FnScope ["script", "pot", "rows", "first", "space", "twin", "states", "k"] ["script"] (defScope s_law) := ⟨rfl, rfl, rfl, by decide +kernel, rfl, by decide +kernel, by decide +kernel⟩
theorem ok_law (T : Txt K mg a) : FnOk P w K mg base CX0 5 a.f_law a.d_law ["script"] (sp_law K a) := by
  refine T.F_law.ok sc_law (fun vs H Q E h => ?len) (fun cdv A outer s H vs Q E hr h => ?body)
  case len =>
    exact sp_law_len h
  case body =>
    obtain ⟨s, ns, rfl, hS, hlen, k⟩ := h
    refine ⟨_, (pss_cons (ps_set (i := 1) sc_law.nd rfl (Or.inl rfl) (pe_call (ok_law_pot T) (hr.mono (by decide)) rfl T.g_law_pot T.F_law_pot.kp T.d_law_pot .nil pass0 (pa_cons (pv 0) pa_nil)))
      (pss_cons (ps_set (i := 2) sc_law.nd rfl (Or.inl rfl) (pe_call (ok_law_next T) (hr.mono (by decide)) rfl T.g_law_next T.F_law_next.kp T.d_law_next .nil pass0 (pa_cons (pv 1) (pa_cons pe_int pa_nil))))
      (pss_cons (ps_set (i := 3) sc_law.nd rfl (Or.inl rfl) (pe_call (ok_law_next T) (hr.mono (by decide)) rfl T.g_law_next T.F_law_next.kp T.d_law_next .nil pass0 (pa_cons (pv 1) (pa_cons (pe_op op_add (pv 2) pe_int) pa_nil))))
      (Evl.pss_cut (ps_if (pt_cmpR op_gt (pe_call (ok_law_next T) (hr.mono (by decide)) rfl T.g_law_next T.F_law_next.kp T.d_law_next .nil pass0 (pa_cons (pv 1) (pa_cons pe_int pa_nil))) pe_int (nomark _))
      (pss_one (ps_set (i := 3) sc_law.nd rfl (Or.inl rfl) (pe_op op_fdiv (pv 3) pe_int)))
      pss_nil)
      (pss_cons (ps_set (i := 4) sc_law.nd rfl (Or.inl rfl) (pe_make T.mk_Space (ok_Space_init T) (hr.mono (by decide)) rfl T.g_Space T.d_Space_init .nil pass0 (pa_cons (pv 2) (pa_cons (pv 3) pa_nil))))
      (pss_cons (ps_set (i := 5) sc_law.nd rfl (Or.inl rfl) (pe_make T.mk_Space (ok_Space_init T) (hr.mono (by decide)) rfl T.g_Space T.d_Space_init .nil pass0 (pa_cons (pv 2) (pa_cons (pv 3) pa_nil))))
      (pss_cons (ps_set (i := 6) sc_law.nd rfl (Or.inl rfl) (pe_op op_rep (pe_lst (pa_cons pe_str pa_nil)) (pv 2)))
      (pss_cons (ps_for PassesOwn.never rfl (pi_range1 (by rfl) T.n_range (pa_cons (pe_op op_add pe_int (pe_op op_fdiv (pe_callB call_len_seq (by rfl) T.n_len PySem.boot_len (pa_cons (pv 0) pa_nil)) pe_int)) pa_nil)) (pg_name (i := 7) sc_law.nd rfl (Or.inl rfl))
      (pss_cons (ps_if (pt_not (pt_val (pe_call (ok_law_step T) (hr.mono (by decide)) rfl T.g_law_step T.F_law_step.kp T.d_law_step .nil pass0 (pa_cons (pv 4) (pa_cons (pv 6) (pa_cons (pv 3) (pa_cons (pe_call (ok_law_next T) (hr.mono (by decide)) rfl T.g_law_next T.F_law_next.kp T.d_law_next .nil pass0 (pa_cons (pv 1) (pa_cons pe_int pa_nil))) (pa_cons (pe_op op_sub (pe_call (ok_law_next T) (hr.mono (by decide)) rfl T.g_law_next T.F_law_next.kp T.d_law_next .nil pass0 (pa_cons (pv 1) (pa_cons (pe_op op_add (pv 2) pe_int) pa_nil))) pe_int) pa_nil))))))))
      (pss_one (ps_ret pe_bl))
      pss_nil)
      (pss_one (ps_if (pt_not (pt_val (pe_call (ok_law_looks_right T) (hr.mono (by decide)) rfl T.g_law_looks_right T.F_law_looks_right.kp T.d_law_looks_right .nil pass0 (pa_cons (pv 4) (pa_cons (pv 6) (pa_cons (pv 3) pa_nil))))))
      (pss_one (ps_ret pe_bl))
      pss_nil))))
      (pss_cons (ps_expr (pe_bm PySem.F.plainAttrs_list PySem.F.slot_list_append PySem.F.type_list_append mt_append (pe_meth0 (pv 4) T.cl_Space T.m_Space_used_rows (ok_Space_used_rows T) (hr.mono (by decide)) T.d_Space_used_rows .nil pass0) (pa_cons pe_int pa_nil)))
      (pss_cons (ps_expr (pe_bm PySem.F.plainAttrs_list PySem.F.slot_list_append PySem.F.type_list_append mt_append (pe_meth0 (pv 4) T.cl_Space T.m_Space_waiting_rows (ok_Space_waiting_rows T) (hr.mono (by decide)) T.d_Space_waiting_rows .nil pass0) (pa_cons pe_int pa_nil)))
      (pss_one (ps_ret (pe_and (pe_call (ok_law_looks_right T) (hr.mono (by decide)) rfl T.g_law_looks_right T.F_law_looks_right.kp T.d_law_looks_right .nil pass0 (pa_cons (pv 4) (pa_cons (pv 6) (pa_cons (pv 3) pa_nil)))) (pe_one (pe_call (ok_law_looks_right T) (hr.mono (by decide)) rfl T.g_law_looks_right T.F_law_looks_right.kp T.d_law_looks_right .nil pass0 (pa_cons (pv 5) (pa_cons (pe_op op_rep (pe_lst (pa_cons pe_str pa_nil)) (pv 2)) (pa_cons (pv 3) pa_nil)))))))))))))))))), ?_⟩
    refine ⟨_, rfl, s, ns, rfl, hS, by omega, fun p l H1 hp hl s1 P1 => ?_⟩
    refine ⟨_, rfl, p, l, 41, rfl, P1, by decide, by decide, fun rw' H2 r0 r1 P2 o2 => ?_⟩
    obtain ⟨rows, rfl⟩ : ∃ n : Nat, rw' = (n : Int) := ⟨rw'.toNat, by omega⟩
    have r60 : rows ≤ 60 := by omega
    refine ⟨_, rfl, _, rfl, _, _, rfl, rfl, p, l, (rows : Int) + 1, rfl, P2, by omega, by omega, fun fw H3 f0 f1 P3 o3 => ?_⟩
    -- if _law_next(pot, 8) > 0: first = first // 4
    have sm : ∀ {H' : Hp}, But p H1 H' → Same H H' := fun b q o e => b q o (s1 q o e) (ne_of_none e hp)
    refine ⟨fun σ H' => ∃ first : Nat, σ = [some (.ref s), some (.ref p), some (.int (rows : Int)), some (.int (first : Int)), none, none, none, none] ∧ first ≤ rows ∧ Pot H' p l ∧ Same H H', ?_, ?_⟩
    · refine ⟨_, rfl, p, l, 8, rfl, P3, by decide, by decide, fun b H4 b0 b1 P4 o4 => ?_⟩
      have s4 : Same H H4 := sm ((o2.but.trans o3.but).trans o4.but)
      refine ⟨_, _, rfl, rfl, _, rfl, ite2 (fun _ => ?_) (fun _ => ⟨fw.toNat, by rw [show ((fw.toNat : Nat) : Int) = fw by omega]; rfl, by omega, P4, s4⟩)⟩
      have e4 : (((fw.toNat / 4 : Nat)) : Int) = fw / 4 := by omega
      refine ⟨_, rfl, _, _, rfl, rfl, ⟨by decide, by decide⟩, fw.toNat / 4, ?_, by omega, P4, s4⟩
      rw [e4]
      rfl
    rintro σ H4 ⟨first, rfl, hfr, P4, s4⟩
    clear s1 P1 P2 P3 o2 o3 r0 r1 f0 f1
    -- space = Space(rows, first)
    refine ⟨_, rfl, _, rfl, fun x dx nx ndx nex => ⟨x, dx, first, rows, rfl, upd_same, hfr, fun d H5 nd5 hs5 f5 => ⟨rfl, ?_⟩⟩⟩
    have s45 : Same H4 H5 := fun b o e => f5 b o (by rw [upd_ne (ne_of_none e nx), upd_ne (ne_of_none e ndx)]; exact e) (ne_of_none e nx)
    have nd4 : H4 d = none := make_free (H' := H4) nd5
    have nx0 := same_none s4 nx
    have nd0 := same_none s4 nd4
    -- twin = Space(rows, first)
    refine ⟨_, rfl, _, rfl, fun y dy ny ndy ney => ⟨y, dy, first, rows, rfl, upd_same, hfr, fun e H6 ne6 ht6 f6 => ⟨rfl, ?_⟩⟩⟩
    have s56 : Same H5 H6 := fun b o e => f6 b o (by rw [upd_ne (ne_of_none e ny), upd_ne (ne_of_none e ndy)]; exact e) (ne_of_none e ny)
    have ne5 : H5 e = none := make_free (H' := H5) ne6
    have hs6 := hs5.same s56
    have P6 := (P4.same s45).same s56
    have s6 := (s4.trans s45).trans s56
    obtain ⟨xdx, xlow, xM, hx1, hx2, _⟩ := id hs5
    have nxy : y ≠ x := (ne_of_none hx1 ny).symm
    have nde : d ≠ e := ne_of_none hx2 ne5
    clear f5 f6 nd5 ne6
    -- states = ['f'] * rows
    refine ⟨(by show 1 ≤ sizeLine; decide), fun q1 n1 => ⟨_, rfl, q1, (rows : Int), _, rfl, rfl, upd_same, by omega, by omega, ?_, fun S nS => ?_⟩⟩
    · rw [Int.toNat_natCast]
      exact Nat.le_of_lt (small _ (by simp; omega))
    rw [Int.toNat_natCast, states_new]
    have sS := (Same.new (o := .lst [V.str (Str.ofString "f")]) n1).trans (Same.new (o := .lst (statesM rows fun _ => 0)) nS)
    have nS6 : H6 S = none := same_none (Same.new (o := .lst [V.str (Str.ofString "f")]) n1) nS
    have hS7 : upd (upd H6 q1 (.lst [V.str (Str.ofString "f")])) S (.lst (statesM rows fun _ => 0)) S = some (.lst (statesM rows fun _ => 0)) := upd_same
    have P7 := P6.same sS
    have hs7 := hs6.same sS
    have ht7 := ht6.same sS
    have s7 := s6.trans sS
    have offS := P6.off nS6
    have nS0 := same_none s6 nS6
    clear hs6 ht6 P6 s6 hs5 P4
    generalize upd (upd H6 q1 (.lst [V.str (Str.ofString "f")])) S (.lst (statesM rows fun _ => 0)) = H7 at sS hS7 P7 hs7 ht7 s7 ⊢
    -- for k in range(5 + len(script) // 2)
    refine ⟨_, rfl, s, _, rfl, .inl (s7.seq hS), _, _, rfl, rfl, ⟨by decide, by decide⟩, _, _, rfl, rfl, _, rfl, by rw [List.length_map]; omega, by rw [List.length_map]; omega, ?_⟩
    generalize (5 + ((ns.map V.int).length : Int) / 2).toNat = turns
    refine for_range (lo := 0) (n := turns) (fun i σ H' => ∃ (v7 : Option V) (d : Addr) (φ : Int → Int), σ = [some (.ref s), some (.ref p), some (.int (rows : Int)), some (.int (first : Int)), some (.ref x), some (.ref y), some (.ref S), v7] ∧ Same H H' ∧ Pot H' p l ∧ SpD a H' x d first rows φ ∧ SpD a H' y e first rows (fun _ => 0) ∧ H' S = some (.lst (statesM rows φ)) ∧ d ≠ e ∧ H d = none)
      ⟨none, d, fun _ => 0, rfl, s7, P7, hs7, ht7, hS7, nde, nd0⟩ ?_ ?_
    · clear hS7 P7 hs7 ht7 s7 nde nd0 nd4 hx2 hx1
      rintro i σ H8 hi ⟨v7, d, φ, rfl, s8, P8, hs8, ht8, hS8, nde, nd0⟩
      refine ⟨_, rfl, _, rfl, _, rfl, _, rfl, p, l, 10, rfl, P8, by decide, by decide, fun kd H9 k0 k1 P9 o9 => ?_⟩
      refine ⟨_, rfl, _, rfl, _, _, rfl, rfl, p, l, (rows : Int) + 3, rfl, P9, by omega, by omega, fun rw' H10 w0 w1 P10 o10 => ⟨_, _, rfl, rfl, ?_⟩⟩
      have hs10 := (hs8.only P8 o9).only P9 o10
      have ht10 := (ht8.only P8 o9).only P9 o10
      have hS10 : H10 S = some (.lst (statesM rows φ)) := by rw [o10 _ offS.1.symm, o9 _ offS.1.symm]; exact hS8
      have s10 : Same H H10 := fun b o eb => by rw [o10 _ (ne_of_none eb hp), o9 _ (ne_of_none eb hp)]; exact s8 b o eb
      refine ⟨x, d, S, first, rows, φ, kd, rw' - 1, rfl, hs10, hS10, r60, hfr, by omega, by omega, fun d' φ' H11 hd' hs11 hS11 f11 => ⟨true, rfl, iteF ?_⟩⟩
      obtain ⟨xdx, xlow, xM, g1, g2, _⟩ := id hs10
      obtain ⟨ydx, ylow, yM, t1, t2, t3⟩ := id ht10
      have s11 : Same H H11 := fun b o eb => f11 b o (s10 b o eb) (ne_of_none eb nx0) (ne_of_none eb nd0) (ne_of_none eb nS0)
      have ht11 : SpD a H11 y e first rows (fun _ => 0) := ⟨ydx, ylow, yM, f11 _ _ t1 nxy (ne_of t1 g2 (by intro z; cases z)) (ne_of t1 hS10 (by intro z; cases z)), f11 _ _ t2 (ne_of t2 g1 (by intro z; cases z)) nde.symm (ne_of t2 hS10 (by intro z; cases z)), t3⟩
      have P11 : Pot H11 p l := by
        obtain ⟨zs, i, acc, seed, m1, m2, m3⟩ := id P10
        exact ⟨zs, i, acc, seed, f11 _ _ m1 (ne_of m1 g1 (by intro z; cases z)) (ne_of m1 g2 (by intro z; cases z)) offS.1, f11 _ _ m2 (ne_of m2 g1 (by intro z; cases z)) (ne_of m2 g2 (by intro z; cases z)) offS.2, m3⟩
      have nde' : d' ≠ e := by
        rcases hd' with z | z
        · rw [z]; exact nde
        · exact fun w => by rw [w, t2] at z; cases z
      have nd0' : H d' = none := by
        rcases hd' with z | z
        · rw [z]; exact nd0
        · exact same_none s10 z
      refine ⟨_, rfl, _, rfl, _, rfl, x, d', S, first, rows, φ', rfl, hs11, hS11, r60, hfr, fun H12 s12 => ⟨true, rfl, iteF ?_⟩⟩
      exact ⟨_, d', φ', rfl, s11.trans s12, P11.same s12, hs11.same s12, ht11.same s12, s12 _ _ hS11, nde', nd0'⟩
    clear hS7 P7 hs7 ht7 s7 nde nd0 nd4 hx2 hx1
    rintro σ H8 ⟨v7, d, φ, rfl, s8, P8, hs8, ht8, hS8, nde, nd0⟩
    obtain ⟨xdx, xlow, xM, g1, g2, _⟩ := id hs8
    have no2 : (flds (rows : Int) (first : Int) d xlow).lookup ("used_rows" : Str) = none := by kernel_rfl
    have no3 : (flds (rows : Int) (first : Int) d xlow).lookup ("waiting_rows" : Str) = none := by kernel_rfl
    -- space.used_rows().append(5)
    refine ⟨_, rfl, x, xdx, _, rfl, g1, no2, x, d, first, rows, φ, rfl, hs8, r60, fun D1 H9 s9 n9 d9 => ?_⟩
    refine ⟨.inl ⟨rfl, _, SqL.of d9⟩, D1, _, _, rfl, rfl, d9, small _ (by rw [List.length_map]; have := pick_le first rows φ fun s => decide (s = 1 ∨ s = 2); omega), ?_⟩
    have s89 := same_put (o := .lst ((pickL first rows φ fun s => decide (s = 1 ∨ s = 2)).map V.int ++ [V.int 5])) s9 n9
    generalize upd H9 D1 (.lst ((pickL first rows φ fun s => decide (s = 1 ∨ s = 2)).map V.int ++ [V.int 5])) = H10 at s89 ⊢
    refine ⟨_, rfl, x, xdx, _, rfl, s89 _ _ g1, no3, x, d, first, rows, φ, rfl, hs8.same s89, r60, fun D2 H11 s11 n11 d11 => ?_⟩
    refine ⟨.inl ⟨rfl, _, SqL.of d11⟩, D2, _, _, rfl, rfl, d11, small _ (by rw [List.length_map]; have := pick_le first rows φ fun s => decide (s = 3); omega), ?_⟩
    have s8b := s89.trans (same_put (o := .lst ((pickL first rows φ fun s => decide (s = 3)).map V.int ++ [V.int 5])) s11 n11)
    generalize upd H11 D2 (.lst ((pickL first rows φ fun s => decide (s = 3)).map V.int ++ [V.int 5])) = H12 at s8b ⊢
    -- return
    refine ⟨_, rfl, _, rfl, _, rfl, x, d, S, first, rows, φ, rfl, hs8.same s8b, s8b _ _ hS8, r60, hfr, fun H13 s13 => ⟨true, rfl, iteT ?_⟩⟩
    have s813 := s8b.trans s13
    refine ⟨_, rfl, (by show 1 ≤ sizeLine; decide), fun q2 n2 => ⟨_, rfl, q2, (rows : Int), _, rfl, rfl, upd_same, by omega, by omega, ?_, fun S2 nS2 => ?_⟩⟩
    · rw [Int.toNat_natCast]
      exact Nat.le_of_lt (small _ (by simp; omega))
    rw [Int.toNat_natCast, states_new]
    have sT := (Same.new (o := .lst [V.str (Str.ofString "f")]) n2).trans (Same.new (o := .lst (statesM rows fun _ => 0)) nS2)
    exact ⟨_, rfl, y, e, S2, first, rows, fun _ => 0, rfl, (ht8.same s813).same sT, upd_same, r60, hfr, fun H' _ => k H'⟩
end
theorem all_mk {l : PySem.W.OpenLaw} {w : World} {K : PySem.W.Frag} {h : Heap} {mg : Str → Option Value} {fa : Addr} (X : K.In h) (G : h.Ns mainGlobals mg) (hfa : mg "law" = some (.ref fa))
    {f_law_pot : Addr} {oc_law_pot kV_law_pot dc_law_pot pm_law_pot cd_law_pot ct_law_pot : Value} {od_law_pot an_law_pot : Option Addr} {sl_law_pot : Array (Option Value)}
    {f_law_next : Addr} {oc_law_next kV_law_next dc_law_next pm_law_next cd_law_next ct_law_next : Value} {od_law_next an_law_next : Option Addr} {sl_law_next : Array (Option Value)}
    {f_law_is_int : Addr} {oc_law_is_int kV_law_is_int dc_law_is_int pm_law_is_int cd_law_is_int ct_law_is_int : Value} {od_law_is_int an_law_is_int : Option Addr} {sl_law_is_int : Array (Option Value)}
    {f_law_take : Addr} {oc_law_take kV_law_take dc_law_take pm_law_take cd_law_take ct_law_take : Value} {od_law_take an_law_take : Option Addr} {sl_law_take : Array (Option Value)}
    {f_law_claim : Addr} {oc_law_claim kV_law_claim dc_law_claim pm_law_claim cd_law_claim ct_law_claim : Value} {od_law_claim an_law_claim : Option Addr} {sl_law_claim : Array (Option Value)}
    {f_law_give : Addr} {oc_law_give kV_law_give dc_law_give pm_law_give cd_law_give ct_law_give : Value} {od_law_give an_law_give : Option Addr} {sl_law_give : Array (Option Value)}
    {f_law_looks_right : Addr} {oc_law_looks_right kV_law_looks_right dc_law_looks_right pm_law_looks_right cd_law_looks_right ct_law_looks_right : Value} {od_law_looks_right an_law_looks_right : Option Addr} {sl_law_looks_right : Array (Option Value)}
    {f_law_step : Addr} {oc_law_step kV_law_step dc_law_step pm_law_step cd_law_step ct_law_step : Value} {od_law_step an_law_step : Option Addr} {sl_law_step : Array (Option Value)}
    {f_law : Addr} {oc_law kV_law dc_law pm_law cd_law ct_law : Value} {od_law an_law : Option Addr} {sl_law : Array (Option Value)}
    {f_Space_init : Addr} {oc_Space_init kV_Space_init dc_Space_init pm_Space_init cd_Space_init ct_Space_init : Value} {od_Space_init an_Space_init : Option Addr} {sl_Space_init : Array (Option Value)}
    {f_Space_take : Addr} {oc_Space_take kV_Space_take dc_Space_take pm_Space_take cd_Space_take ct_Space_take : Value} {od_Space_take an_Space_take : Option Addr} {sl_Space_take : Array (Option Value)}
    {f_Space_claim : Addr} {oc_Space_claim kV_Space_claim dc_Space_claim pm_Space_claim cd_Space_claim ct_Space_claim : Value} {od_Space_claim an_Space_claim : Option Addr} {sl_Space_claim : Array (Option Value)}
    {f_Space_give : Addr} {oc_Space_give kV_Space_give dc_Space_give pm_Space_give cd_Space_give ct_Space_give : Value} {od_Space_give an_Space_give : Option Addr} {sl_Space_give : Array (Option Value)}
    {f_Space_settle : Addr} {oc_Space_settle kV_Space_settle dc_Space_settle pm_Space_settle cd_Space_settle ct_Space_settle : Value} {od_Space_settle an_Space_settle : Option Addr} {sl_Space_settle : Array (Option Value)}
    {f_Space_is_free : Addr} {oc_Space_is_free kV_Space_is_free dc_Space_is_free pm_Space_is_free cd_Space_is_free ct_Space_is_free : Value} {od_Space_is_free an_Space_is_free : Option Addr} {sl_Space_is_free : Array (Option Value)}
    {f_Space_free_count : Addr} {oc_Space_free_count kV_Space_free_count dc_Space_free_count pm_Space_free_count cd_Space_free_count ct_Space_free_count : Value} {od_Space_free_count an_Space_free_count : Option Addr} {sl_Space_free_count : Array (Option Value)}
    {f_Space_used_rows : Addr} {oc_Space_used_rows kV_Space_used_rows dc_Space_used_rows pm_Space_used_rows cd_Space_used_rows ct_Space_used_rows : Value} {od_Space_used_rows an_Space_used_rows : Option Addr} {sl_Space_used_rows : Array (Option Value)}
    {f_Space_waiting_rows : Addr} {oc_Space_waiting_rows kV_Space_waiting_rows dc_Space_waiting_rows pm_Space_waiting_rows cd_Space_waiting_rows ct_Space_waiting_rows : Value} {od_Space_waiting_rows an_Space_waiting_rows : Option Addr} {sl_Space_waiting_rows : Array (Option Value)}
    {c_PoolError : Addr}
    {c_InvalidArgument : Addr}
    {c_NoSpace : Addr}
    {c_Space : Addr}
    {tk_NEW : Tok}
    {tk_OLD : Tok}
    {tk_WAITING : Tok}
    (a_Space : PySem.W.nsIn K mainGlobals "Space" = some (some (.ref c_Space)))
    (a_law_pot : PySem.W.nsIn K mainGlobals "_law_pot" = some (some (.ref f_law_pot)))
    (l_law_pot : K.lookup f_law_pot = some ⟨oc_law_pot, od_law_pot, .func (PySem.W.fnOf "_law_pot" "_law_pot" (defArgs s_law_pot) (defBody s_law_pot) (defScope s_law_pot) .none kV_law_pot dc_law_pot pm_law_pot an_law_pot cd_law_pot ct_law_pot), sl_law_pot⟩)
    (q_law_pot : PySem.W.codeIn K cd_law_pot "_law_pot" = true)
    (k_law_pot : PySem.W.keepIn K (.ref f_law_pot) = true)
    (a_law_next : PySem.W.nsIn K mainGlobals "_law_next" = some (some (.ref f_law_next)))
    (l_law_next : K.lookup f_law_next = some ⟨oc_law_next, od_law_next, .func (PySem.W.fnOf "_law_next" "_law_next" (defArgs s_law_next) (defBody s_law_next) (defScope s_law_next) .none kV_law_next dc_law_next pm_law_next an_law_next cd_law_next ct_law_next), sl_law_next⟩)
    (q_law_next : PySem.W.codeIn K cd_law_next "_law_next" = true)
    (k_law_next : PySem.W.keepIn K (.ref f_law_next) = true)
    (a_law_is_int : PySem.W.nsIn K mainGlobals "_law_is_int" = some (some (.ref f_law_is_int)))
    (l_law_is_int : K.lookup f_law_is_int = some ⟨oc_law_is_int, od_law_is_int, .func (PySem.W.fnOf "_law_is_int" "_law_is_int" (defArgs s_law_is_int) (defBody s_law_is_int) (defScope s_law_is_int) .none kV_law_is_int dc_law_is_int pm_law_is_int an_law_is_int cd_law_is_int ct_law_is_int), sl_law_is_int⟩)
    (q_law_is_int : PySem.W.codeIn K cd_law_is_int "_law_is_int" = true)
    (k_law_is_int : PySem.W.keepIn K (.ref f_law_is_int) = true)
    (a_law_take : PySem.W.nsIn K mainGlobals "_law_take" = some (some (.ref f_law_take)))
    (l_law_take : K.lookup f_law_take = some ⟨oc_law_take, od_law_take, .func (PySem.W.fnOf "_law_take" "_law_take" (defArgs s_law_take) (defBody s_law_take) (defScope s_law_take) .none kV_law_take dc_law_take pm_law_take an_law_take cd_law_take ct_law_take), sl_law_take⟩)
    (q_law_take : PySem.W.codeIn K cd_law_take "_law_take" = true)
    (k_law_take : PySem.W.keepIn K (.ref f_law_take) = true)
    (a_law_claim : PySem.W.nsIn K mainGlobals "_law_claim" = some (some (.ref f_law_claim)))
    (l_law_claim : K.lookup f_law_claim = some ⟨oc_law_claim, od_law_claim, .func (PySem.W.fnOf "_law_claim" "_law_claim" (defArgs s_law_claim) (defBody s_law_claim) (defScope s_law_claim) .none kV_law_claim dc_law_claim pm_law_claim an_law_claim cd_law_claim ct_law_claim), sl_law_claim⟩)
    (q_law_claim : PySem.W.codeIn K cd_law_claim "_law_claim" = true)
    (k_law_claim : PySem.W.keepIn K (.ref f_law_claim) = true)
    (a_law_give : PySem.W.nsIn K mainGlobals "_law_give" = some (some (.ref f_law_give)))
    (l_law_give : K.lookup f_law_give = some ⟨oc_law_give, od_law_give, .func (PySem.W.fnOf "_law_give" "_law_give" (defArgs s_law_give) (defBody s_law_give) (defScope s_law_give) .none kV_law_give dc_law_give pm_law_give an_law_give cd_law_give ct_law_give), sl_law_give⟩)
    (q_law_give : PySem.W.codeIn K cd_law_give "_law_give" = true)
    (k_law_give : PySem.W.keepIn K (.ref f_law_give) = true)
    (a_law_looks_right : PySem.W.nsIn K mainGlobals "_law_looks_right" = some (some (.ref f_law_looks_right)))
    (l_law_looks_right : K.lookup f_law_looks_right = some ⟨oc_law_looks_right, od_law_looks_right, .func (PySem.W.fnOf "_law_looks_right" "_law_looks_right" (defArgs s_law_looks_right) (defBody s_law_looks_right) (defScope s_law_looks_right) .none kV_law_looks_right dc_law_looks_right pm_law_looks_right an_law_looks_right cd_law_looks_right ct_law_looks_right), sl_law_looks_right⟩)
    (q_law_looks_right : PySem.W.codeIn K cd_law_looks_right "_law_looks_right" = true)
    (k_law_looks_right : PySem.W.keepIn K (.ref f_law_looks_right) = true)
    (a_law_step : PySem.W.nsIn K mainGlobals "_law_step" = some (some (.ref f_law_step)))
    (l_law_step : K.lookup f_law_step = some ⟨oc_law_step, od_law_step, .func (PySem.W.fnOf "_law_step" "_law_step" (defArgs s_law_step) (defBody s_law_step) (defScope s_law_step) .none kV_law_step dc_law_step pm_law_step an_law_step cd_law_step ct_law_step), sl_law_step⟩)
    (q_law_step : PySem.W.codeIn K cd_law_step "_law_step" = true)
    (k_law_step : PySem.W.keepIn K (.ref f_law_step) = true)
    (a_law : PySem.W.nsIn K mainGlobals "law" = some (some (.ref f_law)))
    (l_law : K.lookup f_law = some ⟨oc_law, od_law, .func (PySem.W.fnOf "law" "law" (defArgs s_law) (defBody s_law) (defScope s_law) .none kV_law dc_law pm_law an_law cd_law ct_law), sl_law⟩)
    (q_law : PySem.W.codeIn K cd_law "law" = true)
    (k_law : PySem.W.keepIn K (.ref f_law) = true)
    (a_Space_init : PySem.W.findIn K (.ref c_Space) "__init__" = some (some (.ref f_Space_init)))
    (i_Space_init : PySem.W.isFn K (.ref f_Space_init) = true)
    (l_Space_init : K.lookup f_Space_init = some ⟨oc_Space_init, od_Space_init, .func (PySem.W.fnOf "__init__" "Space.__init__" (defArgs s_Space_init) (defBody s_Space_init) (defScope s_Space_init) .none kV_Space_init dc_Space_init pm_Space_init an_Space_init cd_Space_init ct_Space_init), sl_Space_init⟩)
    (q_Space_init : PySem.W.codeIn K cd_Space_init "Space.__init__" = true)
    (k_Space_init : PySem.W.keepIn K (.ref f_Space_init) = true)
    (a_Space_take : PySem.W.findIn K (.ref c_Space) "take" = some (some (.ref f_Space_take)))
    (i_Space_take : PySem.W.isFn K (.ref f_Space_take) = true)
    (l_Space_take : K.lookup f_Space_take = some ⟨oc_Space_take, od_Space_take, .func (PySem.W.fnOf "take" "Space.take" (defArgs s_Space_take) (defBody s_Space_take) (defScope s_Space_take) .none kV_Space_take dc_Space_take pm_Space_take an_Space_take cd_Space_take ct_Space_take), sl_Space_take⟩)
    (q_Space_take : PySem.W.codeIn K cd_Space_take "Space.take" = true)
    (k_Space_take : PySem.W.keepIn K (.ref f_Space_take) = true)
    (a_Space_claim : PySem.W.findIn K (.ref c_Space) "claim" = some (some (.ref f_Space_claim)))
    (i_Space_claim : PySem.W.isFn K (.ref f_Space_claim) = true)
    (l_Space_claim : K.lookup f_Space_claim = some ⟨oc_Space_claim, od_Space_claim, .func (PySem.W.fnOf "claim" "Space.claim" (defArgs s_Space_claim) (defBody s_Space_claim) (defScope s_Space_claim) .none kV_Space_claim dc_Space_claim pm_Space_claim an_Space_claim cd_Space_claim ct_Space_claim), sl_Space_claim⟩)
    (q_Space_claim : PySem.W.codeIn K cd_Space_claim "Space.claim" = true)
    (k_Space_claim : PySem.W.keepIn K (.ref f_Space_claim) = true)
    (a_Space_give : PySem.W.findIn K (.ref c_Space) "give" = some (some (.ref f_Space_give)))
    (i_Space_give : PySem.W.isFn K (.ref f_Space_give) = true)
    (l_Space_give : K.lookup f_Space_give = some ⟨oc_Space_give, od_Space_give, .func (PySem.W.fnOf "give" "Space.give" (defArgs s_Space_give) (defBody s_Space_give) (defScope s_Space_give) .none kV_Space_give dc_Space_give pm_Space_give an_Space_give cd_Space_give ct_Space_give), sl_Space_give⟩)
    (q_Space_give : PySem.W.codeIn K cd_Space_give "Space.give" = true)
    (k_Space_give : PySem.W.keepIn K (.ref f_Space_give) = true)
    (a_Space_settle : PySem.W.findIn K (.ref c_Space) "settle" = some (some (.ref f_Space_settle)))
    (i_Space_settle : PySem.W.isFn K (.ref f_Space_settle) = true)
    (l_Space_settle : K.lookup f_Space_settle = some ⟨oc_Space_settle, od_Space_settle, .func (PySem.W.fnOf "settle" "Space.settle" (defArgs s_Space_settle) (defBody s_Space_settle) (defScope s_Space_settle) .none kV_Space_settle dc_Space_settle pm_Space_settle an_Space_settle cd_Space_settle ct_Space_settle), sl_Space_settle⟩)
    (q_Space_settle : PySem.W.codeIn K cd_Space_settle "Space.settle" = true)
    (k_Space_settle : PySem.W.keepIn K (.ref f_Space_settle) = true)
    (a_Space_is_free : PySem.W.findIn K (.ref c_Space) "is_free" = some (some (.ref f_Space_is_free)))
    (i_Space_is_free : PySem.W.isFn K (.ref f_Space_is_free) = true)
    (l_Space_is_free : K.lookup f_Space_is_free = some ⟨oc_Space_is_free, od_Space_is_free, .func (PySem.W.fnOf "is_free" "Space.is_free" (defArgs s_Space_is_free) (defBody s_Space_is_free) (defScope s_Space_is_free) .none kV_Space_is_free dc_Space_is_free pm_Space_is_free an_Space_is_free cd_Space_is_free ct_Space_is_free), sl_Space_is_free⟩)
    (q_Space_is_free : PySem.W.codeIn K cd_Space_is_free "Space.is_free" = true)
    (k_Space_is_free : PySem.W.keepIn K (.ref f_Space_is_free) = true)
    (a_Space_free_count : PySem.W.findIn K (.ref c_Space) "free_count" = some (some (.ref f_Space_free_count)))
    (i_Space_free_count : PySem.W.isFn K (.ref f_Space_free_count) = true)
    (l_Space_free_count : K.lookup f_Space_free_count = some ⟨oc_Space_free_count, od_Space_free_count, .func (PySem.W.fnOf "free_count" "Space.free_count" (defArgs s_Space_free_count) (defBody s_Space_free_count) (defScope s_Space_free_count) .none kV_Space_free_count dc_Space_free_count pm_Space_free_count an_Space_free_count cd_Space_free_count ct_Space_free_count), sl_Space_free_count⟩)
    (q_Space_free_count : PySem.W.codeIn K cd_Space_free_count "Space.free_count" = true)
    (k_Space_free_count : PySem.W.keepIn K (.ref f_Space_free_count) = true)
    (a_Space_used_rows : PySem.W.findIn K (.ref c_Space) "used_rows" = some (some (.ref f_Space_used_rows)))
    (i_Space_used_rows : PySem.W.isFn K (.ref f_Space_used_rows) = true)
    (l_Space_used_rows : K.lookup f_Space_used_rows = some ⟨oc_Space_used_rows, od_Space_used_rows, .func (PySem.W.fnOf "used_rows" "Space.used_rows" (defArgs s_Space_used_rows) (defBody s_Space_used_rows) (defScope s_Space_used_rows) .none kV_Space_used_rows dc_Space_used_rows pm_Space_used_rows an_Space_used_rows cd_Space_used_rows ct_Space_used_rows), sl_Space_used_rows⟩)
    (q_Space_used_rows : PySem.W.codeIn K cd_Space_used_rows "Space.used_rows" = true)
    (k_Space_used_rows : PySem.W.keepIn K (.ref f_Space_used_rows) = true)
    (a_Space_waiting_rows : PySem.W.findIn K (.ref c_Space) "waiting_rows" = some (some (.ref f_Space_waiting_rows)))
    (i_Space_waiting_rows : PySem.W.isFn K (.ref f_Space_waiting_rows) = true)
    (l_Space_waiting_rows : K.lookup f_Space_waiting_rows = some ⟨oc_Space_waiting_rows, od_Space_waiting_rows, .func (PySem.W.fnOf "waiting_rows" "Space.waiting_rows" (defArgs s_Space_waiting_rows) (defBody s_Space_waiting_rows) (defScope s_Space_waiting_rows) .none kV_Space_waiting_rows dc_Space_waiting_rows pm_Space_waiting_rows an_Space_waiting_rows cd_Space_waiting_rows ct_Space_waiting_rows), sl_Space_waiting_rows⟩)
    (q_Space_waiting_rows : PySem.W.codeIn K cd_Space_waiting_rows "Space.waiting_rows" = true)
    (k_Space_waiting_rows : PySem.W.keepIn K (.ref f_Space_waiting_rows) = true)
    (a_NEW : PySem.W.nsIn K mainGlobals "NEW" = some (some (.int 1 tk_NEW)))
    (a_OLD : PySem.W.nsIn K mainGlobals "OLD" = some (some (.int 2 tk_OLD)))
    (a_WAITING : PySem.W.nsIn K mainGlobals "WAITING" = some (some (.int 3 tk_WAITING)))
    (n_list : PySem.W.nsIn K mainGlobals "list" = some none)
    (n_int : PySem.W.nsIn K mainGlobals "int" = some none)
    (n_abs : PySem.W.nsIn K mainGlobals "abs" = some none)
    (n_len : PySem.W.nsIn K mainGlobals "len" = some none)
    (n_isinstance : PySem.W.nsIn K mainGlobals "isinstance" = some none)
    (n_bool : PySem.W.nsIn K mainGlobals "bool" = some none)
    (n_range : PySem.W.nsIn K mainGlobals "range" = some none)
    (n_min : PySem.W.nsIn K mainGlobals "min" = some none)
    (n_sorted : PySem.W.nsIn K mainGlobals "sorted" = some none)
    (pg_Space : PySem.W.plainGet K c_Space Str.empty = true)
    (hd_Space : PySem.W.hasDictIn K c_Space = true)
    (po_Space : PySem.W.plainOver K c_Space = true)
    (sa_Space : PySem.W.findIn K (.ref c_Space) "__setattr__" = some (some (.builtin "object.__setattr__")))
    (mk_Space : PySem.W.makesIn K c_Space = true)
    (kc_Space : PySem.W.keepIn K (.ref c_Space) = true)
    (na_Space_first : PySem.W.findIn K (.ref c_Space) "_first" = some none)
    (na_Space_lowest : PySem.W.findIn K (.ref c_Space) "_lowest" = some none)
    (na_Space_rows : PySem.W.findIn K (.ref c_Space) "_rows" = some none)
    (na_Space_states : PySem.W.findIn K (.ref c_Space) "_states" = some none)
    (a_PoolError : PySem.W.nsIn K mainGlobals "PoolError" = some (some (.ref c_PoolError)))
    (x_PoolError : PySem.W.excIn K c_PoolError [.type "ValueError", .type "Exception", .type "BaseException", .type "object"] "ValueError.__new__" = true)
    (k_PoolError : PySem.W.keepIn K (.ref c_PoolError) = true)
    (b_PoolError : PySem.W.subIn K (.ref c_PoolError) (.type "BaseException") = some true)
    (t_PoolError : PySem.W.typeIn K (.ref c_PoolError) = some (.type "type"))
    (E1_PoolError : PySem.W.findIn K (.ref c_PoolError) "__getattribute__" = some (some (.builtin "BaseException.__getattribute__")))
    (E2_PoolError : PySem.W.findIn K (.ref c_PoolError) "__getattr__" = some none)
    (E3_PoolError : PySem.W.hasDictIn K c_PoolError = true)
    (E4_PoolError : PySem.W.findIn K (.ref c_PoolError) "__class__" = some (some (.builtin "object.__class__")))
    (s_PoolError : PySem.W.subIn K (.ref c_PoolError) (.ref c_PoolError) = some true)
    (E5_PoolError : PySem.W.mroIn K c_PoolError (.type "object") = some true)
    (a_InvalidArgument : PySem.W.nsIn K mainGlobals "InvalidArgument" = some (some (.ref c_InvalidArgument)))
    (x_InvalidArgument : PySem.W.excIn K c_InvalidArgument [.type "ValueError", .type "Exception", .type "BaseException", .type "object"] "ValueError.__new__" = true)
    (k_InvalidArgument : PySem.W.keepIn K (.ref c_InvalidArgument) = true)
    (b_InvalidArgument : PySem.W.subIn K (.ref c_InvalidArgument) (.type "BaseException") = some true)
    (t_InvalidArgument : PySem.W.typeIn K (.ref c_InvalidArgument) = some (.type "type"))
    (E1_InvalidArgument : PySem.W.findIn K (.ref c_InvalidArgument) "__getattribute__" = some (some (.builtin "BaseException.__getattribute__")))
    (E2_InvalidArgument : PySem.W.findIn K (.ref c_InvalidArgument) "__getattr__" = some none)
    (E3_InvalidArgument : PySem.W.hasDictIn K c_InvalidArgument = true)
    (E4_InvalidArgument : PySem.W.findIn K (.ref c_InvalidArgument) "__class__" = some (some (.builtin "object.__class__")))
    (s_InvalidArgument : PySem.W.subIn K (.ref c_InvalidArgument) (.ref c_InvalidArgument) = some true)
    (E5_InvalidArgument : PySem.W.mroIn K c_InvalidArgument (.type "object") = some true)
    (a_NoSpace : PySem.W.nsIn K mainGlobals "NoSpace" = some (some (.ref c_NoSpace)))
    (x_NoSpace : PySem.W.excIn K c_NoSpace [.type "ValueError", .type "Exception", .type "BaseException", .type "object"] "ValueError.__new__" = true)
    (k_NoSpace : PySem.W.keepIn K (.ref c_NoSpace) = true)
    (b_NoSpace : PySem.W.subIn K (.ref c_NoSpace) (.type "BaseException") = some true)
    (t_NoSpace : PySem.W.typeIn K (.ref c_NoSpace) = some (.type "type"))
    (E1_NoSpace : PySem.W.findIn K (.ref c_NoSpace) "__getattribute__" = some (some (.builtin "BaseException.__getattribute__")))
    (E2_NoSpace : PySem.W.findIn K (.ref c_NoSpace) "__getattr__" = some none)
    (E3_NoSpace : PySem.W.hasDictIn K c_NoSpace = true)
    (E4_NoSpace : PySem.W.findIn K (.ref c_NoSpace) "__class__" = some (some (.builtin "object.__class__")))
    (s_NoSpace : PySem.W.subIn K (.ref c_NoSpace) (.ref c_NoSpace) = some true)
    (E5_NoSpace : PySem.W.mroIn K c_NoSpace (.type "object") = some true)
    (E6 : PySem.W.specialIn K (.builtin "object.__class__") "__get__" = some (some (.builtin "getset_descriptor.__get__")))
    (E7 : PySem.W.takesIn K (.builtin "object.__class__") = some true)
    (u_InvalidArgument_PoolError : PySem.W.subIn K (.ref c_InvalidArgument) (.ref c_PoolError) = some true)
    (u_NoSpace_PoolError : PySem.W.subIn K (.ref c_NoSpace) (.ref c_PoolError) = some true) :
    ∃ fd : FuncData, (∀ (s : Shared) (v : Value), BindsTo s fd ⟨[v], []⟩ [("script", v)]) ∧ ∀ base : Heap, K.In base → base.Ns mainGlobals mg → FnOk l.prog w K mg base CX0 5 fa fd ["script"] (sp_law0 K) := by
  have e := hfa.symm.trans (PySem.W.mg_of X G a_law)
  cases e
  have F_law_pot := fun_mk (st := s_law_pot) l_law_pot q_law_pot k_law_pot
  have d_law_pot := F_law_pot.binds (ps := ["script"]) fun _ _ _ _ _ _ us hl => match us, hl with | [_], _ => rfl
  have F_law_next := fun_mk (st := s_law_next) l_law_next q_law_next k_law_next
  have d_law_next := F_law_next.binds (ps := ["pot", "limit"]) fun _ _ _ _ _ _ us hl => match us, hl with | [_, _], _ => rfl
  have F_law_is_int := fun_mk (st := s_law_is_int) l_law_is_int q_law_is_int k_law_is_int
  have d_law_is_int := F_law_is_int.binds (ps := ["value"]) fun _ _ _ _ _ _ us hl => match us, hl with | [_], _ => rfl
  have F_law_take := fun_mk (st := s_law_take) l_law_take q_law_take k_law_take
  have d_law_take := F_law_take.binds (ps := ["space"]) fun _ _ _ _ _ _ us hl => match us, hl with | [_], _ => rfl
  have F_law_claim := fun_mk (st := s_law_claim) l_law_claim q_law_claim k_law_claim
  have d_law_claim := F_law_claim.binds (ps := ["space", "row"]) fun _ _ _ _ _ _ us hl => match us, hl with | [_, _], _ => rfl
  have F_law_give := fun_mk (st := s_law_give) l_law_give q_law_give k_law_give
  have d_law_give := F_law_give.binds (ps := ["space", "row"]) fun _ _ _ _ _ _ us hl => match us, hl with | [_, _], _ => rfl
  have F_law_looks_right := fun_mk (st := s_law_looks_right) l_law_looks_right q_law_looks_right k_law_looks_right
  have d_law_looks_right := F_law_looks_right.binds (ps := ["space", "states", "first"]) fun _ _ _ _ _ _ us hl => match us, hl with | [_, _, _], _ => rfl
  have F_law_step := fun_mk (st := s_law_step) l_law_step q_law_step k_law_step
  have d_law_step := F_law_step.binds (ps := ["space", "states", "first", "kind", "row"]) fun _ _ _ _ _ _ us hl => match us, hl with | [_, _, _, _, _], _ => rfl
  have F_law := fun_mk (st := s_law) l_law q_law k_law
  have d_law := F_law.binds (ps := ["script"]) fun _ _ _ _ _ _ us hl => match us, hl with | [_], _ => rfl
  have F_Space_init := fun_mk (st := s_Space_init) l_Space_init q_Space_init k_Space_init
  have d_Space_init := F_Space_init.binds (ps := ["self", "rows", "first"]) fun _ _ _ _ _ _ us hl => match us, hl with | [_, _, _], _ => rfl
  have F_Space_take := fun_mk (st := s_Space_take) l_Space_take q_Space_take k_Space_take
  have d_Space_take := F_Space_take.binds (ps := ["self"]) fun _ _ _ _ _ _ us hl => match us, hl with | [_], _ => rfl
  have F_Space_claim := fun_mk (st := s_Space_claim) l_Space_claim q_Space_claim k_Space_claim
  have d_Space_claim := F_Space_claim.binds (ps := ["self", "row"]) fun _ _ _ _ _ _ us hl => match us, hl with | [_, _], _ => rfl
  have F_Space_give := fun_mk (st := s_Space_give) l_Space_give q_Space_give k_Space_give
  have d_Space_give := F_Space_give.binds (ps := ["self", "row"]) fun _ _ _ _ _ _ us hl => match us, hl with | [_, _], _ => rfl
  have F_Space_settle := fun_mk (st := s_Space_settle) l_Space_settle q_Space_settle k_Space_settle
  have d_Space_settle := F_Space_settle.binds (ps := ["self"]) fun _ _ _ _ _ _ us hl => match us, hl with | [_], _ => rfl
  have F_Space_is_free := fun_mk (st := s_Space_is_free) l_Space_is_free q_Space_is_free k_Space_is_free
  have d_Space_is_free := F_Space_is_free.binds (ps := ["self", "row"]) fun _ _ _ _ _ _ us hl => match us, hl with | [_, _], _ => rfl
  have F_Space_free_count := fun_mk (st := s_Space_free_count) l_Space_free_count q_Space_free_count k_Space_free_count
  have d_Space_free_count := F_Space_free_count.binds (ps := ["self"]) fun _ _ _ _ _ _ us hl => match us, hl with | [_], _ => rfl
  have F_Space_used_rows := fun_mk (st := s_Space_used_rows) l_Space_used_rows q_Space_used_rows k_Space_used_rows
  have d_Space_used_rows := F_Space_used_rows.binds (ps := ["self"]) fun _ _ _ _ _ _ us hl => match us, hl with | [_], _ => rfl
  have F_Space_waiting_rows := fun_mk (st := s_Space_waiting_rows) l_Space_waiting_rows q_Space_waiting_rows k_Space_waiting_rows
  have d_Space_waiting_rows := F_Space_waiting_rows.binds (ps := ["self"]) fun _ _ _ _ _ _ us hl => match us, hl with | [_], _ => rfl
  have T : Txt K mg ⟨f_law_pot, _, f_law_next, _, f_law_is_int, _, f_law_take, _, f_law_claim, _, f_law_give, _, f_law_looks_right, _, f_law_step, _, fa, _, f_Space_init, _, f_Space_take, _, f_Space_claim, _, f_Space_give, _, f_Space_settle, _, f_Space_is_free, _, f_Space_free_count, _, f_Space_used_rows, _, f_Space_waiting_rows, _, c_PoolError, c_InvalidArgument, c_NoSpace, c_Space⟩ := {
    F_law_pot := F_law_pot, g_law_pot := PySem.W.mg_of X G a_law_pot, d_law_pot := d_law_pot,
    F_law_next := F_law_next, g_law_next := PySem.W.mg_of X G a_law_next, d_law_next := d_law_next,
    F_law_is_int := F_law_is_int, g_law_is_int := PySem.W.mg_of X G a_law_is_int, d_law_is_int := d_law_is_int,
    F_law_take := F_law_take, g_law_take := PySem.W.mg_of X G a_law_take, d_law_take := d_law_take,
    F_law_claim := F_law_claim, g_law_claim := PySem.W.mg_of X G a_law_claim, d_law_claim := d_law_claim,
    F_law_give := F_law_give, g_law_give := PySem.W.mg_of X G a_law_give, d_law_give := d_law_give,
    F_law_looks_right := F_law_looks_right, g_law_looks_right := PySem.W.mg_of X G a_law_looks_right, d_law_looks_right := d_law_looks_right,
    F_law_step := F_law_step, g_law_step := PySem.W.mg_of X G a_law_step, d_law_step := d_law_step,
    F_law := F_law, g_law := PySem.W.mg_of X G a_law, d_law := d_law,
    F_Space_init := F_Space_init, mk_Space := ⟨mk_Space, a_Space_init, i_Space_init, kc_Space⟩, d_Space_init := d_Space_init,
    F_Space_take := F_Space_take, m_Space_take := ⟨a_Space_take, i_Space_take, k_Space_take⟩, d_Space_take := d_Space_take,
    F_Space_claim := F_Space_claim, m_Space_claim := ⟨a_Space_claim, i_Space_claim, k_Space_claim⟩, d_Space_claim := d_Space_claim,
    F_Space_give := F_Space_give, m_Space_give := ⟨a_Space_give, i_Space_give, k_Space_give⟩, d_Space_give := d_Space_give,
    F_Space_settle := F_Space_settle, m_Space_settle := ⟨a_Space_settle, i_Space_settle, k_Space_settle⟩, d_Space_settle := d_Space_settle,
    F_Space_is_free := F_Space_is_free, m_Space_is_free := ⟨a_Space_is_free, i_Space_is_free, k_Space_is_free⟩, d_Space_is_free := d_Space_is_free,
    F_Space_free_count := F_Space_free_count, m_Space_free_count := ⟨a_Space_free_count, i_Space_free_count, k_Space_free_count⟩, d_Space_free_count := d_Space_free_count,
    F_Space_used_rows := F_Space_used_rows, m_Space_used_rows := ⟨a_Space_used_rows, i_Space_used_rows, k_Space_used_rows⟩, d_Space_used_rows := d_Space_used_rows,
    F_Space_waiting_rows := F_Space_waiting_rows, m_Space_waiting_rows := ⟨a_Space_waiting_rows, i_Space_waiting_rows, k_Space_waiting_rows⟩, d_Space_waiting_rows := d_Space_waiting_rows,
    g_Space := PySem.W.mg_of X G a_Space, cl_Space := ⟨pg_Space, hd_Space, po_Space, sa_Space⟩,
    na_Space_first := na_Space_first,
    na_Space_lowest := na_Space_lowest,
    na_Space_rows := na_Space_rows,
    na_Space_states := na_Space_states,
    g_NEW := ⟨_, PySem.W.mg_of X G a_NEW, ⟨_, rfl⟩⟩,
    g_OLD := ⟨_, PySem.W.mg_of X G a_OLD, ⟨_, rfl⟩⟩,
    g_WAITING := ⟨_, PySem.W.mg_of X G a_WAITING, ⟨_, rfl⟩⟩,
    n_list := PySem.W.mg_none_of X G n_list,
    n_int := PySem.W.mg_none_of X G n_int,
    n_abs := PySem.W.mg_none_of X G n_abs,
    n_len := PySem.W.mg_none_of X G n_len,
    n_isinstance := PySem.W.mg_none_of X G n_isinstance,
    n_bool := PySem.W.mg_none_of X G n_bool,
    n_range := PySem.W.mg_none_of X G n_range,
    n_min := PySem.W.mg_none_of X G n_min,
    n_sorted := PySem.W.mg_none_of X G n_sorted,
    g_PoolError := PySem.W.mg_of X G a_PoolError, x_PoolError := x_PoolError, k_PoolError := k_PoolError, b_PoolError := b_PoolError, t_PoolError := t_PoolError, E_PoolError := ⟨E1_PoolError, E2_PoolError, b_PoolError, E3_PoolError, E4_PoolError, E6, E7, E5_PoolError⟩,
    g_InvalidArgument := PySem.W.mg_of X G a_InvalidArgument, x_InvalidArgument := x_InvalidArgument, k_InvalidArgument := k_InvalidArgument, b_InvalidArgument := b_InvalidArgument, t_InvalidArgument := t_InvalidArgument, E_InvalidArgument := ⟨E1_InvalidArgument, E2_InvalidArgument, b_InvalidArgument, E3_InvalidArgument, E4_InvalidArgument, E6, E7, E5_InvalidArgument⟩,
    g_NoSpace := PySem.W.mg_of X G a_NoSpace, x_NoSpace := x_NoSpace, k_NoSpace := k_NoSpace, b_NoSpace := b_NoSpace, t_NoSpace := t_NoSpace, E_NoSpace := ⟨E1_NoSpace, E2_NoSpace, b_NoSpace, E3_NoSpace, E4_NoSpace, E6, E7, E5_NoSpace⟩,
    u_InvalidArgument_PoolError := PySem.W.exm_ref b_PoolError E3_PoolError t_PoolError u_InvalidArgument_PoolError,
    u_NoSpace_PoolError := PySem.W.exm_ref b_PoolError E3_PoolError t_PoolError u_NoSpace_PoolError,
    i_InvalidArgument_InvalidArgument := kit_self,
    i_NoSpace_NoSpace := kit_self }
  exact ⟨PySem.W.fnOf "law" "law" (defArgs s_law) (defBody s_law) (defScope s_law) .none kV_law dc_law pm_law an_law cd_law ct_law, fun s v => .of_eq rfl, fun base _ _ => (ok_law T).imp fun vs H Q E h => h⟩
theorem walk {l : PySem.W.OpenLaw} {q : Program} {loose : List Str} {XP : (Str → Option Value) → Heap → Prop} {YP : World → Heap → Prop} {d : DefRec} {K : Params → PySem.W.Frag} (hn : l.most = some 63) (hdf : d.params.defaults = [])
    (hY : ∀ (w : World) (h : Heap), YP w h → (K w.params).In h)
    (F : ∀ (w : World) (mg : Str → Option Value) (fa : Addr) (h : Heap), (K w.params).In h → h.Ns mainGlobals mg → mg d.name = some (.ref fa) →
      ∃ fd : FuncData, (∀ (s : Shared) (u : Value), BindsTo s fd ⟨[u], []⟩ [("script", u)]) ∧ ∀ base : Heap, (K w.params).In base → base.Ns mainGlobals mg → FnOk l.prog w (K w.params) mg base CX0 5 fa fd ["script"] (sp_law0 (K w.params))) :
    PySem.W.WalkO q loose XP YP l.row.toRowW d [] (fun f vs => PySem.call f vs) :=
  L2.walk_of (n := 63) (k := 5) (x := "script") (CX := fun _ => CX0) (sp := fun w => sp_law0 (K w.params)) hn (by decide) hdf ⟨rfl, by decide, by decide⟩ hY F (fun _ _ a ns hl _ hS => ⟨a, ns, rfl, hS, hl, fun _ => rfl⟩) fun _ _ _ _ _ z => z
end PP
open PySem PySem.W PyProof.Rows
set_option maxRecDepth 100000 in
set_option maxHeartbeats 0 in
theorem PySem.Challenge.cw_paritypool_k16_space_holds : PySem.Challenge.rw_paritypool_k16_space.Holds := by
  w_on; o_law; k_head; (case hw => w_witness2)
  k_fill
  refine PP.walk (l := PySem.Challenge.rw_paritypool_k16_space) rfl rfl (fun w h Y => PySem.W.kIn_of Y) ?F
  case F =>
    intro w mg fa h KX G hmg
    refine' PP.all_mk KX G hmg ?a_Space ?a_law_pot ?l_law_pot ?q_law_pot ?k_law_pot ?a_law_next ?l_law_next ?q_law_next ?k_law_next ?a_law_is_int ?l_law_is_int ?q_law_is_int ?k_law_is_int ?a_law_take ?l_law_take ?q_law_take ?k_law_take ?a_law_claim ?l_law_claim ?q_law_claim ?k_law_claim ?a_law_give ?l_law_give ?q_law_give ?k_law_give ?a_law_looks_right ?l_law_looks_right ?q_law_looks_right ?k_law_looks_right ?a_law_step ?l_law_step ?q_law_step ?k_law_step ?a_law ?l_law ?q_law ?k_law ?a_Space_init ?i_Space_init ?l_Space_init ?q_Space_init ?k_Space_init ?a_Space_take ?i_Space_take ?l_Space_take ?q_Space_take ?k_Space_take ?a_Space_claim ?i_Space_claim ?l_Space_claim ?q_Space_claim ?k_Space_claim ?a_Space_give ?i_Space_give ?l_Space_give ?q_Space_give ?k_Space_give ?a_Space_settle ?i_Space_settle ?l_Space_settle ?q_Space_settle ?k_Space_settle ?a_Space_is_free ?i_Space_is_free ?l_Space_is_free ?q_Space_is_free ?k_Space_is_free ?a_Space_free_count ?i_Space_free_count ?l_Space_free_count ?q_Space_free_count ?k_Space_free_count ?a_Space_used_rows ?i_Space_used_rows ?l_Space_used_rows ?q_Space_used_rows ?k_Space_used_rows ?a_Space_waiting_rows ?i_Space_waiting_rows ?l_Space_waiting_rows ?q_Space_waiting_rows ?k_Space_waiting_rows ?a_NEW ?a_OLD ?a_WAITING ?n_list ?n_int ?n_abs ?n_len ?n_isinstance ?n_bool ?n_range ?n_min ?n_sorted ?pg_Space ?hd_Space ?po_Space ?sa_Space ?mk_Space ?kc_Space ?na_Space_first ?na_Space_lowest ?na_Space_rows ?na_Space_states ?a_PoolError ?x_PoolError ?k_PoolError ?b_PoolError ?t_PoolError ?E1_PoolError ?E2_PoolError ?E3_PoolError ?E4_PoolError ?s_PoolError ?E5_PoolError ?a_InvalidArgument ?x_InvalidArgument ?k_InvalidArgument ?b_InvalidArgument ?t_InvalidArgument ?E1_InvalidArgument ?E2_InvalidArgument ?E3_InvalidArgument ?E4_InvalidArgument ?s_InvalidArgument ?E5_InvalidArgument ?a_NoSpace ?x_NoSpace ?k_NoSpace ?b_NoSpace ?t_NoSpace ?E1_NoSpace ?E2_NoSpace ?E3_NoSpace ?E4_NoSpace ?s_NoSpace ?E5_NoSpace ?E6 ?E7 ?u_InvalidArgument_PoolError ?u_NoSpace_PoolError
    (case a_Space => k_is)
    (case a_law_pot => k_is)
    (case l_law_pot => k_is)
    (case q_law_pot => k_is)
    (case k_law_pot => k_is)
    (case a_law_next => k_is)
    (case l_law_next => k_is)
    (case q_law_next => k_is)
    (case k_law_next => k_is)
    (case a_law_is_int => k_is)
    (case l_law_is_int => k_is)
    (case q_law_is_int => k_is)
    (case k_law_is_int => k_is)
    (case a_law_take => k_is)
    (case l_law_take => k_is)
    (case q_law_take => k_is)
    (case k_law_take => k_is)
    (case a_law_claim => k_is)
    (case l_law_claim => k_is)
    (case q_law_claim => k_is)
    (case k_law_claim => k_is)
    (case a_law_give => k_is)
    (case l_law_give => k_is)
    (case q_law_give => k_is)
    (case k_law_give => k_is)
    (case a_law_looks_right => k_is)
    (case l_law_looks_right => k_is)
    (case q_law_looks_right => k_is)
    (case k_law_looks_right => k_is)
    (case a_law_step => k_is)
    (case l_law_step => k_is)
    (case q_law_step => k_is)
    (case k_law_step => k_is)
    (case a_law => k_is)
    (case l_law => k_is)
    (case q_law => k_is)
    (case k_law => k_is)
    (case a_Space_init => k_is)
    (case i_Space_init => k_is)
    (case l_Space_init => k_is)
    (case q_Space_init => k_is)
    (case k_Space_init => k_is)
    (case a_Space_take => k_is)
    (case i_Space_take => k_is)
    (case l_Space_take => k_is)
    (case q_Space_take => k_is)
    (case k_Space_take => k_is)
    (case a_Space_claim => k_is)
    (case i_Space_claim => k_is)
    (case l_Space_claim => k_is)
    (case q_Space_claim => k_is)
    (case k_Space_claim => k_is)
    (case a_Space_give => k_is)
    (case i_Space_give => k_is)
    (case l_Space_give => k_is)
    (case q_Space_give => k_is)
    (case k_Space_give => k_is)
    (case a_Space_settle => k_is)
    (case i_Space_settle => k_is)
    (case l_Space_settle => k_is)
    (case q_Space_settle => k_is)
    (case k_Space_settle => k_is)
    (case a_Space_is_free => k_is)
    (case i_Space_is_free => k_is)
    (case l_Space_is_free => k_is)
    (case q_Space_is_free => k_is)
    (case k_Space_is_free => k_is)
    (case a_Space_free_count => k_is)
    (case i_Space_free_count => k_is)
    (case l_Space_free_count => k_is)
    (case q_Space_free_count => k_is)
    (case k_Space_free_count => k_is)
    (case a_Space_used_rows => k_is)
    (case i_Space_used_rows => k_is)
    (case l_Space_used_rows => k_is)
    (case q_Space_used_rows => k_is)
    (case k_Space_used_rows => k_is)
    (case a_Space_waiting_rows => k_is)
    (case i_Space_waiting_rows => k_is)
    (case l_Space_waiting_rows => k_is)
    (case q_Space_waiting_rows => k_is)
    (case k_Space_waiting_rows => k_is)
    (case a_NEW => k_is)
    (case a_OLD => k_is)
    (case a_WAITING => k_is)
    (case n_list => k_is)
    (case n_int => k_is)
    (case n_abs => k_is)
    (case n_len => k_is)
    (case n_isinstance => k_is)
    (case n_bool => k_is)
    (case n_range => k_is)
    (case n_min => k_is)
    (case n_sorted => k_is)
    (case pg_Space => k_is)
    (case hd_Space => k_is)
    (case po_Space => k_is)
    (case sa_Space => k_is)
    (case mk_Space => k_is)
    (case kc_Space => k_is)
    (case na_Space_first => k_is)
    (case na_Space_lowest => k_is)
    (case na_Space_rows => k_is)
    (case na_Space_states => k_is)
    (case a_PoolError => k_is)
    (case x_PoolError => k_exc)
    (case k_PoolError => k_is)
    (case b_PoolError => k_is)
    (case t_PoolError => k_is)
    (case E1_PoolError => k_is)
    (case E2_PoolError => k_is)
    (case E3_PoolError => k_is)
    (case E4_PoolError => k_is)
    (case s_PoolError => first | rfl | k_is)
    (case E5_PoolError => k_is)
    (case a_InvalidArgument => k_is)
    (case x_InvalidArgument => k_exc)
    (case k_InvalidArgument => k_is)
    (case b_InvalidArgument => k_is)
    (case t_InvalidArgument => k_is)
    (case E1_InvalidArgument => k_is)
    (case E2_InvalidArgument => k_is)
    (case E3_InvalidArgument => k_is)
    (case E4_InvalidArgument => k_is)
    (case s_InvalidArgument => first | rfl | k_is)
    (case E5_InvalidArgument => k_is)
    (case a_NoSpace => k_is)
    (case x_NoSpace => k_exc)
    (case k_NoSpace => k_is)
    (case b_NoSpace => k_is)
    (case t_NoSpace => k_is)
    (case E1_NoSpace => k_is)
    (case E2_NoSpace => k_is)
    (case E3_NoSpace => k_is)
    (case E4_NoSpace => k_is)
    (case s_NoSpace => first | rfl | k_is)
    (case E5_NoSpace => k_is)
    (case E6 => k_is)
    (case E7 => k_is)
    (case u_InvalidArgument_PoolError => k_is)
    (case u_NoSpace_PoolError => k_is)
