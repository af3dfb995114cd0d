import PyProof.Rows.All
import Wide.All
import OpenK.AllK
import Wide.FinOn
import HandS.ForExc
import HandS.ExcIs
import HandS.IsInst
import HandS.Evl
import PySem.Challenge.RW_paritypool_k00_inverse
set_option Elab.async false
set_option linter.all false
set_option maxRecDepth 100000
namespace PP
open PySem L2
def top (i : Nat) : Stmt := (PySem.Challenge.pw_paritypool_k00_inverse).main.body.getD i (.Pass ⟨0, 0, 0, 0⟩)
abbrev s_inverse : Stmt := top 6
abbrev s_law_pot : Stmt := top 8
abbrev s_law_next : Stmt := top 9
abbrev s_law_is_int : Stmt := top 10
abbrev s_law_refused : Stmt := top 11
abbrev s_law : Stmt := top 12
/-! small rules of one's own -/
section
variable {X : Cx}
theorem pe_const {x : Str} {v : V} {pos : Pos} (h : ∃ u, X.mg x = some u ∧ RelV v u) (hg : Gl X x := by rfl) (hd : (x == ("__debug__" : Str)) = false := by decide) : PE X (.Name x pos) (tC v) := by
  obtain ⟨u, h1, h2⟩ := h
  exact pe_glob hg h1 h2 hd
/-- isinstance of a caught error, whatever class the clause has caught -/
theorem call_isE' {a : Addr} {cls : Value} {d : Option Addr} {oe : Obj} {pn : List (Addr × Obj)} (hz : Zc cls d oe) (hf : ∃ vs, oe.data = .fields vs) :
    CallR (X.suite a ((a, oe) :: pn)) (.builtin "isinstance") (fun xs H Q => ∃ D, cls = .ref D ∧ d = none ∧ ExcC X.K D ∧ rIsE X.K D a xs H Q) := by
  intro pins s σ H xs us Q I r h
  obtain ⟨D, rfl, rfl, C, h⟩ := h
  exact call_isE C hz hf pins s σ H xs us Q I r h
end
/-- all but p is as it was, what is free too -/
def Only (p : Addr) (H H' : Hp) : Prop := ∀ b, b ≠ p → H' b = H b
theorem Only.upd {p : Addr} {H : Hp} {o : HO} : Only p H (upd H p o) := fun _ h => upd_ne h
theorem Only.refl {p : Addr} {H : Hp} : Only p H H := fun _ _ => rfl
theorem Only.trans {p : Addr} {H H1 H2 : Hp} (x : Only p H H1) (y : Only p H1 H2) : Only p H H2 := fun b h => (y b h).trans (x b h)
/-! which class is asked of a caught error -/
theorem kit_self {K : PySem.W.Frag} {c : Value} : PySem.W.kitOne K c c = some true := by
  unfold PySem.W.kitOne
  rw [if_pos (by simp)]
theorem kit_type {K : PySem.W.Frag} {D : Addr} {n : String} {b : Bool} (m : PySem.W.kitMeta n = true) (h : PySem.W.subIn K (.ref D) (.type n) = some b) : PySem.W.kitOne K (.ref D) (.type n) = some b := by
  unfold PySem.W.kitOne
  rw [if_neg (by intro z; cases (beq_iff_eq.mp z))]
  show (if PySem.W.kitMeta n = true then PySem.W.subIn K (.ref D) (.type n) else none) = some b
  rw [if_pos m]
  exact h
theorem kit_cls_of {K : PySem.W.Frag} {C : Addr} {t : Value} {b : Bool} (hd : PySem.W.hasDictIn K C = true) (ht : PySem.W.typeIn K (.ref C) = some (.type "type")) (h : PySem.W.subIn K t (.ref C) = some b) : PySem.W.kitCls K t (.ref C) = some b := by
  obtain ⟨cd, hc, _⟩ := PySem.W.any_some hd
  show (if ((PySem.W.clsIn K C).isSome && PySem.W.typeIn K (.ref C) == some (.type "type")) = true then PySem.W.subIn K t (.ref C) else none) = some b
  rw [if_pos (by rw [hc, ht]; rfl)]
  exact h
theorem kit_yes {K : PySem.W.Frag} {C D : Addr} (hd : PySem.W.hasDictIn K C = true) (ht : PySem.W.typeIn K (.ref C) = some (.type "type")) (h : PySem.W.subIn K (.ref D) (.ref C) = some true) : PySem.W.kitOne K (.ref D) (.ref C) = some true := by
  unfold PySem.W.kitOne
  split
  · rfl
  · exact kit_cls_of hd ht h
theorem kit_no {K : PySem.W.Frag} {C D : Addr} (hd : PySem.W.hasDictIn K C = true) (ht : PySem.W.typeIn K (.ref C) = some (.type "type")) (h : PySem.W.subIn K (.ref D) (.ref C) = some false) (hs : PySem.W.subIn K (.ref D) (.ref D) = some true) : PySem.W.kitOne K (.ref D) (.ref C) = some false := by
  unfold PySem.W.kitOne
  split
  · rename_i z
    have e : D = C := by
      have := beq_iff_eq.mp z
      injection this
    rw [← e] at h
    rw [h] at hs
    cases hs
  · exact kit_cls_of hd ht h
/-! the prime, the inverse -/
theorem no_div (d : Nat) (h1 : 2 ≤ d) (h2 : d ≤ 255) : ¬ d ∣ 65521 := by
  intro h
  have e : 65521 % d = 0 := Nat.mod_eq_zero_of_dvd h
  have key : ∀ d : Fin 256, 2 ≤ d.val → ¬ 65521 % d.val = 0 := by decide +kernel
  exact key ⟨d, by omega⟩ h1 e
theorem prime_q (d : Nat) (h : d ∣ 65521) : d = 1 ∨ d = 65521 := by
  obtain ⟨e, he⟩ := h
  by_cases a : d ≤ 255
  · by_cases b : 2 ≤ d
    · exact absurd ⟨e, he⟩ (no_div d b a)
    · have : d ≠ 0 := by rintro rfl; omega
      omega
  · by_cases b : 2 ≤ e
    · by_cases c : e ≤ 255
      · exact absurd ⟨d, by rw [Nat.mul_comm]; exact he⟩ (no_div e b c)
      · have h1 : 256 * 256 ≤ d * e := Nat.mul_le_mul (by omega) (by omega)
        omega
    · have : e ≠ 0 := by rintro rfl; omega
      have e1 : e = 1 := by omega
      subst e1
      omega
theorem gcd_q (x : Int) (h : x % 65521 ≠ 0) : Int.gcd 65521 (x % 65521) = 1 := by
  have d1 : (Int.gcd 65521 (x % 65521) : Nat) ∣ 65521 := by
    have := Int.gcd_dvd_left (65521 : Int) (x % 65521)
    have h2 : ((Int.gcd 65521 (x % 65521) : Nat) : Int) ∣ ((65521 : Nat) : Int) := this
    exact Int.natCast_dvd_natCast.mp h2
  rcases prime_q _ d1 with e | e
  · exact e
  · exfalso
    have d2 := Int.gcd_dvd_right (65521 : Int) (x % 65521)
    rw [e] at d2
    obtain ⟨c, hc⟩ := d2
    have e2 : ((65521 : Nat) : Int) = 65521 := rfl
    rw [e2] at hc
    have p1 := Int.emod_nonneg x (show (65521 : Int) ≠ 0 by decide)
    have p2 := Int.emod_lt_of_pos x (show (0 : Int) < 65521 by decide)
    omega
theorem gcd_turn {n m : Int} (h : Int.gcd n m = 1) : Int.gcd m (n - n / m * m) = 1 := by
  rw [Int.gcd_sub_mul_right_right, Int.gcd_comm]
  exact h
/-- the inverse of a word, by what it is -/
noncomputable def invP (x : Int) : Int := open Classical in if h : ∃ b : Int, 0 ≤ b ∧ b < 65521 ∧ x * b % 65521 = 1 then h.choose else 0
theorem inv_unique {x b c : Int} (hb : 0 ≤ b ∧ b < 65521 ∧ x * b % 65521 = 1) (hc : 0 ≤ c ∧ c < 65521 ∧ x * c % 65521 = 1) : b = c := by
  have e1 : b * (x * c) % 65521 = b := by
    rw [Int.mul_emod, hc.2.2, Int.mul_one, Int.emod_emod_of_dvd _ (Int.dvd_refl _), Int.emod_eq_of_lt hb.1 hb.2.1]
  have e2 : c * (x * b) % 65521 = c := by
    rw [Int.mul_emod, hb.2.2, Int.mul_one, Int.emod_emod_of_dvd _ (Int.dvd_refl _), Int.emod_eq_of_lt hc.1 hc.2.1]
  have e3 : b * (x * c) = c * (x * b) := by grind
  rw [← e1, e3, e2]
theorem invP_eq {x b : Int} (h : 0 ≤ b ∧ b < 65521 ∧ x * b % 65521 = 1) : invP x = b := by
  have hx : ∃ b : Int, 0 ≤ b ∧ b < 65521 ∧ x * b % 65521 = 1 := ⟨b, h⟩
  unfold invP
  rw [dif_pos hx]
  exact inv_unique hx.choose_spec h
/-- one turn of Euclid's algorithm -/
theorem euclid_turn {x n m f g : Int} (h1 : (x * f - n) % 65521 = 0) (h2 : (x * g - m) % 65521 = 0) : (x * (f - n / m * g) - (n - n / m * m)) % 65521 = 0 := by
  have e : x * (f - n / m * g) - (n - n / m * m) = (x * f - n) - n / m * (x * g - m) := by grind
  rw [e, Int.sub_emod, h1, Int.mul_emod, h2, Int.mul_zero]
  rfl
theorem euclid_end {x f : Int} (h : (x * f - 1) % 65521 = 0) : 0 ≤ f % 65521 ∧ f % 65521 < 65521 ∧ x * (f % 65521) % 65521 = 1 := by
  refine ⟨Int.emod_nonneg _ (by decide), Int.emod_lt_of_pos _ (by decide), ?_⟩
  have e : x * (f % 65521) % 65521 = x * f % 65521 := by rw [Int.mul_emod, Int.emod_emod_of_dvd _ (Int.dvd_refl _), ← Int.mul_emod]
  rw [e]
  omega
/-- the inverse exists (Euclid, run in the mathematics) -/
theorem inv_ex : ∀ (k : Nat) (x n m f g : Int), m.toNat ≤ k → 0 ≤ m → 0 < n → (x * f - n) % 65521 = 0 → (x * g - m) % 65521 = 0 → Int.gcd n m = 1 → ∃ b : Int, 0 ≤ b ∧ b < 65521 ∧ x * b % 65521 = 1
  | k, x, n, m, f, g, hk, hm, hn, h1, h2, hg => by
    by_cases e : m = 0
    · subst e
      have : n = 1 := by
        rw [Int.gcd_zero_right] at hg
        omega
      subst this
      exact ⟨_, euclid_end h1⟩
    · have hm' : 0 < m := by omega
      match k, hk with
      | 0, hk => omega
      | k + 1, hk =>
        have r : n - n / m * m = n % m := by
          have := Int.mul_ediv_add_emod n m
          rw [Int.mul_comm] at this
          omega
        have r1 := Int.emod_nonneg n (show m ≠ 0 by omega)
        have r2 := Int.emod_lt_of_pos n hm'
        exact inv_ex k x m (n - n / m * m) g (f - n / m * g) (by omega) (by omega) hm' h2 (euclid_turn h1 h2) (gcd_turn hg)
theorem invP_spec {x : Int} (h : x % 65521 ≠ 0) : 0 ≤ invP x ∧ invP x < 65521 ∧ x * invP x % 65521 = 1 := by
  have p1 := Int.emod_nonneg x (show (65521 : Int) ≠ 0 by decide)
  obtain ⟨b, hb⟩ := inv_ex (x % 65521).toNat x 65521 (x % 65521) 0 1 (Nat.le_refl _) p1 (by decide) (by omega) (by omega) (gcd_q x h)
  rw [invP_eq hb]
  exact hb
/-- where things stand -/
structure Ad where
  f_inverse : Addr
  d_inverse : FuncData
  f_law_pot : Addr
  d_law_pot : FuncData
  f_law_next : Addr
  d_law_next : FuncData
  f_law_is_int : Addr
  d_law_is_int : FuncData
  f_law_refused : Addr
  d_law_refused : FuncData
  f_law : Addr
  d_law : FuncData
  c_PoolError : Addr
  c_InvalidArgument : Addr
  c_NotEnoughPieces : Addr
/-- what the top has written -/
structure Txt (K : PySem.W.Frag) (mg : Str → Option Value) (a : Ad) : Prop where
  F_inverse : Fun K "inverse" "inverse" s_inverse a.f_inverse a.d_inverse
  g_inverse : mg "inverse" = some (.ref a.f_inverse)
  d_inverse : Binds K a.d_inverse ["a"] []
  F_law_pot : Fun K "_law_pot" "_law_pot" s_law_pot a.f_law_pot a.d_law_pot
  g_law_pot : mg "_law_pot" = some (.ref a.f_law_pot)
  d_law_pot : Binds K a.d_law_pot ["script"] []
  F_law_next : Fun K "_law_next" "_law_next" s_law_next a.f_law_next a.d_law_next
  g_law_next : mg "_law_next" = some (.ref a.f_law_next)
  d_law_next : Binds K a.d_law_next ["pot", "limit"] []
  F_law_is_int : Fun K "_law_is_int" "_law_is_int" s_law_is_int a.f_law_is_int a.d_law_is_int
  g_law_is_int : mg "_law_is_int" = some (.ref a.f_law_is_int)
  d_law_is_int : Binds K a.d_law_is_int ["value"] []
  F_law_refused : Fun K "_law_refused" "_law_refused" s_law_refused a.f_law_refused a.d_law_refused
  g_law_refused : mg "_law_refused" = some (.ref a.f_law_refused)
  d_law_refused : Binds K a.d_law_refused ["a"] []
  F_law : Fun K "law" "law" s_law a.f_law a.d_law
  g_law : mg "law" = some (.ref a.f_law)
  d_law : Binds K a.d_law ["script"] []
  g_PRIME : ∃ u, mg "PRIME" = some u ∧ RelV (.int 65521) u
  n_list : mg "list" = none
  n_int : mg "int" = none
  n_abs : mg "abs" = none
  n_len : mg "len" = none
  n_isinstance : mg "isinstance" = none
  n_bool : mg "bool" = none
  n_ValueError : mg "ValueError" = none
  g_PoolError : mg "PoolError" = some (.ref a.c_PoolError)
  x_PoolError : PySem.W.excIn K a.c_PoolError [.type "ValueError", .type "Exception", .type "BaseException", .type "object"] "ValueError.__new__" = true
  k_PoolError : PySem.W.keepIn K (.ref a.c_PoolError) = true
  b_PoolError : PySem.W.subIn K (.ref a.c_PoolError) (.type "BaseException") = some true
  t_PoolError : PySem.W.typeIn K (.ref a.c_PoolError) = some (.type "type")
  E_PoolError : ExcC K a.c_PoolError
  g_InvalidArgument : mg "InvalidArgument" = some (.ref a.c_InvalidArgument)
  x_InvalidArgument : PySem.W.excIn K a.c_InvalidArgument [.type "ValueError", .type "Exception", .type "BaseException", .type "object"] "ValueError.__new__" = true
  k_InvalidArgument : PySem.W.keepIn K (.ref a.c_InvalidArgument) = true
  b_InvalidArgument : PySem.W.subIn K (.ref a.c_InvalidArgument) (.type "BaseException") = some true
  t_InvalidArgument : PySem.W.typeIn K (.ref a.c_InvalidArgument) = some (.type "type")
  E_InvalidArgument : ExcC K a.c_InvalidArgument
  g_NotEnoughPieces : mg "NotEnoughPieces" = some (.ref a.c_NotEnoughPieces)
  x_NotEnoughPieces : PySem.W.excIn K a.c_NotEnoughPieces [.type "ValueError", .type "Exception", .type "BaseException", .type "object"] "ValueError.__new__" = true
  k_NotEnoughPieces : PySem.W.keepIn K (.ref a.c_NotEnoughPieces) = true
  b_NotEnoughPieces : PySem.W.subIn K (.ref a.c_NotEnoughPieces) (.type "BaseException") = some true
  t_NotEnoughPieces : PySem.W.typeIn K (.ref a.c_NotEnoughPieces) = some (.type "type")
  E_NotEnoughPieces : ExcC K a.c_NotEnoughPieces
  u_InvalidArgument_PoolError : PySem.W.exmOne K (.ref a.c_InvalidArgument) (.ref a.c_PoolError) = some true
  i_InvalidArgument_InvalidArgument : PySem.W.kitOne K (.ref a.c_InvalidArgument) (.ref a.c_InvalidArgument) = some true
  i_InvalidArgument_ValueError : PySem.W.kitOne K (.ref a.c_InvalidArgument) (.type "ValueError") = some true
  i_InvalidArgument_NotEnoughPieces : PySem.W.kitOne K (.ref a.c_InvalidArgument) (.ref a.c_NotEnoughPieces) = some false
/-! the promises -/
/-! the draws: a list of the script, a place in it, a rest, a seed -/
/-- at p stands a pot, its script's list at l -/
def Pot (H : Hp) (p l : Addr) : Prop := ∃ (ns : List Int) (i acc seed : Int), H p = some (.lst [.ref l, .int i, .int acc, .int seed]) ∧ H l = some (.lst (ns.map V.int)) ∧ 0 ≤ i ∧ 0 ≤ acc ∧ 0 ≤ seed ∧ seed < 2147483647
theorem Pot.ne {H : Hp} {p l : Addr} (h : Pot H p l) : l ≠ p := by
  obtain ⟨ns, i, acc, seed, h1, h2, _⟩ := h
  refine ne_of h2 h1 fun e => ?_
  have e1 := HO.lst.inj e
  cases ns with
  | nil => cases e1
  | cons a r => rw [List.map_cons] at e1; injection e1 with e2 _; cases e2
theorem Pot.same {H H' : Hp} {p l : Addr} (h : Pot H p l) (s : Same H H') : Pot H' p l := by
  obtain ⟨ns, i, acc, seed, h1, h2, h3⟩ := h
  exact ⟨ns, i, acc, seed, s _ _ h1, s _ _ h2, h3⟩
theorem Pot.only {H H' : Hp} {p l q : Addr} (h : Pot H p l) (s : Only q H H') (n1 : p ≠ q) (n2 : l ≠ q) : Pot H' p l := by
  obtain ⟨ns, i, acc, seed, h1, h2, h3⟩ := h
  exact ⟨ns, i, acc, seed, by rw [s _ n1]; exact h1, by rw [s _ n2]; exact h2, h3⟩
/-- a draw's answer below the limit -/
def sp_law_next (K : PySem.W.Frag) (a : Ad) : Sp := fun vs H Q _ => ∃ (p l : Addr) (m : Int), vs = [.ref p, .int m] ∧ Pot H p l ∧ 0 < m ∧ m < 1073741824 ∧
  ∀ (v : Int) (H' : Hp), 0 ≤ v → v < m → Pot H' p l → Only p H H' → Q (.int v) H'
theorem sp_law_next_len {K : PySem.W.Frag} {a : Ad} {vs : List V} {H : Hp} {Q : VK} {E : XK} (h : sp_law_next K a vs H Q E) : vs.length = 2 := by
  obtain ⟨p, l, m, rfl, _⟩ := h
  rfl
def sp_law_pot (K : PySem.W.Frag) (a : Ad) : Sp := fun vs H Q _ => ∃ (s : Addr) (ns : List Int), vs = [.ref s] ∧ SqL K H s (ns.map V.int) ∧ ns.length ≤ 1000 ∧
  ∀ (p l : Addr) (H' : Hp), H p = none → H l = none → Same H H' → Pot H' p l → Q (.ref p) H'
theorem sp_law_pot_len {K : PySem.W.Frag} {a : Ad} {vs : List V} {H : Hp} {Q : VK} {E : XK} (h : sp_law_pot K a vs H Q E) : vs.length = 1 := by
  obtain ⟨s, ns, rfl, _⟩ := h
  rfl
/-- the law itself: True at every script -/
def sp_law0 (K : PySem.W.Frag) : Sp := fun vs H Q _ => ∃ (s : Addr) (ns : List Int), vs = [.ref s] ∧ SqL K H s (ns.map V.int) ∧ ns.length ≤ 63 ∧ ∀ H', Q (.bl true) H'
def sp_law (K : PySem.W.Frag) (a : Ad) : Sp := sp_law0 K
theorem sp_law_len {K : PySem.W.Frag} {a : Ad} {vs : List V} {H : Hp} {Q : VK} {E : XK} (h : sp_law K a vs H Q E) : vs.length = 1 := by
  obtain ⟨s, ns, rfl, _⟩ := h
  rfl
theorem int_item {ns : List Int} {i : Nat} {y : V} (h : (ns.map V.int)[i]? = some y) : ∃ z, ns[i]? = some z ∧ y = V.int z := by
  rw [List.getElem?_map] at h
  cases e : ns[i]? with
  | none => rw [e] at h; cases h
  | some z => rw [e] at h; exact ⟨z, rfl, (Option.some.inj h).symm⟩
def sp_inverse (K : PySem.W.Frag) (a : Ad) : Sp := fun vs H Q E => ∃ x : Int, vs = [.int x] ∧ (x % 65521 = 0 → ∀ H', Same H H' → E (.ref a.c_InvalidArgument) none H') ∧ (x % 65521 ≠ 0 → ∀ H', Same H H' → Q (.int (invP x)) H')
theorem sp_inverse_len {K : PySem.W.Frag} {a : Ad} {vs : List V} {H : Hp} {Q : VK} {E : XK} (h : sp_inverse K a vs H Q E) : vs.length = 1 := by
  obtain ⟨x, rfl, _⟩ := h
  rfl
/-- an int is an int -/
def sp_law_is_int (K : PySem.W.Frag) (a : Ad) : Sp := fun vs H Q _ => ∃ x : Int, vs = [.int x] ∧ Q (.bl true) H
theorem sp_law_is_int_len {K : PySem.W.Frag} {a : Ad} {vs : List V} {H : Hp} {Q : VK} {E : XK} (h : sp_law_is_int K a vs H Q E) : vs.length = 1 := by
  obtain ⟨x, rfl, _⟩ := h
  rfl
def sp_law_refused (K : PySem.W.Frag) (a : Ad) : Sp := fun vs H Q _ => ∃ x : Int, vs = [.int x] ∧ x % 65521 = 0 ∧ ∀ H', Same H H' → Q (.bl true) H'
theorem sp_law_refused_len {K : PySem.W.Frag} {a : Ad} {vs : List V} {H : Hp} {Q : VK} {E : XK} (h : sp_law_refused K a vs H Q E) : vs.length = 1 := by
  obtain ⟨x, rfl, _⟩ := h
  rfl
section
variable {P : Program} {w : World} {K : PySem.W.Frag} {mg : Str → Option Value} {base : Heap} {a : Ad}
theorem sc_inverse : FnScope ["a", "number", "next_number", "factor", "next_factor", "quotient"] ["a"] (defScope s_inverse) := ⟨rfl, rfl, rfl, by decide +kernel, rfl, by decide +kernel, by decide +kernel⟩
theorem ok_inverse (T : Txt K mg a) : FnOk P w K mg base (L2.CX P w) 1 a.f_inverse a.d_inverse ["a"] (sp_inverse K a) := by
  refine T.F_inverse.okX sc_inverse (fun vs H Q E h => ?len) (fun cdv A outer s H vs Q E hr h => ?body)
  case len =>
    exact sp_inverse_len h
  case body =>
    obtain ⟨x, rfl, kE, kQ⟩ := h
    refine ⟨_, (pss_cons (ps_par (i := 1) (j := 2) (by rfl) sc_inverse.nd rfl rfl (by decide) rfl rfl (pa_cons (pe_const T.g_PRIME) (pa_cons (pe_op op_mod (pv 0) (pe_const T.g_PRIME)) pa_nil)) (by rfl))
      (pss_cons (ps_asg (pe_tup (pa_cons pe_int (pa_cons pe_int pa_nil))) (pg_tup rfl (pgs_cons (pg_name (i := 3) sc_inverse.nd rfl (Or.inl rfl)) (pgs_cons (pg_name (i := 4) sc_inverse.nd rfl (Or.inl rfl)) pgs_nil))))
      (pss_cons (ps_if (pt_cmpR op_eq (pv 2) pe_int (nomark _))
      (pss_one (ps_raise rfl (takes_of rfl rfl rfl rfl) (pmk_own PySem.F.excBase_ValueError T.x_InvalidArgument T.g_InvalidArgument T.k_InvalidArgument (raises_own T.b_InvalidArgument T.t_InvalidArgument) (by exact rfl))))
      pss_nil)
      (pss_cons (ps_while (passes_of rfl) (pt_cmpR op_ne (pv 2) pe_int (nomark _))
      (pss_cons (ps_set (i := 5) sc_inverse.nd rfl (Or.inl rfl) (pe_op op_fdiv (pv 1) (pv 2)))
      (pss_cons (ps_par (i := 1) (j := 2) (by rfl) sc_inverse.nd rfl rfl (by decide) rfl rfl (pa_cons (pv 2) (pa_cons (pe_op op_sub (pv 1) (pe_op op_mul (pv 5) (pv 2))) pa_nil)) (by rfl))
      (pss_one (ps_par (i := 3) (j := 4) (by rfl) sc_inverse.nd rfl rfl (by decide) rfl rfl (pa_cons (pv 4) (pa_cons (pe_op op_sub (pv 3) (pe_op op_mul (pv 5) (pv 4))) pa_nil)) (by rfl))))))
      (pss_one (ps_ret (pe_op op_mod (pv 3) (pe_const T.g_PRIME)))))))), ?_⟩
    have p1 := Int.emod_nonneg x (show (65521 : Int) ≠ 0 by decide)
    have p2 := Int.emod_lt_of_pos x (show (0 : Int) < 65521 by decide)
    refine ⟨_, rfl, _, _, rfl, rfl, (by show (0 : Int) < 65521; decide), _, _, rfl, (by show 2 ≤ sizeLine; decide), fun t ht => ?_⟩
    have sm : Same H (upd H t (.tup [V.int 0, V.int 1])) := fun b o z => by rw [upd_ne (ne_of_none z ht)]; exact z
    refine ⟨t, _, rfl, SqT.of upd_same, rfl, _, _, rfl, _, _, rfl, rfl, ?_⟩
    refine ⟨_, rfl, rfl, _, rfl, ?_⟩
    refine ite2 (fun e => ?_) (fun e => ?_)
    · have e0 : x % 65521 = 0 := V.int.inj (of_decide_eq_true e)
      exact kE e0 _ sm
    · have e0 : x % 65521 ≠ 0 := fun z => e (decide_eq_true (congrArg V.int z))
      refine ⟨fun m σ H' => ∃ (n r f g : Int) (u : Option V), σ = [some (.int x), some (.int n), some (.int r), some (.int f), some (.int g), u] ∧ Same H H' ∧ m = r.toNat ∧ 0 ≤ r ∧ r < n ∧ n ≤ 65521 ∧ (x * f - n) % 65521 = 0 ∧ (x * g - r) % 65521 = 0 ∧ Int.gcd n r = 1,
        ⟨_, _, _, _, _, _, rfl, sm, rfl, p1, p2, Int.le_refl _, by omega, by omega, gcd_q x e0⟩, ?_⟩
      rintro m σ H' ⟨n, r, f, g, u, rfl, sm', rfl, r0, rn, nq, h1, h2, hg⟩
      refine ⟨_, rfl, rfl, _, rfl, ?_⟩
      refine ite2 (fun er => ?_) (fun er => ?_)
      · have r1 : r ≠ 0 := fun z => by subst z; simp at er
        have rp : 0 < r := by omega
        have d0 : 0 ≤ n / r := Int.ediv_nonneg (by omega) r0
        have d1 : n / r ≤ 65521 := by
          have := Int.ediv_le_self r (show 0 ≤ n by omega)
          omega
        have rr : n - n / r * r = n % r := by
          have := Int.mul_ediv_add_emod n r
          rw [Int.mul_comm] at this
          omega
        have q1 := Int.emod_nonneg n r1
        have q2 := Int.emod_lt_of_pos n rp
        refine ⟨fun σ' H'' => ∃ m', m' < r.toNat ∧ _, fun _ _ z => z, ?_⟩
        refine ⟨_, rfl, _, rfl, _, _, rfl, rfl, ⟨rp, by omega⟩, ?_⟩
        refine ⟨_, rfl, _, rfl, _, rfl, _, rfl, _, _, rfl, rfl, .inl ⟨by omega, by omega⟩, _, _, rfl, rfl, _, _, rfl, ?_⟩
        refine ⟨_, rfl, _, rfl, _, rfl, _, rfl, _, _, rfl, rfl, .inl ⟨by omega, by omega⟩, _, _, rfl, rfl, _, _, rfl, ?_⟩
        exact ⟨(n - n / r * r).toNat, by omega, r, n - n / r * r, g, f - n / r * g, _, rfl, sm', rfl, by omega, by omega, by omega, h2, euclid_turn h1 h2, gcd_turn hg⟩
      · have r1 : r = 0 := by
          have := Classical.not_not.mp (fun z => er (by rw [decide_eq_false z]; rfl))
          exact V.int.inj this
        subst r1
        have n1 : n = 1 := by
          rw [Int.gcd_zero_right] at hg
          omega
        subst n1
        have z := invP_eq (euclid_end h1)
        refine ⟨_, rfl, _, _, rfl, rfl, (by show (0 : Int) < 65521; decide), ?_⟩
        show Q (.int (f % 65521)) H'
        rw [← z]
        exact kQ e0 _ sm'
theorem sc_law_pot : FnScope ["script", "seed", "cell"] ["script"] (defScope s_law_pot) := ⟨rfl, rfl, rfl, by decide +kernel, rfl, by decide +kernel, by decide +kernel⟩
theorem ok_law_pot (T : Txt K mg a) : FnOk P w K mg base CX0 1 a.f_law_pot a.d_law_pot ["script"] (sp_law_pot K a) := by
  refine T.F_law_pot.ok sc_law_pot (fun vs H Q E h => ?len) (fun cdv A outer s H vs Q E hr h => ?body)
  case len =>
    exact sp_law_pot_len h
  case body =>
    obtain ⟨s, ns, rfl, hS, hlen, k⟩ := h
    refine ⟨_, (pss_cons (ps_set (i := 1) sc_law_pot.nd rfl (Or.inl rfl) pe_int)
      (pss_cons (ps_for PassesOwn.never rfl (pi_list (pv 0)) (pg_name (i := 2) sc_law_pot.nd rfl (Or.inl rfl))
      (pss_one (ps_set (i := 1) sc_law_pot.nd rfl (Or.inl rfl) (pe_op op_mod (pe_callTy call_int1 (by rfl) T.n_int (by decide +kernel) (pa_cons (pe_op op_add (pe_op op_mul (pv 1) pe_int) (pv 2)) pa_nil)) pe_int))))
      (pss_one (ps_ret (pe_lst (pa_cons (pe_callTy call_list_of (by rfl) T.n_list (by decide +kernel) (pa_cons (pv 0) pa_nil)) (pa_cons pe_int (pa_cons pe_int (pa_cons (pv 1) pa_nil))))))))), ?_⟩
    refine ⟨_, rfl, s, rfl, ⟨_, hS⟩, for_list (K := K) (a := s) (xs := ns.map V.int) (fun i σ H' => ∃ (z : Int) (v : Option V), σ = [some (.ref s), some (.int z), v] ∧ 0 ≤ z ∧ z < 2147483647 ∧ H' = H)
      ⟨1, none, rfl, by decide, by decide, rfl⟩ (fun i σ H' _ ⟨_, _, _, _, _, e⟩ => by rw [e]; exact hS) ?_ ?_⟩
    · rintro i y σ H' hi ⟨z, v, rfl, z0, z1, rfl⟩
      obtain ⟨c, hc, rfl⟩ := int_item hi
      refine ⟨_, rfl, _, _, rfl, rfl, .inl ⟨by omega, by omega⟩, _, rfl, _, _, rfl, rfl, .inl ⟨_, rfl, _, _, rfl, rfl, (by show (0 : Int) < 2147483647; decide), ?_⟩⟩
      exact ⟨_, _, rfl, Int.emod_nonneg _ (by decide), Int.emod_lt_of_pos _ (by decide), rfl⟩
    · rintro σ H' ⟨z, v, rfl, z0, z1, rfl⟩
      refine ⟨_, rfl, s, _, rfl, .inl hS, fun l hl => ?_⟩
      refine ⟨_, rfl, (by show 4 ≤ sizeLine; decide), fun p hp => ?_⟩
      have npl : l ≠ p := fun e => by subst e; rw [upd_same] at hp; cases hp
      have hp0 : H' p = none := by rw [upd_ne npl.symm] at hp; exact hp
      refine k p l _ hp0 hl (fun b o e => ?_) ⟨ns, 0, 0, z, upd_same, by rw [upd_ne npl, upd_same], by decide, by decide, z0, z1⟩
      rw [upd_ne (ne_of_none e hp0), upd_ne (ne_of_none e hl)]
      exact e
theorem sc_law_next : FnScope ["pot", "limit", "cell", "found", "mixed"] ["pot", "limit"] (defScope s_law_next) := ⟨rfl, rfl, rfl, by decide +kernel, rfl, by decide +kernel, by decide +kernel⟩
theorem ok_law_next (T : Txt K mg a) : FnOk P w K mg base CX0 1 a.f_law_next a.d_law_next ["pot", "limit"] (sp_law_next K a) := by
  refine T.F_law_next.ok sc_law_next (fun vs H Q E h => ?len) (fun cdv A outer s H vs Q E hr h => ?body)
  case len =>
    exact sp_law_next_len h
  case body =>
    obtain ⟨p, l, m, rfl, hP, m0, m1, k⟩ := h
    obtain ⟨ns, i, acc, seed, h1, h2, i0, acc0, s0, s1⟩ := id hP
    have nlp := hP.ne
    have mod0 : ∀ x : Int, 0 ≤ x % m := fun x => Int.emod_nonneg _ (by omega)
    have mod1 : ∀ x : Int, x % m < m := fun x => Int.emod_lt_of_pos _ m0
    refine ⟨_, (Evl.pss_cut (ps_if (PW.pt (pw_and (pt_cmpR op_eq (pe_ix ix_list (pv 0) pe_int (fun _ _ => rfl)) pe_int (nomark _)) (pw_and1 (pt_cmpR op_lt (pe_ix ix_list (pv 0) pe_int (fun _ _ => rfl)) (pe_callB call_len_seq (by rfl) T.n_len PySem.boot_len (pa_cons (pe_ix ix_list (pv 0) pe_int (fun _ _ => rfl)) pa_nil)) (nomark _)))))
      (pss_cons (ps_set (i := 2) sc_law_next.nd rfl (Or.inl rfl) (pe_callB call_abs (by rfl) T.n_abs (by decide +kernel) (pa_cons (pe_callTy call_int1 (by rfl) T.n_int (by decide +kernel) (pa_cons (pe_ix ix_list (pe_ix ix_list (pv 0) pe_int (fun _ _ => rfl)) (pe_ix ix_list (pv 0) pe_int (fun _ _ => rfl)) (fun _ _ => rfl)) pa_nil)) pa_nil)))
      (pss_cons (ps_asg (pe_op op_add (pe_ix ix_list (pv 0) pe_int (fun _ _ => rfl)) pe_int) (pg_sub (pv 0) pe_int set_list))
      (pss_cons (ps_if (pt_cmpR op_lt (pv 2) (pe_op op_pow pe_int pe_int) (nomark _))
      (pss_one (ps_ret (pe_op op_mod (pe_callTy call_int1 (by rfl) T.n_int (by decide +kernel) (pa_cons (pv 2) pa_nil)) (pv 1))))
      pss_nil)
      (pss_one (ps_asg (pv 2) (pg_sub (pv 0) pe_int set_list))))))
      pss_nil)
      (pss_cons (ps_if (pt_cmpR op_gt (pe_ix ix_list (pv 0) pe_int (fun _ _ => rfl)) pe_int (nomark _))
      (pss_cons (ps_set (i := 3) sc_law_next.nd rfl (Or.inl rfl) (pe_op op_mod (pe_callTy call_int1 (by rfl) T.n_int (by decide +kernel) (pa_cons (pe_ix ix_list (pv 0) pe_int (fun _ _ => rfl)) pa_nil)) (pv 1)))
      (pss_cons (ps_asg (pe_op op_fdiv (pe_ix ix_list (pv 0) pe_int (fun _ _ => rfl)) (pv 1)) (pg_sub (pv 0) pe_int set_list))
      (pss_one (ps_ret (pv 3)))))
      pss_nil)
      (pss_cons (ps_asg (pe_op op_mod (pe_callTy call_int1 (by rfl) T.n_int (by decide +kernel) (pa_cons (pe_op op_add (pe_op op_mul (pe_ix ix_list (pv 0) pe_int (fun _ _ => rfl)) pe_int) pe_int) pa_nil)) pe_int) (pg_sub (pv 0) pe_int set_list))
      (pss_cons (ps_set (i := 4) sc_law_next.nd rfl (Or.inl rfl) (pe_op op_mod (pe_callTy call_int1 (by rfl) T.n_int (by decide +kernel) (pa_cons (pe_op op_add (pe_op op_mul (pe_ix ix_list (pv 0) pe_int (fun _ _ => rfl)) pe_int) (pe_op op_fdiv (pe_ix ix_list (pv 0) pe_int (fun _ _ => rfl)) pe_int)) pa_nil)) pe_int))
      (pss_one (ps_ret (pe_op op_mod (pe_callTy call_int1 (by rfl) T.n_int (by decide +kernel) (pa_cons (pv 4) pa_nil)) (pv 1)))))))), ?_⟩
    refine ⟨fun σ H' => ∃ (u : Option V) (i' acc' : Int), σ = [some (.ref p), some (.int m), u, none, none] ∧ H' p = some (.lst [.ref l, .int i', .int acc', .int seed]) ∧ 0 ≤ i' ∧ 0 ≤ acc' ∧ Only p H H', ?_, ?_⟩
    · -- if pot[2] == 0 and pot[1] < len(pot[0])
      refine ⟨_, rfl, p, _, _, _, rfl, rfl, SqL.of h1, at_of (j := 2) rfl rfl, rfl, _, rfl, ?_⟩
      refine ite2 (fun e2 => ?_) (fun e2 => iteF ⟨none, i, acc, rfl, h1, i0, acc0, Only.refl⟩)
      refine ⟨_, rfl, p, _, _, _, rfl, rfl, SqL.of h1, at_of (j := 1) rfl rfl, _, rfl, p, _, _, _, rfl, rfl, SqL.of h1, at_of (j := 0) rfl rfl, l, _, rfl, .inl (SqL.of h2), _, _, rfl, rfl, _, rfl, ?_⟩
      refine ite2 (fun e3 => ?_) (fun e3 => ⟨none, i, acc, rfl, h1, i0, acc0, Only.refl⟩)
      have i1 : i < (ns.length : Int) := by
        have := of_decide_eq_true e3
        rw [List.length_map] at this
        exact this
      obtain ⟨j, rfl⟩ : ∃ j : Nat, i = (j : Int) := ⟨i.toNat, by omega⟩
      have hj : j < ns.length := by omega
      have hit : (ns.map V.int)[j]? = some (V.int ns[j]) := by rw [List.getElem?_map, List.getElem?_eq_getElem hj]; rfl
      -- cell = abs(int(pot[0][pot[1]])); pot[1] = pot[1] + 1
      refine ⟨_, rfl, p, _, _, _, rfl, rfl, SqL.of h1, at_of (j := 0) rfl rfl, _, rfl, p, _, _, _, rfl, rfl, SqL.of h1, at_of (j := 1) rfl rfl, l, _, _, _, rfl, rfl, SqL.of h2, at_of (j := j) rfl hit, .inl ⟨_, rfl, _, rfl, ?_⟩⟩
      have abs0 : 0 ≤ (if ns[j] < 0 then -ns[j] else ns[j]) := by split <;> omega
      generalize (if ns[j] < 0 then -ns[j] else ns[j]) = c at abs0 ⊢
      refine ⟨_, rfl, p, _, _, _, rfl, rfl, SqL.of h1, at_of (j := 1) rfl rfl, _, _, rfl, rfl, _, rfl, p, _, _, 1, rfl, rfl, h1, rfl, ?_⟩
      have g1 : upd H p (.lst (List.set [V.ref l, V.int (j : Int), V.int acc, V.int seed] 1 (V.int ((j : Int) + 1)))) p = some (.lst [.ref l, .int ((j : Int) + 1), .int acc, .int seed]) := upd_same
      -- if cell < 10 ** 18: return int(cell) % limit
      refine ⟨_, rfl, _, _, rfl, rfl, ⟨by decide, by decide, by decide⟩, _, _, rfl, rfl, _, rfl, ?_⟩
      refine ite2 (fun e4 => ?_) (fun e4 => ?_)
      · refine ⟨_, rfl, .inl ⟨_, rfl, _, rfl, _, _, rfl, rfl, m0, ?_⟩⟩
        exact k _ _ (mod0 _) (mod1 _) ⟨ns, _, _, _, g1, by rw [upd_ne nlp]; exact h2, by omega, acc0, s0, s1⟩ Only.upd
      · -- pot[2] = cell
        refine ⟨_, rfl, _, rfl, p, _, _, 2, rfl, rfl, g1, rfl, ?_⟩
        exact ⟨_, (j : Int) + 1, c, rfl, upd_same, by omega, abs0, Only.upd.trans Only.upd⟩
    · rintro σ H' ⟨u, i', acc', rfl, g1, i0', acc0', oH⟩
      have g2 : H' l = some (.lst (ns.map V.int)) := by rw [oH _ nlp]; exact h2
      -- if pot[2] > 0
      refine ⟨_, rfl, p, _, _, _, rfl, rfl, SqL.of g1, at_of (j := 2) rfl rfl, _, _, rfl, rfl, _, rfl, ?_⟩
      refine ite2 (fun e2 => ?_) (fun e2 => ?_)
      · refine ⟨_, rfl, p, _, _, _, rfl, rfl, SqL.of g1, at_of (j := 2) rfl rfl, .inl ⟨_, rfl, _, rfl, _, _, rfl, rfl, m0, ?_⟩⟩
        refine ⟨_, rfl, p, _, _, _, rfl, rfl, SqL.of g1, at_of (j := 2) rfl rfl, _, rfl, _, _, rfl, rfl, ⟨m0, m1⟩, _, rfl, p, _, _, 2, rfl, rfl, g1, rfl, ?_⟩
        refine ⟨_, rfl, ?_⟩
        exact k _ _ (mod0 _) (mod1 _) ⟨ns, i', acc' / m, seed, upd_same, by rw [upd_ne nlp]; exact g2, i0', Int.ediv_nonneg acc0' (by omega), s0, s1⟩ (oH.trans Only.upd)
      · -- pot[3] = int(pot[3] * 48271 + 12345) % 2147483647
        refine ⟨_, rfl, p, _, _, _, rfl, rfl, SqL.of g1, at_of (j := 3) rfl rfl, _, _, rfl, rfl, .inl ⟨by omega, by omega⟩, _, _, rfl, rfl, .inl ⟨_, rfl, _, _, rfl, rfl, (by show (0 : Int) < 2147483647; decide), ?_⟩⟩
        have t0 := Int.emod_nonneg (seed * 48271 + 12345) (show (2147483647 : Int) ≠ 0 by decide)
        have t1 := Int.emod_lt_of_pos (seed * 48271 + 12345) (show (0 : Int) < 2147483647 by decide)
        refine ⟨_, rfl, p, _, _, 3, rfl, rfl, g1, rfl, ?_⟩
        have g3 : upd H' p (.lst (List.set [V.ref l, V.int i', V.int acc', V.int seed] 3 (V.int ((seed * 48271 + 12345) % 2147483647)))) p = some (.lst [.ref l, .int i', .int acc', .int ((seed * 48271 + 12345) % 2147483647)]) := upd_same
        refine ⟨_, rfl, p, _, _, _, rfl, rfl, SqL.of g3, at_of (j := 3) rfl rfl, _, _, rfl, rfl, .inl ⟨by omega, by omega⟩, _, rfl, p, _, _, _, rfl, rfl, SqL.of g3, at_of (j := 3) rfl rfl, _, _, rfl, rfl, ⟨by decide, by decide⟩, _, _, rfl, rfl, .inl ⟨_, rfl, _, _, rfl, rfl, (by show (0 : Int) < 2147483629; decide), ?_⟩⟩
        refine ⟨_, rfl, .inl ⟨_, rfl, _, rfl, _, _, rfl, rfl, m0, ?_⟩⟩
        exact k _ _ (mod0 _) (mod1 _) ⟨ns, _, _, _, g3, by rw [upd_ne nlp]; exact g2, i0', acc0', t0, t1⟩ (oH.trans Only.upd)
theorem sc_law_is_int : FnScope ["value"] ["value"] (defScope s_law_is_int) := ⟨rfl, rfl, rfl, by decide +kernel, rfl, by decide +kernel, by decide +kernel⟩
theorem ok_law_is_int (T : Txt K mg a) : FnOk P w K mg base CX0 1 a.f_law_is_int a.d_law_is_int ["value"] (sp_law_is_int K a) := by
  refine T.F_law_is_int.ok sc_law_is_int (fun vs H Q E h => ?len) (fun cdv A outer s H vs Q E hr h => ?body)
  case len =>
    exact sp_law_is_int_len h
  case body =>
    obtain ⟨x, rfl, k⟩ := h
    refine ⟨_, (pss_one (ps_ret (pe_and (pe_callB call_isi (by rfl) T.n_isinstance (by decide +kernel) (pa_cons (pv 0) (pa_cons (pe_bltn (v := .ty "int") (by rfl) T.n_int (by decide +kernel) rfl) pa_nil))) (pe_one (pe_not (pe_callB call_isi (by rfl) T.n_isinstance (by decide +kernel) (pa_cons (pv 0) (pa_cons (pe_bltn (v := .ty "bool") (by rfl) T.n_bool (by decide +kernel) rfl) pa_nil)))))))), ?_⟩
    refine ⟨_, rfl, _, _, _, _, true, rfl, .ty "int", .base (.int x), kit_ty (by decide +kernel), _, rfl, ?_⟩
    refine iteT ?_
    exact ⟨_, rfl, _, _, _, _, false, rfl, .ty "bool", .base (.int x), kit_ty (by decide +kernel), _, rfl, k⟩
theorem sc_law_refused : FnScope ["a", "e"] ["a"] (defScope s_law_refused) := ⟨rfl, rfl, rfl, by decide +kernel, rfl, by decide +kernel, by decide +kernel⟩
theorem ok_law_refused (T : Txt K mg a) : FnOk P w K mg base CX0 2 a.f_law_refused a.d_law_refused ["a"] (sp_law_refused K a) := by
  refine T.F_law_refused.ok sc_law_refused (fun vs H Q E h => ?len) (fun cdv A outer s H vs Q E hr h => ?body)
  case len =>
    exact sp_law_refused_len h
  case body =>
    obtain ⟨x, rfl, hx, k⟩ := h
    refine ⟨_, (pss_cons (ps_try_as (i := 1) rfl rfl sc_law_refused.nd rfl rfl ⟨rfl, by decide, .inl T.g_PoolError⟩ takes0
      (fun W pn xe tk _ => (pss_one (ps_expr (pe_callS (ok_inverse T) (hr.mono (by decide)) rfl T.g_inverse T.F_inverse.kp T.d_inverse (fun σ => passAt tk σ) (pa_cons (pv 0) pa_nil)))))
      (fun a oe cls d pn hz hf => (pss_one (ps_ret (pe_and (pe_callB (call_isE' hz hf) (by rfl) T.n_isinstance (by decide +kernel) (pa_cons (pv 1) (pa_cons (pe_glob (v := .ref _) rfl T.g_InvalidArgument rfl) pa_nil))) (pe_and (pe_callB (call_isE' hz hf) (by rfl) T.n_isinstance (by decide +kernel) (pa_cons (pv 1) (pa_cons (pe_bltn (v := .ty "ValueError") (by rfl) T.n_ValueError (by decide +kernel) rfl) pa_nil))) (pe_one (pe_not (pe_callB (call_isE' hz hf) (by rfl) T.n_isinstance (by decide +kernel) (pa_cons (pv 1) (pa_cons (pe_glob (v := .ref _) rfl T.g_NotEnoughPieces rfl) pa_nil)))))))))))
      (pss_one (ps_ret pe_bl))), ?_⟩
    refine ⟨_, rfl, x, rfl, fun _ H1 sm => ?_, fun z => absurd hx z⟩
    refine ⟨true, T.u_InvalidArgument_PoolError, fun _ b hb => ?_, fun z => Bool.noConfusion z⟩
    refine ⟨_, rfl, _, rfl, rfl, T.E_InvalidArgument, _, _, true, rfl, fun _ z => z, T.i_InvalidArgument_InvalidArgument, _, rfl, ?_⟩
    refine iteT ?_
    refine ⟨_, rfl, _, rfl, rfl, T.E_InvalidArgument, _, _, true, rfl, fun _ z => z, T.i_InvalidArgument_ValueError, _, rfl, ?_⟩
    refine iteT ?_
    exact ⟨_, rfl, _, rfl, rfl, T.E_InvalidArgument, _, _, false, rfl, fun _ z => z, T.i_InvalidArgument_NotEnoughPieces, _, rfl, k _ sm⟩
theorem sc_law : FnScope ["script", "pot", "a", "found"] ["script"] (defScope s_law) := ⟨rfl, rfl, rfl, by decide +kernel, rfl, by decide +kernel, by decide +kernel⟩
theorem ok_law (T : Txt K mg a) : FnOk P w K mg base CX0 3 a.f_law a.d_law ["script"] (sp_law K a) := by
  refine T.F_law.ok sc_law (fun vs H Q E h => ?len) (fun cdv A outer s H vs Q E hr h => ?body)
  case len =>
    exact sp_law_len h
  case body =>
    obtain ⟨s, ns, rfl, hS, hlen, k⟩ := h
    refine ⟨_, (pss_cons (ps_set (i := 1) sc_law.nd rfl (Or.inl rfl) (pe_call (ok_law_pot T) (hr.mono (by decide)) rfl T.g_law_pot T.F_law_pot.kp T.d_law_pot .nil pass0 (pa_cons (pv 0) pa_nil)))
      (pss_cons (ps_set (i := 2) sc_law.nd rfl (Or.inl rfl) pe_int)
      (Evl.pss_cut (ps_if (pt_cmpR op_gt (pe_callB call_len_seq (by rfl) T.n_len PySem.boot_len (pa_cons (pv 0) pa_nil)) pe_int (nomark _))
      (pss_one (ps_set (i := 2) sc_law.nd rfl (Or.inl rfl) (pe_ix ix_list (pv 0) pe_int (fun _ _ => rfl))))
      pss_nil)
      (Evl.pss_cut (ps_if (pt_cmpR op_eq (pe_call (ok_law_next T) (hr.mono (by decide)) rfl T.g_law_next T.F_law_next.kp T.d_law_next .nil pass0 (pa_cons (pv 1) (pa_cons pe_int pa_nil))) pe_int (nomark _))
      (pss_one (ps_set (i := 2) sc_law.nd rfl (Or.inl rfl) (pe_op op_mul (pv 2) pe_int)))
      pss_nil)
      (pss_cons (ps_if (pt_cmpR op_eq (pe_op op_mod (pe_callTy call_int1 (by rfl) T.n_int (by decide +kernel) (pa_cons (pv 2) pa_nil)) pe_int) pe_int (nomark _))
      (pss_one (ps_ret (pe_call (ok_law_refused T) (hr.mono (by decide)) rfl T.g_law_refused T.F_law_refused.kp T.d_law_refused .nil pass0 (pa_cons (pv 2) pa_nil))))
      pss_nil)
      (pss_cons (ps_set (i := 3) sc_law.nd rfl (Or.inl rfl) (pe_call (ok_inverse T) (hr.mono (by decide)) rfl T.g_inverse T.F_inverse.kp T.d_inverse .nil passL (pa_cons (pv 2) pa_nil)))
      (pss_cons (ps_if (PW.pt (pw_or (pt_not (pt_val (pe_call (ok_law_is_int T) (hr.mono (by decide)) rfl T.g_law_is_int T.F_law_is_int.kp T.d_law_is_int .nil pass0 (pa_cons (pv 3) pa_nil)))) (pw_or1 (pt_not (pt_chain op_le op_le pe_int (pv 3) pe_int)))))
      (pss_one (ps_ret pe_bl))
      pss_nil)
      (pss_one (ps_ret (pe_and (pe_cmpR op_eq (pe_op op_mod (pe_callTy call_int1 (by rfl) T.n_int (by decide +kernel) (pa_cons (pe_op op_mul (pv 2) (pv 3)) pa_nil)) pe_int) pe_int (nomark _)) (pe_one (pe_cmpR op_eq (pe_call (ok_inverse T) (hr.mono (by decide)) rfl T.g_inverse T.F_inverse.kp T.d_inverse .nil passL (pa_cons (pv 2) pa_nil)) (pv 3) (nomark _))))))))))))), ?_⟩
    -- pot = _law_pot(script); a = 0
    refine ⟨_, rfl, s, ns, rfl, hS, by omega, fun p l H1 hp hl s1 P1 => ?_⟩
    have hS1 := s1.seq hS
    -- if len(script) > 0: a = script[0]
    refine ⟨fun σ H2 => ∃ x : Int, σ = [some (.ref s), some (.ref p), some (.int x), none] ∧ H2 = H1, ?_, ?_⟩
    · refine ⟨_, rfl, s, _, rfl, .inl hS1, _, _, rfl, rfl, _, rfl, ?_⟩
      refine ite2 (fun e => ?_) (fun e => ⟨0, rfl, rfl⟩)
      have z := of_decide_eq_true e
      rw [List.length_map] at z
      match ns, z with
      | c :: r, _ => exact ⟨_, rfl, s, _, _, _, rfl, rfl, hS1, at_of (j := 0) rfl rfl, c, rfl, rfl⟩
    · rintro σ H2 ⟨x, rfl, rfl⟩
      -- if _law_next(pot, 3) == 2: a = a * 65521
      refine ⟨fun σ H3 => ∃ x : Int, σ = [some (.ref s), some (.ref p), some (.int x), none] ∧ Same H H3, ?_, ?_⟩
      · refine ⟨_, rfl, p, l, 3, rfl, P1, by decide, by decide, fun v H3 v0 v1 P3 o3 => ?_⟩
        have s3 : Same H H3 := fun b o e => by rw [o3 b (ne_of_none e hp)]; exact s1 b o e
        refine ⟨rfl, _, rfl, ?_⟩
        refine ite2 (fun e => ?_) (fun e => ⟨x, rfl, s3⟩)
        exact ⟨_, rfl, _, _, rfl, rfl, .inr ⟨by decide, by decide⟩, _, rfl, s3⟩
      · rintro σ H3 ⟨x, rfl, s3⟩
        -- if int(a) % 65521 == 0: return _law_refused(a)
        refine ⟨_, rfl, .inl ⟨_, rfl, _, _, rfl, rfl, (by show (0 : Int) < 65521; decide), rfl, _, rfl, ?_⟩⟩
        refine ite2 (fun e => ?_) (fun e => ?_)
        · have e0 : x % 65521 = 0 := V.int.inj (of_decide_eq_true e)
          exact ⟨_, rfl, x, rfl, e0, fun H' _ => k H'⟩
        · have e0 : x % 65521 ≠ 0 := fun z => e (decide_eq_true (congrArg V.int z))
          obtain ⟨b0, b1, b2⟩ := invP_spec e0
          have b3 : 1 ≤ invP x := by
            rcases Int.lt_or_eq_of_le b0 with z | z
            · omega
            · rw [← z] at b2
              omega
          -- found = inverse(a)
          refine ⟨_, rfl, x, rfl, fun z => absurd z e0, fun _ H4 s4 => ?_⟩
          -- if not _law_is_int(found) or not 1 <= found <= 65520: return False
          refine ⟨_, rfl, invP x, rfl, true, rfl, iteF ?_⟩
          refine ⟨_, rfl, _, _, rfl, rfl, _, rfl, ?_⟩
          rw [decide_eq_true b3]
          refine iteT ⟨_, _, rfl, rfl, _, rfl, ?_⟩
          rw [decide_eq_true (show invP x ≤ 65520 by omega)]
          refine iteF ?_
          -- return int(a * found) % 65521 == 1 and inverse(a) == found
          refine ⟨_, rfl, _, rfl, _, _, rfl, rfl, .inr ⟨by omega, by omega⟩, .inl ⟨_, rfl, _, _, rfl, rfl, (by show (0 : Int) < 65521; decide), rfl, _, rfl, ?_⟩⟩
          have d1 : decide (V.int (x * invP x % 65521) = V.int 1) = true := decide_eq_true (congrArg V.int b2)
          refine ite2 (fun _ => ?_) (fun z => absurd d1 z)
          refine ⟨_, rfl, x, rfl, fun z => absurd z e0, fun _ H5 s5 => ?_⟩
          refine ⟨_, rfl, rfl, ?_⟩
          show Q (V.bl (decide (V.int (invP x) = V.int (invP x)))) H5
          rw [decide_eq_true rfl]
          exact k _
end
theorem all_mk {l : PySem.W.OpenLaw} {w : World} {K : PySem.W.Frag} {h : Heap} {mg : Str → Option Value} {fa : Addr} (X : K.In h) (G : h.Ns mainGlobals mg) (hfa : mg "law" = some (.ref fa))
    {f_inverse : Addr} {oc_inverse kV_inverse dc_inverse pm_inverse cd_inverse ct_inverse : Value} {od_inverse an_inverse : Option Addr} {sl_inverse : Array (Option Value)}
    {f_law_pot : Addr} {oc_law_pot kV_law_pot dc_law_pot pm_law_pot cd_law_pot ct_law_pot : Value} {od_law_pot an_law_pot : Option Addr} {sl_law_pot : Array (Option Value)}
    {f_law_next : Addr} {oc_law_next kV_law_next dc_law_next pm_law_next cd_law_next ct_law_next : Value} {od_law_next an_law_next : Option Addr} {sl_law_next : Array (Option Value)}
    {f_law_is_int : Addr} {oc_law_is_int kV_law_is_int dc_law_is_int pm_law_is_int cd_law_is_int ct_law_is_int : Value} {od_law_is_int an_law_is_int : Option Addr} {sl_law_is_int : Array (Option Value)}
    {f_law_refused : Addr} {oc_law_refused kV_law_refused dc_law_refused pm_law_refused cd_law_refused ct_law_refused : Value} {od_law_refused an_law_refused : Option Addr} {sl_law_refused : Array (Option Value)}
    {f_law : Addr} {oc_law kV_law dc_law pm_law cd_law ct_law : Value} {od_law an_law : Option Addr} {sl_law : Array (Option Value)}
    {c_PoolError : Addr}
    {c_InvalidArgument : Addr}
    {c_NotEnoughPieces : Addr}
    {tk_PRIME : Tok}
    (a_inverse : PySem.W.nsIn K mainGlobals "inverse" = some (some (.ref f_inverse)))
    (l_inverse : K.lookup f_inverse = some ⟨oc_inverse, od_inverse, .func (PySem.W.fnOf "inverse" "inverse" (defArgs s_inverse) (defBody s_inverse) (defScope s_inverse) .none kV_inverse dc_inverse pm_inverse an_inverse cd_inverse ct_inverse), sl_inverse⟩)
    (q_inverse : PySem.W.codeIn K cd_inverse "inverse" = true)
    (k_inverse : PySem.W.keepIn K (.ref f_inverse) = true)
    (a_law_pot : PySem.W.nsIn K mainGlobals "_law_pot" = some (some (.ref f_law_pot)))
    (l_law_pot : K.lookup f_law_pot = some ⟨oc_law_pot, od_law_pot, .func (PySem.W.fnOf "_law_pot" "_law_pot" (defArgs s_law_pot) (defBody s_law_pot) (defScope s_law_pot) .none kV_law_pot dc_law_pot pm_law_pot an_law_pot cd_law_pot ct_law_pot), sl_law_pot⟩)
    (q_law_pot : PySem.W.codeIn K cd_law_pot "_law_pot" = true)
    (k_law_pot : PySem.W.keepIn K (.ref f_law_pot) = true)
    (a_law_next : PySem.W.nsIn K mainGlobals "_law_next" = some (some (.ref f_law_next)))
    (l_law_next : K.lookup f_law_next = some ⟨oc_law_next, od_law_next, .func (PySem.W.fnOf "_law_next" "_law_next" (defArgs s_law_next) (defBody s_law_next) (defScope s_law_next) .none kV_law_next dc_law_next pm_law_next an_law_next cd_law_next ct_law_next), sl_law_next⟩)
    (q_law_next : PySem.W.codeIn K cd_law_next "_law_next" = true)
    (k_law_next : PySem.W.keepIn K (.ref f_law_next) = true)
    (a_law_is_int : PySem.W.nsIn K mainGlobals "_law_is_int" = some (some (.ref f_law_is_int)))
    (l_law_is_int : K.lookup f_law_is_int = some ⟨oc_law_is_int, od_law_is_int, .func (PySem.W.fnOf "_law_is_int" "_law_is_int" (defArgs s_law_is_int) (defBody s_law_is_int) (defScope s_law_is_int) .none kV_law_is_int dc_law_is_int pm_law_is_int an_law_is_int cd_law_is_int ct_law_is_int), sl_law_is_int⟩)
    (q_law_is_int : PySem.W.codeIn K cd_law_is_int "_law_is_int" = true)
    (k_law_is_int : PySem.W.keepIn K (.ref f_law_is_int) = true)
    (a_law_refused : PySem.W.nsIn K mainGlobals "_law_refused" = some (some (.ref f_law_refused)))
    (l_law_refused : K.lookup f_law_refused = some ⟨oc_law_refused, od_law_refused, .func (PySem.W.fnOf "_law_refused" "_law_refused" (defArgs s_law_refused) (defBody s_law_refused) (defScope s_law_refused) .none kV_law_refused dc_law_refused pm_law_refused an_law_refused cd_law_refused ct_law_refused), sl_law_refused⟩)
    (q_law_refused : PySem.W.codeIn K cd_law_refused "_law_refused" = true)
    (k_law_refused : PySem.W.keepIn K (.ref f_law_refused) = true)
    (a_law : PySem.W.nsIn K mainGlobals "law" = some (some (.ref f_law)))
    (l_law : K.lookup f_law = some ⟨oc_law, od_law, .func (PySem.W.fnOf "law" "law" (defArgs s_law) (defBody s_law) (defScope s_law) .none kV_law dc_law pm_law an_law cd_law ct_law), sl_law⟩)
    (q_law : PySem.W.codeIn K cd_law "law" = true)
    (k_law : PySem.W.keepIn K (.ref f_law) = true)
    (a_PRIME : PySem.W.nsIn K mainGlobals "PRIME" = some (some (.int 65521 tk_PRIME)))
    (n_list : PySem.W.nsIn K mainGlobals "list" = some none)
    (n_int : PySem.W.nsIn K mainGlobals "int" = some none)
    (n_abs : PySem.W.nsIn K mainGlobals "abs" = some none)
    (n_len : PySem.W.nsIn K mainGlobals "len" = some none)
    (n_isinstance : PySem.W.nsIn K mainGlobals "isinstance" = some none)
    (n_bool : PySem.W.nsIn K mainGlobals "bool" = some none)
    (n_ValueError : PySem.W.nsIn K mainGlobals "ValueError" = some none)
    (a_PoolError : PySem.W.nsIn K mainGlobals "PoolError" = some (some (.ref c_PoolError)))
    (x_PoolError : PySem.W.excIn K c_PoolError [.type "ValueError", .type "Exception", .type "BaseException", .type "object"] "ValueError.__new__" = true)
    (k_PoolError : PySem.W.keepIn K (.ref c_PoolError) = true)
    (b_PoolError : PySem.W.subIn K (.ref c_PoolError) (.type "BaseException") = some true)
    (t_PoolError : PySem.W.typeIn K (.ref c_PoolError) = some (.type "type"))
    (E1_PoolError : PySem.W.findIn K (.ref c_PoolError) "__getattribute__" = some (some (.builtin "BaseException.__getattribute__")))
    (E2_PoolError : PySem.W.findIn K (.ref c_PoolError) "__getattr__" = some none)
    (E3_PoolError : PySem.W.hasDictIn K c_PoolError = true)
    (E4_PoolError : PySem.W.findIn K (.ref c_PoolError) "__class__" = some (some (.builtin "object.__class__")))
    (s_PoolError : PySem.W.subIn K (.ref c_PoolError) (.ref c_PoolError) = some true)
    (E5_PoolError : PySem.W.mroIn K c_PoolError (.type "object") = some true)
    (a_InvalidArgument : PySem.W.nsIn K mainGlobals "InvalidArgument" = some (some (.ref c_InvalidArgument)))
    (x_InvalidArgument : PySem.W.excIn K c_InvalidArgument [.type "ValueError", .type "Exception", .type "BaseException", .type "object"] "ValueError.__new__" = true)
    (k_InvalidArgument : PySem.W.keepIn K (.ref c_InvalidArgument) = true)
    (b_InvalidArgument : PySem.W.subIn K (.ref c_InvalidArgument) (.type "BaseException") = some true)
    (t_InvalidArgument : PySem.W.typeIn K (.ref c_InvalidArgument) = some (.type "type"))
    (E1_InvalidArgument : PySem.W.findIn K (.ref c_InvalidArgument) "__getattribute__" = some (some (.builtin "BaseException.__getattribute__")))
    (E2_InvalidArgument : PySem.W.findIn K (.ref c_InvalidArgument) "__getattr__" = some none)
    (E3_InvalidArgument : PySem.W.hasDictIn K c_InvalidArgument = true)
    (E4_InvalidArgument : PySem.W.findIn K (.ref c_InvalidArgument) "__class__" = some (some (.builtin "object.__class__")))
    (s_InvalidArgument : PySem.W.subIn K (.ref c_InvalidArgument) (.ref c_InvalidArgument) = some true)
    (E5_InvalidArgument : PySem.W.mroIn K c_InvalidArgument (.type "object") = some true)
    (a_NotEnoughPieces : PySem.W.nsIn K mainGlobals "NotEnoughPieces" = some (some (.ref c_NotEnoughPieces)))
    (x_NotEnoughPieces : PySem.W.excIn K c_NotEnoughPieces [.type "ValueError", .type "Exception", .type "BaseException", .type "object"] "ValueError.__new__" = true)
    (k_NotEnoughPieces : PySem.W.keepIn K (.ref c_NotEnoughPieces) = true)
    (b_NotEnoughPieces : PySem.W.subIn K (.ref c_NotEnoughPieces) (.type "BaseException") = some true)
    (t_NotEnoughPieces : PySem.W.typeIn K (.ref c_NotEnoughPieces) = some (.type "type"))
    (E1_NotEnoughPieces : PySem.W.findIn K (.ref c_NotEnoughPieces) "__getattribute__" = some (some (.builtin "BaseException.__getattribute__")))
    (E2_NotEnoughPieces : PySem.W.findIn K (.ref c_NotEnoughPieces) "__getattr__" = some none)
    (E3_NotEnoughPieces : PySem.W.hasDictIn K c_NotEnoughPieces = true)
    (E4_NotEnoughPieces : PySem.W.findIn K (.ref c_NotEnoughPieces) "__class__" = some (some (.builtin "object.__class__")))
    (s_NotEnoughPieces : PySem.W.subIn K (.ref c_NotEnoughPieces) (.ref c_NotEnoughPieces) = some true)
    (E5_NotEnoughPieces : PySem.W.mroIn K c_NotEnoughPieces (.type "object") = some true)
    (E6 : PySem.W.specialIn K (.builtin "object.__class__") "__get__" = some (some (.builtin "getset_descriptor.__get__")))
    (E7 : PySem.W.takesIn K (.builtin "object.__class__") = some true)
    (u_InvalidArgument_PoolError : PySem.W.subIn K (.ref c_InvalidArgument) (.ref c_PoolError) = some true)
    (i_InvalidArgument_ValueError : PySem.W.subIn K (.ref c_InvalidArgument) (.type "ValueError") = some true)
    (i_InvalidArgument_NotEnoughPieces : PySem.W.subIn K (.ref c_InvalidArgument) (.ref c_NotEnoughPieces) = some false) :
    ∃ fd : FuncData, (∀ (s : Shared) (v : Value), BindsTo s fd ⟨[v], []⟩ [("script", v)]) ∧ ∀ base : Heap, K.In base → base.Ns mainGlobals mg → FnOk l.prog w K mg base CX0 3 fa fd ["script"] (sp_law0 K) := by
  have e := hfa.symm.trans (PySem.W.mg_of X G a_law)
  cases e
  have F_inverse := fun_mk (st := s_inverse) l_inverse q_inverse k_inverse
  have d_inverse := F_inverse.binds (ps := ["a"]) fun _ _ _ _ _ _ us hl => match us, hl with | [_], _ => rfl
  have F_law_pot := fun_mk (st := s_law_pot) l_law_pot q_law_pot k_law_pot
  have d_law_pot := F_law_pot.binds (ps := ["script"]) fun _ _ _ _ _ _ us hl => match us, hl with | [_], _ => rfl
  have F_law_next := fun_mk (st := s_law_next) l_law_next q_law_next k_law_next
  have d_law_next := F_law_next.binds (ps := ["pot", "limit"]) fun _ _ _ _ _ _ us hl => match us, hl with | [_, _], _ => rfl
  have F_law_is_int := fun_mk (st := s_law_is_int) l_law_is_int q_law_is_int k_law_is_int
  have d_law_is_int := F_law_is_int.binds (ps := ["value"]) fun _ _ _ _ _ _ us hl => match us, hl with | [_], _ => rfl
  have F_law_refused := fun_mk (st := s_law_refused) l_law_refused q_law_refused k_law_refused
  have d_law_refused := F_law_refused.binds (ps := ["a"]) fun _ _ _ _ _ _ us hl => match us, hl with | [_], _ => rfl
  have F_law := fun_mk (st := s_law) l_law q_law k_law
  have d_law := F_law.binds (ps := ["script"]) fun _ _ _ _ _ _ us hl => match us, hl with | [_], _ => rfl
  have T : Txt K mg ⟨f_inverse, _, f_law_pot, _, f_law_next, _, f_law_is_int, _, f_law_refused, _, fa, _, c_PoolError, c_InvalidArgument, c_NotEnoughPieces⟩ := {
    F_inverse := F_inverse, g_inverse := PySem.W.mg_of X G a_inverse, d_inverse := d_inverse,
    F_law_pot := F_law_pot, g_law_pot := PySem.W.mg_of X G a_law_pot, d_law_pot := d_law_pot,
    F_law_next := F_law_next, g_law_next := PySem.W.mg_of X G a_law_next, d_law_next := d_law_next,
    F_law_is_int := F_law_is_int, g_law_is_int := PySem.W.mg_of X G a_law_is_int, d_law_is_int := d_law_is_int,
    F_law_refused := F_law_refused, g_law_refused := PySem.W.mg_of X G a_law_refused, d_law_refused := d_law_refused,
    F_law := F_law, g_law := PySem.W.mg_of X G a_law, d_law := d_law,
    g_PRIME := ⟨_, PySem.W.mg_of X G a_PRIME, ⟨_, rfl⟩⟩,
    n_list := PySem.W.mg_none_of X G n_list,
    n_int := PySem.W.mg_none_of X G n_int,
    n_abs := PySem.W.mg_none_of X G n_abs,
    n_len := PySem.W.mg_none_of X G n_len,
    n_isinstance := PySem.W.mg_none_of X G n_isinstance,
    n_bool := PySem.W.mg_none_of X G n_bool,
    n_ValueError := PySem.W.mg_none_of X G n_ValueError,
    g_PoolError := PySem.W.mg_of X G a_PoolError, x_PoolError := x_PoolError, k_PoolError := k_PoolError, b_PoolError := b_PoolError, t_PoolError := t_PoolError, E_PoolError := ⟨E1_PoolError, E2_PoolError, b_PoolError, E3_PoolError, E4_PoolError, E6, E7, E5_PoolError⟩,
    g_InvalidArgument := PySem.W.mg_of X G a_InvalidArgument, x_InvalidArgument := x_InvalidArgument, k_InvalidArgument := k_InvalidArgument, b_InvalidArgument := b_InvalidArgument, t_InvalidArgument := t_InvalidArgument, E_InvalidArgument := ⟨E1_InvalidArgument, E2_InvalidArgument, b_InvalidArgument, E3_InvalidArgument, E4_InvalidArgument, E6, E7, E5_InvalidArgument⟩,
    g_NotEnoughPieces := PySem.W.mg_of X G a_NotEnoughPieces, x_NotEnoughPieces := x_NotEnoughPieces, k_NotEnoughPieces := k_NotEnoughPieces, b_NotEnoughPieces := b_NotEnoughPieces, t_NotEnoughPieces := t_NotEnoughPieces, E_NotEnoughPieces := ⟨E1_NotEnoughPieces, E2_NotEnoughPieces, b_NotEnoughPieces, E3_NotEnoughPieces, E4_NotEnoughPieces, E6, E7, E5_NotEnoughPieces⟩,
    u_InvalidArgument_PoolError := PySem.W.exm_ref b_PoolError E3_PoolError t_PoolError u_InvalidArgument_PoolError,
    i_InvalidArgument_InvalidArgument := kit_self,
    i_InvalidArgument_ValueError := kit_type (by decide +kernel) i_InvalidArgument_ValueError,
    i_InvalidArgument_NotEnoughPieces := kit_no E3_NotEnoughPieces t_NotEnoughPieces i_InvalidArgument_NotEnoughPieces s_InvalidArgument }
  exact ⟨PySem.W.fnOf "law" "law" (defArgs s_law) (defBody s_law) (defScope s_law) .none kV_law dc_law pm_law an_law cd_law ct_law, fun s v => .of_eq rfl, fun base _ _ => (ok_law T).imp fun vs H Q E h => h⟩
theorem walk {l : PySem.W.OpenLaw} {q : Program} {loose : List Str} {XP : (Str → Option Value) → Heap → Prop} {YP : World → Heap → Prop} {d : DefRec} {K : Params → PySem.W.Frag} (hn : l.most = some 63) (hdf : d.params.defaults = [])
    (hY : ∀ (w : World) (h : Heap), YP w h → (K w.params).In h)
    (F : ∀ (w : World) (mg : Str → Option Value) (fa : Addr) (h : Heap), (K w.params).In h → h.Ns mainGlobals mg → mg d.name = some (.ref fa) →
      ∃ fd : FuncData, (∀ (s : Shared) (u : Value), BindsTo s fd ⟨[u], []⟩ [("script", u)]) ∧ ∀ base : Heap, (K w.params).In base → base.Ns mainGlobals mg → FnOk l.prog w (K w.params) mg base CX0 3 fa fd ["script"] (sp_law0 (K w.params))) :
    PySem.W.WalkO q loose XP YP l.row.toRowW d [] (fun f vs => PySem.call f vs) :=
  L2.walk_of (n := 63) (k := 3) (x := "script") (CX := fun _ => CX0) (sp := fun w => sp_law0 (K w.params)) hn (by decide) hdf ⟨rfl, by decide, by decide⟩ hY F (fun _ _ a ns hl _ hS => ⟨a, ns, rfl, hS, hl, fun _ => rfl⟩) fun _ _ _ _ _ z => z
end PP
open PySem PySem.W PyProof.Rows
set_option maxRecDepth 100000 in
set_option maxHeartbeats 0 in
theorem PySem.Challenge.cw_paritypool_k00_inverse_holds : PySem.Challenge.rw_paritypool_k00_inverse.Holds := by
  w_on; o_law; k_head; (case hw => w_witness2)
  k_fill
  refine PP.walk (l := PySem.Challenge.rw_paritypool_k00_inverse) rfl rfl (fun w h Y => PySem.W.kIn_of Y) ?F
  case F =>
    intro w mg fa h KX G hmg
    refine' PP.all_mk KX G hmg ?a_inverse ?l_inverse ?q_inverse ?k_inverse ?a_law_pot ?l_law_pot ?q_law_pot ?k_law_pot ?a_law_next ?l_law_next ?q_law_next ?k_law_next ?a_law_is_int ?l_law_is_int ?q_law_is_int ?k_law_is_int ?a_law_refused ?l_law_refused ?q_law_refused ?k_law_refused ?a_law ?l_law ?q_law ?k_law ?a_PRIME ?n_list ?n_int ?n_abs ?n_len ?n_isinstance ?n_bool ?n_ValueError ?a_PoolError ?x_PoolError ?k_PoolError ?b_PoolError ?t_PoolError ?E1_PoolError ?E2_PoolError ?E3_PoolError ?E4_PoolError ?s_PoolError ?E5_PoolError ?a_InvalidArgument ?x_InvalidArgument ?k_InvalidArgument ?b_InvalidArgument ?t_InvalidArgument ?E1_InvalidArgument ?E2_InvalidArgument ?E3_InvalidArgument ?E4_InvalidArgument ?s_InvalidArgument ?E5_InvalidArgument ?a_NotEnoughPieces ?x_NotEnoughPieces ?k_NotEnoughPieces ?b_NotEnoughPieces ?t_NotEnoughPieces ?E1_NotEnoughPieces ?E2_NotEnoughPieces ?E3_NotEnoughPieces ?E4_NotEnoughPieces ?s_NotEnoughPieces ?E5_NotEnoughPieces ?E6 ?E7 ?u_InvalidArgument_PoolError ?i_InvalidArgument_ValueError ?i_InvalidArgument_NotEnoughPieces
    (case a_inverse => k_is)
    (case l_inverse => k_is)
    (case q_inverse => k_is)
    (case k_inverse => k_is)
    (case a_law_pot => k_is)
    (case l_law_pot => k_is)
    (case q_law_pot => k_is)
    (case k_law_pot => k_is)
    (case a_law_next => k_is)
    (case l_law_next => k_is)
    (case q_law_next => k_is)
    (case k_law_next => k_is)
    (case a_law_is_int => k_is)
    (case l_law_is_int => k_is)
    (case q_law_is_int => k_is)
    (case k_law_is_int => k_is)
    (case a_law_refused => k_is)
    (case l_law_refused => k_is)
    (case q_law_refused => k_is)
    (case k_law_refused => k_is)
    (case a_law => k_is)
    (case l_law => k_is)
    (case q_law => k_is)
    (case k_law => k_is)
    (case a_PRIME => k_is)
    (case n_list => k_is)
    (case n_int => k_is)
    (case n_abs => k_is)
    (case n_len => k_is)
    (case n_isinstance => k_is)
    (case n_bool => k_is)
    (case n_ValueError => k_is)
    (case a_PoolError => k_is)
    (case x_PoolError => k_exc)
    (case k_PoolError => k_is)
    (case b_PoolError => k_is)
    (case t_PoolError => k_is)
    (case E1_PoolError => k_is)
    (case E2_PoolError => k_is)
    (case E3_PoolError => k_is)
    (case E4_PoolError => k_is)
    (case s_PoolError => first | rfl | k_is)
    (case E5_PoolError => k_is)
    (case a_InvalidArgument => k_is)
    (case x_InvalidArgument => k_exc)
    (case k_InvalidArgument => k_is)
    (case b_InvalidArgument => k_is)
    (case t_InvalidArgument => k_is)
    (case E1_InvalidArgument => k_is)
    (case E2_InvalidArgument => k_is)
    (case E3_InvalidArgument => k_is)
    (case E4_InvalidArgument => k_is)
    (case s_InvalidArgument => first | rfl | k_is)
    (case E5_InvalidArgument => k_is)
    (case a_NotEnoughPieces => k_is)
    (case x_NotEnoughPieces => k_exc)
    (case k_NotEnoughPieces => k_is)
    (case b_NotEnoughPieces => k_is)
    (case t_NotEnoughPieces => k_is)
    (case E1_NotEnoughPieces => k_is)
    (case E2_NotEnoughPieces => k_is)
    (case E3_NotEnoughPieces => k_is)
    (case E4_NotEnoughPieces => k_is)
    (case s_NotEnoughPieces => first | rfl | k_is)
    (case E5_NotEnoughPieces => k_is)
    (case E6 => k_is)
    (case E7 => k_is)
    (case u_InvalidArgument_PoolError => k_is)
    (case i_InvalidArgument_ValueError => k_is)
    (case i_InvalidArgument_NotEnoughPieces => k_is)
