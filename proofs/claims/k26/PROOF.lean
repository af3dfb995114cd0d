import PyProof.Rows.All
import Wide.All
import OpenK.AllK
import Wide.FinOn
import HandS.ForMost
import HandS.ForExc
import HandS.ExcIs
import HandS.IsInst
import HandS.Evl
import HandS.Walk
import HandS.More
import HandS.Wide
import HandS.TupLen
import HandS.Star
import HandS.Text
import HandS.Iter
import HandS.Rev
import HandS.Conv
import HandS.TryOnly
import HandS.Style
import HandS.Zip
import KE.GoesEnumKw
import HandS.MakeKwOnly
import HandS.Defaults
import HandS.DictComp
import HandS.SortRule
import KE.SortData
import KE.KeyNested
import KE.KDictKeyed
import HandS.DictTup
import HandS.CallSlots
import PySem.Challenge.RW_paritypool_k26_put_and_get
set_option Elab.async false
set_option linter.all false
set_option maxRecDepth 100000
set_option maxHeartbeats 2000000
/-! a method of one's own, called in a try -/
namespace L2
open PySem PySem.Spec PyProof.Rows
section
variable {X : Cx} {CX : CXT} {k : Nat} {f C : Addr} {fd : FuncData} {ps : List Str} {sp : Sp}
variable {E : St → XK} {m : Str} {pos apos : Pos} {e o : Expr} {es : List Expr} {ta : TE} {t : TA}
def tMethT (C : Addr) (m : Str) (sp : Sp) (E : St → XK) (ta : TE) (t : TA) : TE := fun σ H Q =>
  ta σ H fun x H1 => ∃ a dx fs, x = .ref a ∧ H1 a = some (.ins C dx fs) ∧ fs.lookup m = none ∧
    t σ H1 fun vs H2 => sp (x :: vs) H2 Q (E σ)
theorem pe_methT {pl : Sem Bool} (he : PE X o ta) (c : Cls X.K C) (hm : Meth X.K C m f)
    (F : FnOk X.prog X.w X.K X.mg X.base CX k f fd ps sp) (hr : Room k X.A) (hb : Binds X.K fd ps [])
    (hx : ∀ σ, PassesAt CX X σ (E σ)) (ha : PA X (e :: es) t)
    (hst : starEach (e :: es) X.env = (false, eval e X.env) :: starEach es X.env := by rfl)
    (hpl : (backTo pos (starEach es X.env)).any (·.1) = false := by rfl)
    (ht : eval (.Call (.Attribute o m apos) (e :: es) [] pos) X.env = (do
        let ov ← eval o X.env
        standAt apos.atName
        let (g, first) ← holding [ov] (getMethod ov m pl)
        callWith pos g first (backTo pos (starEach (e :: es) X.env)) (backToKw pos (keywordEach [] X.env))) := by rfl) :
    PE X (.Call (.Attribute o m apos) (e :: es) [] pos) (tMethT C m sp E ta t) := by
  refine ⟨fun pins s σ H Q I h => PySem.W.methodCall_KW (pl := pl) (thn (he.run pins s σ H _ I h) ?_) ht⟩
  rintro u s1 ⟨x, H1, I1, rx, a, dx, fs, rfl, ea, l, q⟩
  cases (show u = Value.ref a from rx)
  refine getmeth_ok I1 ea c hm l (PySem.W.callWith_K (first := [.ref a]) (h₀ := X.base) I.ok.mod.kin hm.kp ?_ hst hpl)
  refine thn (ha.run pos pins s1 σ H1 _ I1 q) fun us s2 ⟨vs, H2, I2, r, q2⟩ => ⟨I2.kIn, ?_⟩
  exact run_fnS (us := .ref a :: us) (vs := .ref a :: vs) F hr hb (hx σ) I2 (.cons rfl r) q2
theorem pe_methT0 {pl : Sem Bool} (he : PE X o ta) (c : Cls X.K C) (hm : Meth X.K C m f)
    (F : FnOk X.prog X.w X.K X.mg X.base CX k f fd ps sp) (hr : Room k X.A) (hb : Binds X.K fd ps [])
    (hx : ∀ σ, PassesAt CX X σ (E σ))
    (ht : eval (.Call (.Attribute o m apos) [] [] pos) X.env = (do
        let ov ← eval o X.env
        standAt apos.atName
        let (g, first) ← holding [ov] (getMethod ov m pl)
        callWith pos g first (backTo pos (starEach [] X.env)) (backToKw pos (keywordEach [] X.env))) := by rfl) :
    PE X (.Call (.Attribute o m apos) [] [] pos) (tMethT C m sp E ta tNil) := by
  refine ⟨fun pins s σ H Q I h => PySem.W.methodCall_KW (pl := pl) (thn (he.run pins s σ H _ I h) ?_) ht⟩
  rintro u s1 ⟨x, H1, I1, rx, a, dx, fs, rfl, ea, l, q⟩
  cases (show u = Value.ref a from rx)
  refine getmeth_ok I1 ea c hm l (PySem.W.callWith_K0 (first := [.ref a]) I1.kIn hm.kp ?_)
  exact run_fnS (us := [.ref a]) (vs := [.ref a]) F hr hb (hx σ) I1 (.cons rfl .nil) q
end
end L2
/-! sorted(xs) of items that read as data of one shape -/
namespace L2
open PySem PySem.Spec PyProof.Rows
theorem each_of {R : Value → V → Prop} : ∀ {xs : List V} {us : List Value}, Paired RelV xs us → (∀ x ∈ xs, ∀ u, RelV x u → R u x) → PySem.W.EachIs R us xs
  | [], _, .nil, _ => .nil
  | x :: xs, _, .cons r rr, h => .cons (h x (by simp) _ r) (each_of rr fun y m => h y (by simp [m]))
theorem vals_of_each : ∀ {us : List Value} {xs : List V}, PySem.W.EachIs (fun u x => RelV x u) us xs → Paired RelV xs us
  | _, _, .nil => .nil
  | _, _, .cons r rr => .cons r (vals_of_each rr)
def rSortedD (K : PySem.W.Frag) : List V → Hp → VK → Prop := fun vs H Q => ∃ (a : Addr) (xs : List V) (k : V → PyData), vs = [V.ref a] ∧ SqL K H a xs ∧ (∀ x ∈ xs, Dp K H x (k x)) ∧ PySem.W.AllAlike (xs.map k) ∧ PySem.W.Sortable (xs.map k) ∧ (∀ x ∈ xs, (k x).depth ≤ 40) ∧
  ∀ p, H p = none → Q (.ref p) (upd H p (.lst (xs.mergeSort (PySem.W.dataLe false k))))
section
variable {X : Cx}
theorem cr_sortedD (hu : X.A.units + 64 < cLine) : CallR X (.builtin "sorted") (rSortedD X.K) := by
  intro pins s σ H vs us Q I r h
  obtain ⟨a, xs, k, rfl, hs, hx, hal, hk, hd, q⟩ := h
  obtain ⟨its, rv, hl, hz⟩ := I.list hs
  obtain ⟨u, rfl, ru⟩ := vals1 r
  obtain rfl : u = Value.ref a := ru
  refine PySem.W.sorted_data (R := fun u x => RelV x u) (enc := k) hl.isList (each_of rv fun _ _ _ r => r) (each_of rv fun x m u r => Dp.reads I _ x u (hx x m) r) hal hk hz (fun b hb => ?_) fun out hlen eo => ?_
  · have := hd b hb
    omega
  · obtain ⟨n, hn⟩ := sortedAll_at s.heap its out.toArray
    refine ⟨.ref (s.heap.objs.size + 1), _, I.laid (a := s.heap.objs.size + 1) (o := .lst (xs.mergeSort (PySem.W.dataLe false k))) (t' := s.toks) (fun b o e => sortedAll_old e) (Nat.le_succ _) ⟨?_, out, n, vals_of_each eo, hn⟩, rfl, q _ (I.hok.fresh (Nat.le_succ _))⟩
    rw [List.length_mergeSort]
    exact hz
end
end L2
/-! name = {k: v for ..} on one line, the name a local -/
namespace L2
open PySem PySem.Spec PyProof.Rows
section
variable {X : Cx}
theorem sw_dict {kx vx : Expr} {gs : List Comprehension} {scope : Scope} {pos py : Pos} {y : Str} {l : Nat} {env : Env} (hk : env.scope.kind = .function) (hy : env.scope.names.lookup y = some .local) (hl : (py.line == pos.line) = true)
    (ha : (scope.names.any fun (n, k) => n == y && (k == .local || k == .cell)) = false) : swapsWith (.DictComp kx vx gs scope pos) (some (.Name y py)) l env = pure true := by
  have e1 : env.kindOf y = some .local := hy
  have e2 : env.blockKind = .function := by
    unfold Env.blockKind
    rw [hk]
    rfl
  unfold swapsWith
  simp only [e2, e1, ha, Expr.pos, hl]
  rfl
theorem ps_setDc {i : Nat} {y : Str} {py : Pos} {kx vx tg iter : Expr} {ifs : List Expr} {scope : Scope} {own : List (Str × Nat)} {pos spos : Pos} {wi : TI} {g : TG} {tt : TT} {tk tv : TE} (hc : X.calm = true) (hN : X.N.Nodup) (hy : X.N[i]? = some y) (hyl : X.env.scope.names.lookup y = some .local)
    (hsw : swapsWith (.DictComp kx vx [⟨tg, iter, ifs, 0⟩] scope pos) (some (.Name y py)) spos.line X.env = pure true) (hi : PI X tg iter wi) (ok : BlkOk X.N X.env.scope scope own)
    (hg : ∀ (s : Shared) (H : Hp) (C : Addr) (cl : List (Str × Addr)) (fp : List Addr), PG (X.blk s H scope (compEnvC scope cl C X.env) fp) tg g) (ht : ∀ (s : Shared) (H : Hp) (C : Addr) (cl : List (Str × Addr)) (fp : List Addr), PTs (X.blk s H scope (compEnvC scope cl C X.env) fp) ifs tt)
    (hk : ∀ (s : Shared) (H : Hp) (C : Addr) (cl : List (Str × Addr)) (fp : List Addr), PE (X.blk s H scope (compEnvC scope cl C X.env) fp) kx tk)
    (he : ∀ (s : Shared) (H : Hp) (C : Addr) (cl : List (Str × Addr)) (fp : List Addr), PE (X.blk s H scope (compEnvC scope cl C X.env) fp) vx tv) (hs : ∀ x, foldedSetIterable iter X.env x = pure x := by intro _; rfl) :
    PS X (.Assign [.Name y py] (.DictComp kx vx [⟨tg, iter, ifs, 0⟩] scope pos) spos) (tAsg (tDc wi g tt tk tv (own.map (·.2))) (gName i)) := by
  refine ⟨fun pins s σ H D I h => ?_⟩
  rw [exec_Assign_Name_used _ _ _ _ hsw]
  refine wpAny_bind (wpAny_standAt (wpAny_bind ?_))
  show wpAny _ X.A (do let _ ← comprehension (.DictComp kx vx [⟨tg, iter, ifs, 0⟩] scope pos) scope X.env (firstIterPos [⟨tg, iter, ifs, 0⟩] pos) newDict false (eval iter X.env) (some (assign (.Name y py) X.env))) _ _ s
  have h : tDc wi g tt tk tv (own.map (·.2)) σ H (fun x H1 => gName i x σ H1 D.nx) := h
  refine wpAny_bind (thn (dc_core (Qf := fun _ s' => SP X pins D .next s') hc hN I hi ok hg ht hk he hs h fun L C s' m H' I' q hn f => ?_) fun _ s' hq => wpAny_pure (wpAny_pure hq))
  show wpAny _ _ (assign (.Name y py) X.env (.ref L)) _ _ _
  refine wpAny_assign_Name (store_ok2 (v := V.ref L) I' hN hy (.inl hyl) rfl (fun s2 I2 ⟨a, sb, ha⟩ => ?_) (.inr hyl))
  obtain ⟨f0, f1, f2, f3, f4, f5⟩ := f
  have off : C ≠ a := by
    rcases ha with z | z
    · rw [z]
      exact f1
    · exact fun e => f4 y a z e.symm
  exact ⟨m, hn.sameBut sb off, fun h3 sb3 => ⟨_, H', I2.turned (t' := s2.toks) (fun b o hb e => (sb3.2 b hb).trans e) f0 f1 f3 f4 f5, q⟩⟩
end
end L2
namespace L2
open PySem PySem.Spec PyProof.Rows
section
variable {J : It} {n : Nat} {G : Hp → Prop} {Y : Nat → Hp → V → Hp → Prop}
/-- a dict comprehension over it -/
theorem dc_it (w : Walk J n G Y) {g : TG} {tt : TT} {tk tv : TE} {vs : List Nat} {σ : St} {H1 : Hp} {D : Addr} {Qd : Hp → Prop} (Pv : Nat → Hp → Prop) (h0 : Pv 0 (upd H1 D (.dK []))) (hG : ∀ i H, i ≤ n → Pv i H → G H)
    (hs : ∀ i x H H', i < n → Pv i H → Y i H x H' → g x (wipe σ vs) H' fun σ2 H2 => wipe σ2 vs = wipe σ vs ∧ tt σ2 H2 fun b H3 =>
      if b = true then tk σ2 H3 fun y H4 => tv σ2 H4 fun z H5 => ∃ kvs k, y = kV k ∧ H5 D = some (.dK kvs) ∧ kvs.length < sizeLine ∧ Pv (i + 1) (upd H5 D (.dK (putK kvs k z))) else Pv (i + 1) H3) (hd : ∀ H, Pv n H → Qd H) :
    ∃ W : Nat → Nat → Hp → Prop, (∃ m, W 0 m (upd H1 D (.dK []))) ∧ ∀ i m H, W i m H →
      (J.stop i H ∧ Qd H) ∨ (J.go i H ∧ ∃ Nx : Hp → Prop, (∀ H', Nx H' → ∃ m', m' < m ∧ W (i + 1) m' H') ∧ ∀ x H', J.yld i H x H' → g x (wipe σ vs) H' fun σ2 H2 => wipe σ2 vs = wipe σ vs ∧ tt σ2 H2 fun b H3 =>
        if b = true then tk σ2 H3 fun y H4 => tv σ2 H4 fun z H5 => ∃ kvs k, y = kV k ∧ H5 D = some (.dK kvs) ∧ kvs.length < sizeLine ∧ Nx (upd H5 D (.dK (putK kvs k z))) else Nx H3) := by
  refine ⟨fun i m H => m = n - i ∧ i ≤ n ∧ Pv i H, ⟨n, by simp, Nat.zero_le _, h0⟩, ?_⟩
  rintro i m H ⟨rfl, hi, p⟩
  have q := hG i H hi p
  by_cases hlt : i < n
  · refine .inr ⟨w.goes i H hlt q, Pv (i + 1), fun H' p' => ⟨n - (i + 1), by omega, rfl, hlt, p'⟩, fun x H' y => hs i x H H' hlt p (w.yields i H x H' hlt q y)⟩
  · have e : i = n := by omega
    subst e
    exact .inl ⟨w.stops H q, hd H p⟩
end
end L2
namespace L2
open PySem PySem.Spec PyProof.Rows
/-- a def whose keyword-only parameters are all given, in their order -/
theorem kbn_mk {K : PySem.W.Frag} {x qual : Str} {st : Stmt} {f : Addr} {fd : FuncData} {ps ks : List Str} {n : Nat} (F : Fun K x qual st f fd)
    (h : ∀ (kV doc pm : Value) (an : Option Addr) (cdv ct : Value) (us ws : List Value), us.length = n → ws.length = ks.length →
      bindArgs (PySem.W.fnOf x qual (defArgs st) (defBody st) (defScope st) .none kV doc pm an cdv ct) ⟨us, ks.zip ws⟩ = pure (ps.zip (us ++ ws))) :
    KBn K fd ps n ks (fun us ws => us ++ ws) (fun vs zs => vs ++ zs) := by
  obtain ⟨oc, od, kV, doc, pm, an, cdv, ct, osl, rfl, lk, hc⟩ := F.ex
  refine ⟨fun s us ws _ l1 l2 => .of_eq (h kV doc pm an cdv ct us ws l1 l2), fun r1 r2 => ?_⟩
  induction r1 with
  | nil => exact r2
  | cons a _ ih => exact .cons a ih
end L2
/-! tuples and dicts of texts that stand in the written part -/
namespace L2
open PySem PySem.Spec PyProof.Rows
def KTp (K : PySem.W.Frag) (a : Addr) (xs : List V) : Prop := ∃ (o : Obj) (its : Array Value) (n : Nat), K.lookup a = some o ∧ o.cls = .type "tuple" ∧ o.data = .seq its n ∧ its.size ≤ sizeLine ∧ Vals xs its.toList
theorem KTp.sq {K : PySem.W.Frag} {a : Addr} {xs : List V} (h : KTp K a xs) (H : Hp) : SqT K H a xs := .inr h
theorem vals_txt : ∀ ks : List (Str × Nat), Vals (ks.map fun k => V.str k.1) (ks.map fun k => Value.str k.1 k.2)
  | [] => .nil
  | _ :: ks => .cons ⟨_, rfl⟩ (vals_txt ks)
theorem ktp_of {K : PySem.W.Frag} {a : Addr} {n : Nat} {sl : Array (Option Value)} {dd : Option Addr} (ks : List (Str × Nat)) (h : K.lookup a = some ⟨.type "tuple", dd, .seq (ks.map fun k => Value.str k.1 k.2).toArray n, sl⟩) (hl : ks.length ≤ 1000) : KTp K a (ks.map fun k => V.str k.1) :=
  ⟨_, _, _, h, rfl, rfl, by rw [List.size_toArray, List.length_map]; exact Nat.le_trans hl (by decide), vals_txt ks⟩
def entT (w : World) (r : Str × Nat × Addr × List Str) : DictEntry := ⟨PyData.keyHash w.params r.1, .str r.1 r.2.1, .ref r.2.2.1⟩
def KTab (K : PySem.W.Frag) (w : World) (d : Addr) (tab : List (Str × List Str)) : Prop := ∃ (rows : List (Str × Nat × Addr × List Str)) (n : Nat), K.lookup d = some ⟨.type "dict", none, .dict (rows.map (entT w)).toArray n, #[]⟩ ∧ (d == sysModules) = false ∧ (∀ r ∈ rows, KTp K r.2.2.1 (r.2.2.2.map V.str)) ∧ rows.map (fun r => (r.1, r.2.2.2)) = tab
theorem keys_lit (w : World) : ∀ rows : List (Str × Nat × Addr × List Str), PySem.W.KeysLit w.params (rows.map (entT w))
  | [] => trivial
  | _ :: rows => ⟨⟨_, _, rfl, rfl⟩, keys_lit w rows⟩
theorem find_rows (w : World) (z : Str) : ∀ rows : List (Str × Nat × Addr × List Str), (rows.map (entT w)).find? (·.key.isStr z) = (rows.find? (fun r => r.1 == z)).map (entT w)
  | [] => rfl
  | r :: rows => by
    rw [List.map_cons, List.find?_cons, List.find?_cons]
    have e : (entT w r).key.isStr z = (r.1 == z) := by rfl
    rw [e]
    cases r.1 == z with
    | true => rfl
    | false => exact find_rows w z rows
theorem find_tab (z : Str) : ∀ rows : List (Str × Nat × Addr × List Str), (rows.map fun r => (r.1, r.2.2.2)).find? (fun r => r.1 == z) = (rows.find? (fun r => r.1 == z)).map fun r => (r.1, r.2.2.2)
  | [] => rfl
  | r :: rows => by
    rw [List.map_cons, List.find?_cons, List.find?_cons]
    cases r.1 == z with
    | true => rfl
    | false => exact find_tab z rows
theorem no_ref (w : World) : ∀ rows : List (Str × Nat × Addr × List Str), ((rows.map (entT w)).any (·.refKey)) = false
  | [] => rfl
  | r :: rows => by
    rw [List.map_cons, List.any_cons, no_ref w rows]
    rfl
theorem KTab.ns {K : PySem.W.Frag} {w : World} {d : Addr} {tab : List (Str × List Str)} (h : KTab K w d tab) (z : Str) : (tab.find? (fun r => r.1 == z) = none ∧ PySem.W.nsIn K d z = some none) ∨ ∃ r t, tab.find? (fun r => r.1 == z) = some r ∧ PySem.W.nsIn K d z = some (some (.ref t)) ∧ KTp K t (r.2.map V.str) := by
  obtain ⟨rows, n, hl, _, ht, rfl⟩ := h
  have e : PySem.W.nsIn K d z = match (rows.find? (fun r => r.1 == z)).map (entT w) with
    | some e => some (some e.val)
    | none => some none := by
    unfold PySem.W.nsIn
    rw [hl]
    dsimp only
    rw [find_rows]
    cases (rows.find? (fun r => r.1 == z)).map (entT w) with
    | some e => rfl
    | none =>
      dsimp only
      rw [no_ref]
      rfl
  rw [find_tab, e]
  cases q : rows.find? (fun r => r.1 == z) with
  | none => exact .inl ⟨rfl, rfl⟩
  | some r => exact .inr ⟨_, r.2.2.1, rfl, rfl, ht r (List.mem_of_find?_eq_some q)⟩
section
variable {X : Cx} {d : Addr} {tab : List (Str × List Str)}
theorem op_notIn_tab (D : KTab X.K X.w d tab) : OpR X (compareOp .NotIn) (fun x y H Q => ∃ z : Str, x = .str z ∧ y = .ref d ∧ Q (.bl (!(tab.find? (fun r => r.1 == z)).isSome)) H) := by
  intro pins s σ H x y v u Q I rx ry h
  obtain ⟨z, rfl, rfl, q⟩ := h
  have hn := D.ns z
  obtain ⟨rows, n, hl, hs, ht, _⟩ := D
  have kd : KDict X.K X.w d (rows.map (entT X.w)).toArray n := ⟨hl, keys_lit X.w rows, hs⟩
  rcases hn with ⟨h1, h2⟩ | ⟨r, t, h1, h2, _⟩
  · exact op_notIn_kd kd pins s σ H _ _ v u Q I rx ry ⟨z, none, rfl, rfl, h2, by rw [h1] at q; exact q⟩
  · exact op_notIn_kd kd pins s σ H _ _ v u Q I rx ry ⟨z, _, rfl, rfl, h2, by rw [h1] at q; exact q⟩
theorem ix_tab (D : KTab X.K X.w d tab) : IxR X (fun x y H Q => ∃ (z : Str) (r : Str × List Str), x = .ref d ∧ y = .str z ∧ tab.find? (fun r => r.1 == z) = some r ∧ ∀ t, (∀ H', SqT X.K H' t (r.2.map V.str)) → Q (.ref t) H) := by
  intro value slice pins s σ H x y v u Q I rx ry h hs
  obtain ⟨z, r, rfl, rfl, e, q⟩ := h
  have hn := D.ns z
  obtain ⟨rows, n, hl, _, ht, _⟩ := D
  rcases hn with ⟨h1, h2⟩ | ⟨r', t, h1, h2, h3⟩
  · rw [e] at h1; cases h1
  · rw [e] at h1
    cases h1
    exact ix_kdict value slice pins s σ H _ _ v u Q I rx ry ⟨d, z, .ref t, rfl, rfl, ⟨_, n, _, hl, keys_lit X.w rows, h2, rfl⟩, q t fun H' => h3.sq H'⟩ hs
end
theorem all_cons {α : Type} {P : α → Prop} {x : α} {xs : List α} (h : P x) (hs : ∀ y ∈ xs, P y) : ∀ y ∈ x :: xs, P y := fun y m => by
  rcases List.mem_cons.mp m with m | m
  · rw [m]; exact h
  · exact hs y m
end L2
/-! own rules: dicts whose keys are nested tuples (of whole numbers, texts and None), whose values are None, truth values or things in the heap -/
namespace L2
open PySem PySem.Spec PyProof.Rows
def onlyV : V → Option Value
  | .ref b => some (.ref b)
  | .bl b => some (.bool b)
  | .non => some .none
  | _ => none
def toV (v : V) : Value := (onlyV v).getD .none
def Fix (v : V) : Prop := (onlyV v).isSome = true
theorem Fix.val {v : V} {r : Value} (h : Fix v) (rel : RelV v r) : r = toV v := by
  cases v <;> first | exact rel | exact Bool.noConfusion (show false = true from h)
theorem Fix.rel {v : V} (h : Fix v) : RelV v (toV v) := by
  cases v <;> first | rfl | exact Bool.noConfusion (show false = true from h)
theorem fix_ref (b : Addr) : Fix (.ref b) := rfl
theorem fix_bl (b : Bool) : Fix (.bl b) := rfl
theorem fix_non : Fix .non := rfl
/-- an entry: the key, its own tuple, the value -/
abbrev NE := NestedKey × Addr × V
def neH (x : NE) : NestedKey × Addr × Value := (x.1, x.2.1, toV x.2.2)
def atN (xs : List NE) (k : NestedKey) : Option (Addr × V) := (xs.find? fun x => decide (x.1 = k)).map (·.2)
def putN (xs : List NE) (k : NestedKey) (b : Addr) (v : V) : List NE := if (atN xs k).isSome = true then xs.map (fun x => if x.1 = k then (x.1, x.2.1, v) else x) else xs ++ [(k, b, v)]
def outN (xs : List NE) (k : NestedKey) : List NE := xs.filter fun x => decide (x.1 ≠ k)
theorem atKey_neH (xs : List NE) (k : NestedKey) : atKey (xs.map neH) k = (atN xs k).map fun p => (p.1, toV p.2) := by
  induction xs with
  | nil => rfl
  | cons x xs ih =>
    by_cases h : x.1 = k
    · simp [atKey, atN, neH, h]
    · simpa [atKey, atN, neH, h] using ih
theorem stored_neH (xs : List NE) (k : NestedKey) (b : Addr) (v : V) : storedH (xs.map neH) k b (toV v) = (putN xs k b v).map neH := by
  unfold storedH putN
  rw [atKey_neH, Option.isSome_map]
  split
  · rw [List.map_map, List.map_map]
    refine List.map_congr_left fun x _ => ?_
    by_cases h : x.1 = k <;> simp [putAt, neH, h]
  · rw [List.map_append]
    rfl
theorem without_neH (xs : List NE) (k : NestedKey) : withoutH (xs.map neH) k = (outN xs k).map neH := by
  induction xs with
  | nil => rfl
  | cons x xs ih =>
    by_cases h : x.1 = k
    · simpa [withoutH, outN, List.filter_cons, neH, h] using ih
    · simpa [withoutH, outN, List.filter_cons, neH, h] using ih
theorem keys_neH (xs : List NE) : (xs.map neH).map (·.1) = xs.map (·.1) := by simp [neH, Function.comp_def]
theorem putN_len (xs : List NE) (k : NestedKey) (b : Addr) (v : V) : (putN xs k b v).length ≤ xs.length + 1 := by
  unfold putN
  split <;> simp
theorem putN_mem {xs : List NE} {k : NestedKey} {b : Addr} {v : V} {x : NE} (m : x ∈ putN xs k b v) : x = (k, b, v) ∨ (∃ y ∈ xs, x.1 = y.1 ∧ x.2.1 = y.2.1 ∧ (x.2.2 = y.2.2 ∨ x.2.2 = v)) := by
  unfold putN at m
  split at m
  · obtain ⟨y, my, e⟩ := List.mem_map.mp m
    right
    refine ⟨y, my, ?_⟩
    by_cases h : y.1 = k
    · rw [if_pos h] at e; subst e; exact ⟨rfl, rfl, .inr rfl⟩
    · rw [if_neg h] at e; subst e; exact ⟨rfl, rfl, .inl rfl⟩
  · rcases List.mem_append.mp m with m | m
    · exact .inr ⟨x, m, rfl, rfl, .inl rfl⟩
    · exact .inl (List.mem_singleton.mp m)
theorem atN_iff {xs : List NE} {k : NestedKey} : (atN xs k).isSome = true ↔ ∃ x ∈ xs, x.1 = k := by
  unfold atN
  rw [Option.isSome_map, List.find?_isSome]
  constructor
  · rintro ⟨x, m, e⟩
    exact ⟨x, m, of_decide_eq_true e⟩
  · rintro ⟨x, m, e⟩
    exact ⟨x, m, decide_eq_true e⟩
theorem putN_iff {xs : List NE} {k k' : NestedKey} {b : Addr} {v : V} : (atN (putN xs k b v) k').isSome = true ↔ k' = k ∨ (atN xs k').isSome = true := by
  rw [atN_iff, atN_iff]
  constructor
  · rintro ⟨x, m, e⟩
    rcases putN_mem m with z | ⟨y, my, e1, _⟩
    · rw [z] at e
      exact .inl e.symm
    · exact .inr ⟨y, my, e1.symm.trans e⟩
  · unfold putN
    by_cases c : (atN xs k).isSome = true
    · rw [if_pos c]
      obtain ⟨y, my, ey⟩ := atN_iff.mp c
      rintro (e | ⟨x, m, e⟩)
      · exact ⟨_, List.mem_map.mpr ⟨y, my, rfl⟩, by rw [if_pos ey, ey, e]⟩
      · refine ⟨_, List.mem_map.mpr ⟨x, m, rfl⟩, ?_⟩
        by_cases d : x.1 = k
        · rw [if_pos d]; exact e
        · rw [if_neg d]; exact e
    · rw [if_neg c]
      rintro (e | ⟨x, m, e⟩)
      · exact ⟨(k, b, v), by simp, e.symm⟩
      · exact ⟨x, List.mem_append_left _ m, e⟩
theorem putN_new {xs : List NE} {k : NestedKey} (h : ∀ x ∈ xs, x.1 ≠ k) (b : Addr) (v : V) : putN xs k b v = xs ++ [(k, b, v)] := by
  unfold putN
  rw [if_neg fun z => ?_]
  obtain ⟨x, m, e⟩ := atN_iff.mp z
  exact h x m e
/-- what stands at such a dict's place -/
def RawN (w : World) (d : Addr) (xs : List NE) : Heap → Prop := fun h => xs.length ≤ sizeLine ∧ (d == sysModules) = false ∧ (xs.map (·.1)).Nodup ∧ (∀ x ∈ xs, Fix x.2.2) ∧
  ∃ (ob : Obj) (es : Array DictEntry) (n : Nat), h.get? d = some ob ∧ ob.ExactDict ∧ ob.data = .dict es n ∧ es.toList = xs.map fun x => (⟨x.1.hash w, .ref x.2.1, toV x.2.2⟩ : DictEntry)
def NO (w : World) (d : Addr) (xs : List NE) : HO := .ext (RawN w d xs)
theorem RawN.stay {w : World} {d : Addr} {xs : List NE} {h1 h2 : Heap} (r : RawN w d xs h1) (k : ∀ ob, h1.get? d = some ob → h2.get? d = some ob) : RawN w d xs h2 := by
  obtain ⟨a1, a2, a3, a4, ob, es, n, e1, e2⟩ := r
  exact ⟨a1, a2, a3, a4, ob, es, n, k _ e1, e2⟩
theorem RawN.ok {P : Program} {w : World} {H : Hp} {h : Heap} {d : Addr} {xs : List NE} (r : RawN w d xs h) : ObjOk P w H h d (NO w d xs) := by
  obtain ⟨_, _, _, _, ob, _, _, e1, _⟩ := id r
  exact ⟨r, ⟨ob, e1⟩, fun _ _ r' k => r'.stay k⟩
mutual
/-- a value that is a key, by what the heap tells of tuples -/
inductive NK (H : Hp) : NestedKey → V → Prop
  | num (i : Int) : NK H (.num i) (.int i)
  | text (z : Str) : NK H (.text z) (.str z)
  | non : NK H .none .non
  | tup {b : Addr} {vs : List V} {ks : List NestedKey} : H b = some (.tup vs) → NKs H ks vs → NK H (.tup ks) (.ref b)
inductive NKs (H : Hp) : List NestedKey → List V → Prop
  | nil : NKs H [] []
  | cons {k : NestedKey} {v : V} {ks : List NestedKey} {vs : List V} : NK H k v → NKs H ks vs → NKs H (k :: ks) (v :: vs)
end
mutual
theorem NK.is {P : Program} {w : World} {H : Hp} {h : Heap} (ok : HOk P w H h) : ∀ (k : NestedKey) (v : V) (u : Value), NK H k v → RelV v u → NestedIs h k u
  | .none, _, _, x, r => by cases x; cases (show _ = Value.none from r); exact .none
  | .num i, _, _, x, r => by cases x; obtain ⟨t, rfl⟩ := (show ∃ t, _ = Value.int i t from r); exact .int i t
  | .text z, _, _, x, r => by cases x; obtain ⟨t, rfl⟩ := (show ∃ t, _ = Value.str z t from r); exact .text z t
  | .tup ks, _, _, x, r => by
    cases x with
    | tup hb hs =>
      cases (show _ = Value.ref _ from r)
      obtain ⟨_, its, rel, o, h1, h2, n, h3⟩ := (show ObjOk P w H h _ (.tup _) from ok _ _ hb)
      exact .tup h1 h2 h3 (NKs.is ok ks _ its hs rel)
theorem NKs.is {P : Program} {w : World} {H : Hp} {h : Heap} (ok : HOk P w H h) : ∀ (ks : List NestedKey) (vs : List V) (us : List Value), NKs H ks vs → Vals vs us → NestedAll h ks us
  | [], _, _, x, r => by cases x; cases r; exact .nil
  | k :: ks, _, _, x, r => by
    cases x with
    | cons x1 x2 =>
      cases r with
      | cons r1 r2 => exact .cons (NK.is ok k _ _ x1 r1) (NKs.is ok ks _ _ x2 r2)
end
mutual
theorem NK.at {H H' : Hp} (s : ∀ b ys, H b = some (.tup ys) → H' b = some (.tup ys)) : ∀ (k : NestedKey) (v : V), NK H k v → NK H' k v
  | .none, _, x => by cases x; exact .non
  | .num i, _, x => by cases x; exact .num i
  | .text z, _, x => by cases x; exact .text z
  | .tup ks, _, x => by
    cases x with
    | tup hb hs => exact .tup (s _ _ hb) (NKs.at s ks _ hs)
theorem NKs.at {H H' : Hp} (s : ∀ b ys, H b = some (.tup ys) → H' b = some (.tup ys)) : ∀ (ks : List NestedKey) (vs : List V), NKs H ks vs → NKs H' ks vs
  | [], _, x => by cases x; exact .nil
  | k :: ks, _, x => by
    cases x with
    | cons x1 x2 => exact .cons (NK.at s k _ x1) (NKs.at s ks _ x2)
end
/-- the keys of a dict stand -/
def NKeys (H : Hp) (xs : List NE) : Prop := ∀ x ∈ xs, NK H x.1 (.ref x.2.1) ∧ x.1.depth ≤ 8
theorem NKeys.at {H H' : Hp} {xs : List NE} (h : NKeys H xs) (s : ∀ b ys, H b = some (.tup ys) → H' b = some (.tup ys)) : NKeys H' xs := fun x m => ⟨NK.at s _ _ (h x m).1, (h x m).2⟩
theorem NKeys.same {H H' : Hp} {xs : List NE} (h : NKeys H xs) (s : Same H H') : NKeys H' xs := h.at fun b ys e => s b _ e
theorem NKeys.put {H : Hp} {xs : List NE} {k : NestedKey} {b : Addr} {v : V} (h : NKeys H xs) (hk : NK H k (.ref b)) (hd : k.depth ≤ 8) : NKeys H (putN xs k b v) := fun x m => by
  rcases putN_mem m with e | ⟨y, my, e1, e2, _⟩
  · rw [e]; exact ⟨hk, hd⟩
  · rw [e1, e2]; exact h y my
theorem NKeys.out {H : Hp} {xs : List NE} {k : NestedKey} (h : NKeys H xs) : NKeys H (outN xs k) := fun x m => h x (List.mem_filter.mp m).1
theorem raw_dict {P : Program} {w : World} {H : Hp} {h : Heap} {d : Addr} {xs : List NE} (ok : HOk P w H h) (r : RawN w d xs h) (ks : NKeys H xs) : h.DictOfH (nestedKind P w) d (xs.map neH) := by
  obtain ⟨_, _, nd, _, ob, es, n, e1, e2, e3, e4⟩ := r
  refine ⟨ob, es, n, e1, e2, e3, ?_, fun x m => ?_, by rw [keys_neH]; exact nd⟩
  · rw [e4, List.map_map]
    rfl
  · obtain ⟨y, my, rfl⟩ := List.mem_map.mp m
    exact ⟨NK.is ok _ _ _ (ks y my).1 rfl, (ks y my).2⟩
theorem dict_raw {P : Program} {w : World} {h : Heap} {d : Addr} {xs : List NE} (dd : h.DictOfH (nestedKind P w) d (xs.map neH)) (hl : xs.length ≤ sizeLine) (hs : (d == sysModules) = false) (fx : ∀ x ∈ xs, Fix x.2.2) : RawN w d xs h := by
  obtain ⟨ob, es, n, e1, e2, e3, e4, _, nd⟩ := dd
  refine ⟨hl, hs, by rw [← keys_neH]; exact nd, fx, ob, es, n, e1, e2, e3, ?_⟩
  rw [e4, List.map_map]
  rfl
theorem no_raw {P : Program} {w : World} {H : Hp} {h : Heap} {d : Addr} {xs : List NE} (ok : HOk P w H h) (e : Rd H d (NO w d xs)) : RawN w d xs h := (show ObjOk P w H h d (NO w d xs) from e.ok ok).1
section
variable {X : Cx} {pins : List (Addr × Obj)} {σ : St} {H : Hp} {s : Shared} {d b : Addr} {xs : List NE} {k : NestedKey} {A : Around} {E : Value → Shared → Prop}
theorem nd_room (hu : A.units + 64 < cLine) : (nestedKind X.prog X.w).room A.in1 := by
  show A.units + 1 + 8 < cLine
  omega
/-- an entry is written, whatever writes it -/
theorem nd_put {v : V} {h' : Heap} {tk : Nat} (I : Inv X pins σ H s) (e : H d = some (NO X.w d xs)) (ks : NKeys H xs) (hz : xs.length < sizeLine) (fx : Fix v) (dd : h'.DictOfH (nestedKind X.prog X.w) d (storedH (xs.map neH) k b (toV v))) (sb : Heap.SameBut d s.heap h') :
    Inv X pins σ (upd H d (NO X.w d (putN xs k b v))) { s with heap := h', toks := tk } := by
  have r := no_raw I.hok (.inl e)
  rw [stored_neH] at dd
  have r' : RawN X.w d (putN xs k b v) h' := dict_raw dd (by have := putN_len xs k b v; omega) r.2.1 fun x m => by
    rcases putN_mem m with z | ⟨y, my, _, _, z | z⟩
    · rw [z]; exact fx
    · rw [z]; exact r.2.2.2.1 y my
    · rw [z]; exact fx
  obtain ⟨_, _, _, _, ob, _, _, e1, _⟩ := id r'
  exact d_write I (by rw [e]; exact True.intro) sb ⟨ob, e1⟩ r'.ok
end
/-! the words -/
def tNGet (w : World) (td ty : TE) : TE := fun σ H Q => td σ H fun x H1 => ty σ H1 fun y H2 => ∃ (d b b' : Addr) (xs : List NE) (k : NestedKey) (v : V), x = .ref d ∧ Rd H2 d (NO w d xs) ∧ NKeys H2 xs ∧ y = .ref b ∧ NK H2 k (.ref b) ∧ k.depth ≤ 8 ∧ atN xs k = some (b', v) ∧ Q v H2
def tNIn (w : World) (ty td : TE) : TE := fun σ H Q => ty σ H fun y H1 => td σ H1 fun x H2 => ∃ (d b : Addr) (xs : List NE) (k : NestedKey), x = .ref d ∧ Rd H2 d (NO w d xs) ∧ NKeys H2 xs ∧ y = .ref b ∧ NK H2 k (.ref b) ∧ k.depth ≤ 8 ∧ Q (.bl (atN xs k).isSome) H2
def tNNotIn (w : World) (ty td : TE) : TE := fun σ H Q => ty σ H fun y H1 => td σ H1 fun x H2 => ∃ (d b : Addr) (xs : List NE) (k : NestedKey), x = .ref d ∧ Rd H2 d (NO w d xs) ∧ NKeys H2 xs ∧ y = .ref b ∧ NK H2 k (.ref b) ∧ k.depth ≤ 8 ∧ Q (.bl (!(atN xs k).isSome)) H2
def sNPut (w : World) (td ty tv : TE) : TS := fun D σ H => tv σ H fun v H1 => td σ H1 fun x H2 => ty σ H2 fun y H3 => ∃ (d b : Addr) (xs : List NE) (k : NestedKey), x = .ref d ∧ H3 d = some (NO w d xs) ∧ NKeys H3 xs ∧ y = .ref b ∧ NK H3 k (.ref b) ∧ k.depth ≤ 8 ∧ Fix v ∧ xs.length < sizeLine ∧ D.nx σ (upd H3 d (NO w d (putN xs k b v)))
def sNDel (w : World) (td ty : TE) : TS := fun D σ H => td σ H fun x H1 => ty σ H1 fun y H2 => ∃ (d b : Addr) (xs : List NE) (k : NestedKey), x = .ref d ∧ H2 d = some (NO w d xs) ∧ NKeys H2 xs ∧ y = .ref b ∧ NK H2 k (.ref b) ∧ k.depth ≤ 8 ∧ (atN xs k).isSome = true ∧ D.nx σ (upd H2 d (NO w d (outN xs k)))
def tNNew (w : World) : TE := fun _ H Q => ∀ p, H p = none → Q (.ref p) (upd H p (NO w p []))
theorem raw_new (w : World) (h : Heap) (hb : sysModules < h.objs.size) : RawN w h.objs.size [] (h.push { cls := .type "dict", data := .dict #[] }) :=
  ⟨Nat.zero_le _, beq_eq_false_iff_ne.mpr (Ne.symm (Nat.ne_of_lt hb)), List.nodup_nil, fun _ m => (nomatch m), _, #[], 0, Heap.get?_push_size _ rfl, ⟨rfl, rfl, rfl⟩, rfl, rfl⟩
section
variable {X : Cx} {o i value : Expr} {pos pos' tpos : Pos} {td ty tv : TE}
theorem pe_nnew : PE X (.Dict [] [] pos) (tNNew X.w) := ⟨fun _ st _ Hh _ Iv hw =>
  wpAny_Dict_empty ⟨.ref st.heap.objs.size, _, Iv.laid (a := st.heap.objs.size) (o := NO X.w st.heap.objs.size []) (t' := st.toks) (fun _ _ z => Heap.get?_push_of_some _ z) (Nat.le_refl _) (raw_new X.w st.heap Iv.big).ok, rfl, hw _ (Iv.hok.fresh (Nat.le_refl _))⟩⟩
theorem pe_nget (hu : X.A.units + 64 < cLine) (ho : PE X o td) (hi : PE X i ty) (hs : NoSl i) : PE X (.Subscript o i pos) (tNGet X.w td ty) := by
  refine ⟨fun pn st sg Hh Qq Iv hw => ?_⟩
  refine subD_of PySem.F.slot_dict_getitem.lookup hs (thn (ho.run pn st sg Hh _ Iv hw) fun u s1 ⟨x, H1, I1, rx, q1⟩ => thn (hi.run pn s1 sg H1 _ I1 q1) fun iv s2 ⟨y, H2, I2, ry, d, b, b', xs, k, v, ex, g, ks, ey, hk, hd, hv, q2⟩ => ?_)
  subst ex ey
  obtain rfl : u = Value.ref d := rx
  obtain rfl : iv = Value.ref b := ry
  have r := no_raw I2.hok g
  have dd := raw_dict I2.hok r ks
  refine ⟨dd.typeIs, wpAny_getItem_heap (nd_room hu) ⟨NK.is I2.hok _ _ _ hk rfl, hd⟩ dd (by rw [atKey_neH, hv]; rfl) ?_⟩
  have fx : Fix v := by
    unfold atN at hv
    cases z : xs.find? fun x => decide (x.1 = k) with
    | none => rw [z] at hv; cases hv
    | some e =>
      rw [z] at hv
      have : e.2 = (b', v) := Option.some.inj hv
      have := r.2.2.2.1 e (List.mem_of_find?_eq_some z)
      rwa [show e.2.2 = v by rw [‹e.2 = (b', v)›]] at this
  exact ⟨v, H2, I2.tok _, fx.rel, q2⟩
theorem pc_nin (hu : X.A.units + 64 < cLine) (hi : PE X i ty) (ho : PE X o td) : PC X .In i o (tNIn X.w ty td) := by
  refine ⟨fun pn st sg Hh Qq Iv hw => ?_⟩
  refine thn (hi.run pn st sg Hh _ Iv hw) fun iv s1 ⟨y, H1, I1, ry, q1⟩ => thn (ho.run pn s1 sg H1 _ I1 q1) fun u s2 ⟨x, H2, I2, rx, d, b, xs, k, ex, g, ks, ey, hk, hd, q2⟩ => ?_
  subst ex ey
  obtain rfl : u = Value.ref d := rx
  obtain rfl : iv = Value.ref b := ry
  have r := no_raw I2.hok g
  refine wpAny_in_heap (nd_room hu) ⟨NK.is I2.hok _ _ _ hk rfl, hd⟩ r.2.1 (raw_dict I2.hok r ks) ?_
  rw [atKey_neH, Option.isSome_map]
  exact ⟨.bl (atN xs k).isSome, H2, I2.tok _, rfl, q2⟩
theorem pc_nnotin (hu : X.A.units + 64 < cLine) (hi : PE X i ty) (ho : PE X o td) : PC X .NotIn i o (tNNotIn X.w ty td) := by
  refine ⟨fun pn st sg Hh Qq Iv hw => ?_⟩
  refine thn (hi.run pn st sg Hh _ Iv hw) fun iv s1 ⟨y, H1, I1, ry, q1⟩ => thn (ho.run pn s1 sg H1 _ I1 q1) fun u s2 ⟨x, H2, I2, rx, d, b, xs, k, ex, g, ks, ey, hk, hd, q2⟩ => ?_
  subst ex ey
  obtain rfl : u = Value.ref d := rx
  obtain rfl : iv = Value.ref b := ry
  have r := no_raw I2.hok g
  refine wpAny_notIn_heap (nd_room hu) ⟨NK.is I2.hok _ _ _ hk rfl, hd⟩ r.2.1 (raw_dict I2.hok r ks) ?_
  rw [atKey_neH, Option.isSome_map]
  exact ⟨.bl (!(atN xs k).isSome), H2, I2.tok _, rfl, q2⟩
theorem ps_nput (hu : X.A.units + 64 < cLine) (ho : PE X o td) (hi : PE X i ty) (hv : PE X value tv) (hs : swapsWith value (some (.Subscript o i pos')) pos.line X.env = pure false) :
    PS X (.Assign [.Subscript o i pos'] value pos) (sNPut X.w td ty tv) := by
  refine ⟨fun pn st sg Hh D Iv hw => ?_⟩
  refine wpAny_Assign_Subscript (thn (hv.run pn st sg Hh _ Iv hw) fun r s1 ⟨v, H1, I1, rv, q1⟩ => thn (ho.run pn s1 sg H1 _ I1 q1) fun u s2 ⟨x, H2, I2, rx, q2⟩ => thn (hi.run pn s2 sg H2 _ I2 q2) fun iv s3 ⟨y, H3, I3, ry, d, b, xs, k, ex, g, ks, ey, hk, hd, fx, hz, q3⟩ => ?_) hs
  subst ex ey
  obtain rfl : u = Value.ref d := rx
  obtain rfl : iv = Value.ref b := ry
  obtain rfl := fx.val rv
  refine wpAny_setItem_heap (hsz := by rw [List.length_map]; omega) (nd_room hu) ⟨NK.is I3.hok _ _ _ hk rfl, hd⟩ (raw_dict I3.hok (no_raw I3.hok (.inl g)) ks) fun h' dd sb => ?_
  exact ⟨sg, _, nd_put I3 g ks hz fx dd sb, q3⟩
theorem ps_ndel (hu : X.A.units + 64 < cLine) (ho : PE X o td) (hi : PE X i ty) : PS X (.Delete [.Subscript o i tpos] pos) (sNDel X.w td ty) := by
  refine ⟨fun pn st sg Hh D Iv hw => ?_⟩
  refine wpAny_Delete (wpAny_deleteEach_cons (wpAny_delete_Subscript (thn (ho.run pn st sg Hh _ Iv hw) fun u s1 ⟨x, H1, I1, rx, q1⟩ => thn (hi.run pn s1 sg H1 _ I1 q1) fun iv s2 ⟨y, H2, I2, ry, d, b, xs, k, ex, g, ks, ey, hk, hd, hv, q2⟩ => ?_)))
  subst ex ey
  obtain rfl : u = Value.ref d := rx
  obtain rfl : iv = Value.ref b := ry
  have r := no_raw I2.hok (.inl g)
  obtain ⟨p, hp⟩ := Option.isSome_iff_exists.mp hv
  refine wpAny_delItem_heap (hsz := by rw [List.length_map]; exact r.1) (nd_room hu) ⟨NK.is I2.hok _ _ _ hk rfl, hd⟩ r.2.1 (raw_dict I2.hok r ks) (p := (p.1, toV p.2)) (by rw [atKey_neH, hp]; rfl) fun h' dd sb => ?_
  rw [without_neH] at dd
  have r' : RawN X.w d (outN xs k) h' := dict_raw dd (Nat.le_trans (List.length_filter_le _ _) r.1) r.2.1 fun x m => r.2.2.2.1 x (List.mem_filter.mp m).1
  obtain ⟨_, _, _, _, ob, _, _, e1, _⟩ := id r'
  exact wpAny_deleteEach_nil ⟨sg, _, d_write I2 (by rw [g]; exact True.intro) sb ⟨ob, e1⟩ r'.ok, q2⟩
end
/-! for k in d -/
def Itn (w : World) (d : Addr) (o : Obj) (xs : List NE) : It :=
  ⟨fun i H => H d = some (.frz o (NO w d xs)) ∧ i < xs.length, fun i H x H' => H' = H ∧ ∃ e : NE, xs[i]? = some e ∧ x = .ref e.2.1, fun i H => H d = some (.frz o (NO w d xs)) ∧ xs.length ≤ i⟩
theorem frz_raw {P : Program} {w : World} {H : Hp} {h : Heap} {d : Addr} {o : Obj} {xs : List NE} (ok : HOk P w H h) (e : H d = some (.frz o (NO w d xs))) : (d == sysModules) = false ∧ h.get? d = some o ∧ o.ExactDict ∧ ∃ (es : Array DictEntry) (n : Nat), o.data = .dict es n ∧ es.size = xs.length ∧
    ∀ (i : Nat) (x : NE), xs[i]? = some x → ∃ en, es[i]? = some en ∧ en.key = .ref x.2.1 := by
  obtain ⟨g, r⟩ := (show ObjOk P w H h d (.frz o (NO w d xs)) from ok d _ e)
  obtain ⟨_, a2, _, _, ob, es, n, e1, e2, e3, e4⟩ := r.1
  rw [g] at e1
  cases e1
  refine ⟨a2, g, e2, es, n, e3, by rw [← Array.length_toList, e4, List.length_map], fun i x hx => ⟨⟨x.1.hash w, .ref x.2.1, toV x.2.2⟩, ?_, rfl⟩⟩
  rw [← Array.getElem?_toList, e4, List.getElem?_map, hx]
  rfl
theorem turn_nkeys {P : Program} {w : World} {K : PySem.W.Frag} {tg : Expr} {d : Addr} {o : Obj} {es : Array DictEntry} {n : Nat} {xs : List NE} (it : Addr) (hod : o.data = .dict es n) : Turn P w K tg (Itn w d o xs) [it] it (fun i h => h.IsKeyIter it d i xs.length n) where
  mem := by simp
  obj := fun i h hst b hb => by
    obtain rfl : b = it := by simpa using hb
    obtain ⟨oi, e, _, dd⟩ := hst
    exact ⟨oi, e, fun v z => by rw [dd] at z; cases z⟩
  keep := fun i h h' hst k => hst.at fun oi e => k it (by simp) oi e
  item := by
    intro X hP hw hK hc i pn st sg Hh E Iv hf hst hg
    subst hP hw hK
    obtain ⟨hd, hi⟩ := hg
    obtain ⟨f0, f1, _, f3, f4, f5⟩ := hf it (by simp)
    obtain ⟨_, hgd, _, es', n', hdt, hsz, ent⟩ := frz_raw Iv.hok hd
    obtain ⟨rfl, rfl⟩ := dict_ep hod hdt
    have hx : xs[i]? = some xs[i] := List.getElem?_eq_getElem hi
    obtain ⟨en, hen, hkey⟩ := ent i _ hx
    refine next_key_item hst hgd hdt hsz hen fun h' hst' sb => ?_
    have I1 : Inv X pn sg Hh { st with heap := h' } := Iv.turned (t' := st.toks) (fun b ob hb e => (sb.2 b hb).trans e) f0 f1 f3 f4 f5
    obtain ⟨oi, e, c, dd⟩ := id hst'
    exact ⟨en.key, rfl, go_of (s := { st with heap := h' }) e c dd (by decide) ⟨.ref xs[i].2.1, Hh, I1, hkey, ⟨rfl, _, hx, rfl⟩, hst', fun b hb => (hf b hb).1⟩⟩
  done := by
    intro X hP hw hK hc i pn st sg Hh E Iv hf hst hg
    subst hP hw hK
    obtain ⟨hd, hi⟩ := hg
    obtain ⟨f0, f1, _, f3, f4, f5⟩ := hf it (by simp)
    obtain ⟨_, hgd, _, es', n', hdt, hsz, _⟩ := frz_raw Iv.hok hd
    obtain ⟨rfl, rfl⟩ := dict_ep hod hdt
    exact next_key_end (Iv.ok.hd hc) hst hgd hdt hsz hi fun h' eb => ⟨rfl, Iv.turned (t' := st.toks) (fun b ob hb e => eb b ob hb e) f0 f1 f3 f4 f5⟩
  self := fun A i st Q E hst h => wpAny_pyIter_keyiter hst h
def iNKeys (w : World) (td : TE) : TI := fun σ H R => td σ H fun x H1 => ∃ (d : Addr) (o : Obj) (xs : List NE), x = .ref d ∧ H1 d = some (.frz o (NO w d xs)) ∧ R (Itn w d o xs) H1
theorem pi_nkeys {X : Cx} {tg e : Expr} {td : TE} (he : PE X e td) : PI X tg e (iNKeys X.w td) := by
  refine ⟨fun pn st sg Hh R Iv hw => ?_⟩
  refine thn (he.run pn st sg Hh _ Iv hw) fun u s1 ⟨x, H1, I1, rx, d, o, xs, ex, hd, q⟩ => ?_
  subst ex
  obtain rfl : u = Value.ref d := rx
  obtain ⟨hs, hgd, hx, es, n, hdt, hsz, _⟩ := frz_raw I1.hok hd
  refine iter_keys hs hgd hx hdt (pi_one (tk := s1.toks) I1 _ (turn_nkeys _ hdt) ⟨_, Heap.get?_push_size _ rfl, rfl, ?_⟩ q)
  rw [hsz] <;> rfl
theorem walk_nkeys {w : World} {d : Addr} {o : Obj} {xs : List NE} : Walk (Itn w d o xs) xs.length (fun H => H d = some (.frz o (NO w d xs))) (fun i H x H' => H' = H ∧ ∃ e : NE, xs[i]? = some e ∧ x = .ref e.2.1) :=
  ⟨fun _ _ hi q => ⟨q, hi⟩, fun _ q => ⟨q, Nat.le_refl _⟩, fun _ _ _ _ _ _ y => y⟩
/-! {k: v for ..}, its keys nested tuples -/
theorem nd_dictSet {X : Cx} {pn : List (Addr × Obj)} {sg : St} {Hh : Hp} {st : Shared} {E : Value → Shared → Prop} {D b : Addr} {xs : List NE} {k : NestedKey} {v : V} {u r : Value} {Qq : Unit → Shared → Prop} (hu : X.A.units + 64 < cLine) (Iv : Inv X pn sg Hh st) (hD : Hh D = some (NO X.w D xs)) (ks : NKeys Hh xs)
    (hz : xs.length < sizeLine) (hk : NK Hh k (.ref b)) (hd : k.depth ≤ 8) (ru : u = .ref b) (fx : Fix v) (rv : RelV v r) (h : ∀ s', Inv X pn sg (upd Hh D (NO X.w D (putN xs k b v))) s' → Qq () s') : wpAny (model X.prog X.w) X.A (dictSet D u r) Qq E st := by
  subst ru
  obtain rfl := fx.val rv
  refine wpAny_dictSet_heap (knd := nestedKind X.prog X.w) (hsz := by rw [List.length_map]; omega) (show X.A.units + 8 < cLine by omega) ⟨NK.is Iv.hok _ _ _ hk rfl, hd⟩ (raw_dict Iv.hok (no_raw Iv.hok (.inl hD)) ks) fun h' dd sb => ?_
  exact h _ (nd_put Iv hD ks hz fx dd sb)
def tNc (w : World) (wi : TI) (g : TG) (tt : TT) (tk tv : TE) (vs : List Nat) : TE := fun sg Hh Qq => wi sg Hh fun J H1 => ∀ D, H1 D = none → ∃ W : Nat → Nat → Hp → Prop, (∃ m, W 0 m (upd H1 D (NO w D []))) ∧ ∀ i m H, W i m H →
  (J.stop i H ∧ Qq (.ref D) H) ∨ (J.go i H ∧ ∃ Nx : Hp → Prop, (∀ H', Nx H' → ∃ m', m' < m ∧ W (i + 1) m' H') ∧ ∀ x H', J.yld i H x H' → g x (wipe sg vs) H' fun s2 H2 => wipe s2 vs = wipe sg vs ∧ tt s2 H2 fun c H3 =>
    if c = true then tk s2 H3 fun y H4 => tv s2 H4 fun z H5 => ∃ (b : Addr) (xs : List NE) (k : NestedKey), y = .ref b ∧ H5 D = some (NO w D xs) ∧ NKeys H5 xs ∧ NK H5 k (.ref b) ∧ k.depth ≤ 8 ∧ Fix z ∧ xs.length < sizeLine ∧ Nx (upd H5 D (NO w D (putN xs k b z))) else Nx H3)
section
variable {X : Cx}
theorem nc_core {pn : List (Addr × Obj)} {st : Shared} {sg : St} {Hh : Hp} {Qq : VK} {kx vx tg itx : Expr} {ifs : List Expr} {scp : Scope} {mine : List (Str × Nat)} {pos pos' : Pos} {wi : TI} {g : TG} {tt : TT} {tk tv : TE} {use : Option (Value → Sem Unit)} {Qf : Value → Shared → Prop}
    (hu : X.A.units + 64 < cLine) (calm : X.calm = true) (nd : X.N.Nodup) (Iv : Inv X pn sg Hh st) (hi : PI X tg itx wi) (bo : BlkOk X.N X.env.scope scp mine)
    (pg0 : ∀ (z : Shared) (H : Hp) (C : Addr) (cl : List (Str × Addr)) (fp : List Addr), PG (X.blk z H scp (compEnvC scp cl C X.env) fp) tg g) (pt0 : ∀ (z : Shared) (H : Hp) (C : Addr) (cl : List (Str × Addr)) (fp : List Addr), PTs (X.blk z H scp (compEnvC scp cl C X.env) fp) ifs tt)
    (pk0 : ∀ (z : Shared) (H : Hp) (C : Addr) (cl : List (Str × Addr)) (fp : List Addr), PE (X.blk z H scp (compEnvC scp cl C X.env) fp) kx tk)
    (pv0 : ∀ (z : Shared) (H : Hp) (C : Addr) (cl : List (Str × Addr)) (fp : List Addr), PE (X.blk z H scp (compEnvC scp cl C X.env) fp) vx tv) (fs : ∀ x, foldedSetIterable itx X.env x = pure x)
    (hw : tNc X.w wi g tt tk tv (mine.map (·.2)) sg Hh Qq)
    (after : ∀ D C z m H', Inv X pn sg H' z → Qq (.ref D) H' → z.heap.Ns C m → FpOk X pn H' C → compPost (model X.prog X.w) X.A X.xe use Qf (.ref D) C (.ok .next) z) :
    wpAny (model X.prog X.w) X.A (comprehension (.DictComp kx vx [⟨tg, itx, ifs, 0⟩] scp pos) scp X.env pos' newDict false (eval itx X.env) use) Qf X.xe st := by
  have frees : ∀ y ∈ scp.names, y.2 = .free → ∃ c, X.env.cells.lookup y.1 = some c := fun y hy e => (bo.free y hy e).elim (fun z => Iv.ok.has _ (.inl z)) fun z => Iv.ok.has _ (.inr z)
  refine wpAny_comprehension_free (use := use) rfl fs (closure_ok frees) bo.kind (fun y hy e => by rw [bo.uniq y hy, e]) (thn (hi.run pn st sg Hh _ Iv hw) fun xv s1 hx => thn hx fun itv s2 h2 => ?_)
  obtain ⟨it, fp, tn, J, H2, e0, I2, T, t2, f2, q⟩ := h2
  subst e0
  refine wpAny_newObj_type (newEnv_comp ?_)
  obtain ⟨D, hD⟩ : ∃ D, D = s2.heap.objs.size := ⟨_, rfl⟩
  have Dn : H2 D = none := I2.hok.fresh (Nat.le_of_eq hD.symm)
  obtain ⟨W, ⟨m0, w0⟩, turn⟩ := q D Dn
  obtain ⟨s3, hs3⟩ : ∃ s3 : Shared, s3 = { s2 with heap := s2.heap.push { cls := .type "dict", data := .dict #[] } } := ⟨_, rfl⟩
  have I3 : Inv X pn sg (upd H2 D (NO X.w D [])) s3 := by
    rw [hs3]
    refine I2.laid (t' := s2.toks) (fun c o e => Heap.get?_push_of_some _ e) (Nat.le_of_eq hD.symm) ?_
    rw [hD]
    exact (raw_new X.w s2.heap I2.big).ok
  have hh3 : s3.heap = s2.heap.push { cls := .type "dict", data := .dict #[] } := by rw [hs3]
  have f3 : ∀ c ∈ fp, FpOk X pn (upd H2 D (NO X.w D [])) c ∧ c < s3.heap.objs.size := fun c hc => by
    obtain ⟨o, e, _⟩ := T.obj _ _ t2 c hc
    have lt : c < s2.heap.objs.size := Heap.lt_size e
    refine ⟨⟨?_, (f2 c hc).2⟩, by rw [hh3, Heap.size_push]; exact Nat.lt_succ_of_lt lt⟩
    rw [upd_ne (by rw [hD]; exact Nat.ne_of_lt lt)]
    exact (f2 c hc).1
  have t3 : tn 0 s3.heap := T.keep _ _ _ t2 fun c _ o e => by rw [hh3]; exact Heap.get?_push_of_some _ e
  have I4 := block_start I3 bo nd f3
  rw [← hD, ← hs3]
  show codeAny _ _ (.compStart (.DictComp kx vx [⟨tg, itx, ifs, 0⟩] scp pos) 0 (.ref it) (.ref D) (compEnvC scp (cellsFrom (s3.heap.objs.size + 1) scp.names (cloFrom X.env.cells scp.names [])) s3.heap.objs.size X.env)) (compPost (model X.prog X.w) X.A X.xe use Qf (.ref D) s3.heap.objs.size) { s3 with heap := pushCells (s3.heap.push { cls := .type "dict", data := .dict #[] }) scp.names }
  obtain ⟨cl, hcl⟩ : ∃ cl, cl = cellsFrom (s3.heap.objs.size + 1) scp.names (cloFrom X.env.cells scp.names []) := ⟨_, rfl⟩
  rw [← hcl] at I4 ⊢
  obtain ⟨ce, hce⟩ : ∃ ce, ce = compEnvC scp cl s3.heap.objs.size X.env := ⟨_, rfl⟩
  obtain ⟨H3, hH3⟩ : ∃ H3, H3 = upd H2 D (NO X.w D []) := ⟨_, rfl⟩
  have pg := pg0 s3 H3 s3.heap.objs.size cl fp
  have pt := pt0 s3 H3 s3.heap.objs.size cl fp
  have pk := pk0 s3 H3 s3.heap.objs.size cl fp
  have pv := pv0 s3 H3 s3.heap.objs.size cl fp
  rw [← hH3] at I3 I4 w0 f3
  rw [← hce] at I4 pg pt pk pv ⊢
  have cL : ce.locals = s3.heap.objs.size := by rw [hce]; rfl
  obtain ⟨s4, hs4⟩ : ∃ s4 : Shared, s4 = { s3 with heap := pushCells (s3.heap.push { cls := .type "dict", data := .dict #[] }) scp.names } := ⟨_, rfl⟩
  rw [← hs4] at I4 ⊢
  have t4 : tn 0 s4.heap := T.keep _ _ _ t3 fun c _ o e => by rw [hs4]; exact pushCells_keeps _ _ _ _ (Heap.get?_push_of_some _ e)
  have foot : ∀ {sg' : St} {H' : Hp} {z : Shared}, Inv (X.blk s3 H3 scp ce fp) [] sg' H' z → (∀ c ∈ fp, H' c = none) → ∀ c ∈ fp, FpOk (X.blk s3 H3 scp ce fp) [] H' c := fun I' hn c hc =>
    ⟨hn c hc, (I'.ok.exf c hc).1, I'.ok.exfs c hc, .inl hc, fun x y e => (I'.ok.exf c hc).2 x y e, fun p hp => absurd (show p ∈ ([] : List (Addr × Obj)) ++ [] from hp) (by simp)⟩
  refine codeAny_compStart_dict ?loop (T.self X.A 0 _ _ _ t4 ?loop)
  refine compLoop_anyD (fun m z => ∃ i H', Inv (X.blk s3 H3 scp ce fp) [] (wipe sg (mine.map (·.2))) H' z ∧ tn i z.heap ∧ (∀ c ∈ fp, H' c = none) ∧ W i m H') ?_ m0 ⟨0, H3, I4, t4, fun c hc => (f3 c hc).1.1, w0⟩
  rintro m s5 ⟨i, H5, I5, t5, n5, w5⟩
  rcases turn i m H5 w5 with ⟨stop, qq⟩ | ⟨go, Nx, hNx, step⟩
  · refine thnF (T.done (X.blk s3 H3 scp ce fp) rfl rfl rfl calm i [] s5 _ H5 (fun _ _ => False) I5 (foot I5 n5) t5 stop) fun r s6 ⟨hr, I6⟩ => ?_
    subst hr
    have I7 : Inv X pn sg H5 s6 := I3.call' (ch := fp) I6.os I6.base I6.hok I6.bare fun c hc => ⟨(f3 c hc).1.2.2.2.1, (f3 c hc).1.2.1, (f3 c hc).1.2.2.2.2.1, (f3 c hc).1.2.2.2.2.2⟩
    have nC : H5 s3.heap.objs.size = none := by rw [← cL]; exact I6.free
    obtain ⟨mm, hn, _⟩ := I6.loc
    replace hn : s6.heap.Ns ce.locals mm := hn
    rw [cL] at hn
    exact after D s3.heap.objs.size s6 mm H5 I7 qq hn (I3.fpOk (Nat.le_refl _) nC)
  · refine thnF (T.item (X.blk s3 H3 scp ce fp) rfl rfl rfl calm i [] s5 _ H5 (fun _ _ => False) I5 (foot I5 n5) t5 go) fun r s6 ⟨u, hr, h6⟩ => ?_
    subst hr
    refine thnF h6 fun _ s7 ⟨x, H7, I7, r7, y7, t7, n7⟩ => ?_
    refine thnF (pg.run _ s7 _ H7 x u _ (I7.pinned (foot I7 n7) (T.obj _ _ t7)) r7 (step x H7 y7)) fun _ s8 ⟨sg8, H8, I8, w8, q8⟩ => ?_
    refine thnF (pt.run _ s8 sg8 H8 _ I8 q8) fun c s9 ⟨H9, I9, q9⟩ => ?_
    have fin : ∀ {z : Shared} {H' : Hp}, Inv (X.blk s3 H3 scp ce fp) ([] ++ pinsAt fp s7.heap) sg8 H' z → Nx H' → ∃ m', m' < m ∧ ∃ i H', Inv (X.blk s3 H3 scp ce fp) [] (wipe sg (mine.map (·.2))) H' z ∧ tn i z.heap ∧ (∀ c ∈ fp, H' c = none) ∧ W i m' H' := fun {z H'} I' nx => by
      obtain ⟨m', lt, w'⟩ := hNx H' nx
      have pin' : ∀ c ∈ fp, ∀ o, s7.heap.get? c = some o → z.heap.get? c = some o ∧ H' c = none := fun c hc o e => by
        have zz := I'.pin (c, o) (List.mem_append_right _ (List.mem_append_right _ (mem_pinsAt hc e)))
        exact ⟨zz.1, zz.2.1⟩
      have hl : (wipe sg (mine.map (·.2))).length = sg8.length := by rw [← w8, wipe_length]
      refine ⟨m', lt, i + 1, H', (I'.unpinned (pins := [])).weak hl (fun j v e => by rw [← w8] at e; exact (wipe_some e).1), T.keep _ _ _ t7 fun c hc o e => (pin' c hc o e).1, fun c hc => ?_, w'⟩
      obtain ⟨o, e, _⟩ := T.obj _ _ t7 c hc
      exact (pin' c hc o e).2
    cases c with
    | false =>
      rw [if_neg Bool.false_ne_true] at q9 ⊢
      exact fin I9 q9
    | true =>
      rw [if_pos rfl] at q9 ⊢
      refine thnF (pk.run _ s9 sg8 H9 _ I9 q9) fun z1 s10 ⟨yk, H10, I10, r10, q10⟩ => thnF (pv.run _ s10 sg8 H10 _ I10 q10) fun z2 s11 ⟨yv, H11, I11, r11, b, xs, k, ek, hD11, ks, hk, hd, fx, hz, nx⟩ => ?_
      subst ek
      exact nd_dictSet (X := X.blk s3 H3 scp ce fp) hu I11 hD11 ks hz hk hd r10 fx r11 fun s12 I12 => fin I12 nx
theorem ps_setNc {i : Nat} {y : Str} {py : Pos} {kx vx tg itx : Expr} {ifs : List Expr} {scp : Scope} {mine : List (Str × Nat)} {pos spos : Pos} {wi : TI} {g : TG} {tt : TT} {tk tv : TE} (hu : X.A.units + 64 < cLine) (calm : X.calm = true) (nd : X.N.Nodup) (hy : X.N[i]? = some y) (hyl : X.env.scope.names.lookup y = some .local)
    (sw : swapsWith (.DictComp kx vx [⟨tg, itx, ifs, 0⟩] scp pos) (some (.Name y py)) spos.line X.env = pure true) (hi : PI X tg itx wi) (bo : BlkOk X.N X.env.scope scp mine)
    (pg0 : ∀ (z : Shared) (H : Hp) (C : Addr) (cl : List (Str × Addr)) (fp : List Addr), PG (X.blk z H scp (compEnvC scp cl C X.env) fp) tg g) (pt0 : ∀ (z : Shared) (H : Hp) (C : Addr) (cl : List (Str × Addr)) (fp : List Addr), PTs (X.blk z H scp (compEnvC scp cl C X.env) fp) ifs tt)
    (pk0 : ∀ (z : Shared) (H : Hp) (C : Addr) (cl : List (Str × Addr)) (fp : List Addr), PE (X.blk z H scp (compEnvC scp cl C X.env) fp) kx tk)
    (pv0 : ∀ (z : Shared) (H : Hp) (C : Addr) (cl : List (Str × Addr)) (fp : List Addr), PE (X.blk z H scp (compEnvC scp cl C X.env) fp) vx tv) (fs : ∀ x, foldedSetIterable itx X.env x = pure x := by intro _; rfl) :
    PS X (.Assign [.Name y py] (.DictComp kx vx [⟨tg, itx, ifs, 0⟩] scp pos) spos) (tAsg (tNc X.w wi g tt tk tv (mine.map (·.2))) (gName i)) := by
  refine ⟨fun pn st sg Hh D Iv hw => ?_⟩
  rw [exec_Assign_Name_used _ _ _ _ sw]
  refine wpAny_bind (wpAny_standAt (wpAny_bind ?_))
  show wpAny _ X.A (do let _ ← comprehension (.DictComp kx vx [⟨tg, itx, ifs, 0⟩] scp pos) scp X.env (firstIterPos [⟨tg, itx, ifs, 0⟩] pos) newDict false (eval itx X.env) (some (assign (.Name y py) X.env))) _ _ st
  refine wpAny_bind (thn (nc_core (Qf := fun _ z => SP X pn D .next z) (Qq := fun x H1 => gName i x sg H1 D.nx) hu calm nd Iv hi bo pg0 pt0 pk0 pv0 fs hw fun L C z m H' I' q hn f => ?_) fun _ z hq => wpAny_pure (wpAny_pure hq))
  show wpAny _ _ (assign (.Name y py) X.env (.ref L)) _ _ _
  refine wpAny_assign_Name (store_ok2 (v := V.ref L) I' nd hy (.inl hyl) rfl (fun s2 I2 ⟨a, sb, ha⟩ => ?_) (.inr hyl))
  obtain ⟨f0, f1, f2, f3, f4, f5⟩ := f
  have off : C ≠ a := ha.elim (fun z => by rw [z]; exact f1) fun z e => f4 y a z e.symm
  exact ⟨m, hn.sameBut sb off, fun h3 sb3 => ⟨_, H', I2.turned (t' := s2.toks) (fun c o hb e => (sb3.2 c hb).trans e) f0 f1 f3 f4 f5, q⟩⟩
theorem pe_nc {kx vx tg itx : Expr} {ifs : List Expr} {scp : Scope} {mine : List (Str × Nat)} {pos : Pos} {wi : TI} {g : TG} {tt : TT} {tk tv : TE} (hu : X.A.units + 64 < cLine) (calm : X.calm = true) (nd : X.N.Nodup) (hi : PI X tg itx wi) (bo : BlkOk X.N X.env.scope scp mine)
    (pg0 : ∀ (z : Shared) (H : Hp) (C : Addr) (cl : List (Str × Addr)) (fp : List Addr), PG (X.blk z H scp (compEnvC scp cl C X.env) fp) tg g) (pt0 : ∀ (z : Shared) (H : Hp) (C : Addr) (cl : List (Str × Addr)) (fp : List Addr), PTs (X.blk z H scp (compEnvC scp cl C X.env) fp) ifs tt)
    (pk0 : ∀ (z : Shared) (H : Hp) (C : Addr) (cl : List (Str × Addr)) (fp : List Addr), PE (X.blk z H scp (compEnvC scp cl C X.env) fp) kx tk)
    (pv0 : ∀ (z : Shared) (H : Hp) (C : Addr) (cl : List (Str × Addr)) (fp : List Addr), PE (X.blk z H scp (compEnvC scp cl C X.env) fp) vx tv) (fs : ∀ x, foldedSetIterable itx X.env x = pure x := by intro _; rfl) :
    PE X (.DictComp kx vx [⟨tg, itx, ifs, 0⟩] scp pos) (tNc X.w wi g tt tk tv (mine.map (·.2))) := by
  refine ⟨fun pn st sg Hh Qq Iv hw => ?_⟩
  rw [arm_eval_DictComp]
  refine nc_core hu calm nd Iv hi bo pg0 pt0 pk0 pv0 fs hw fun D C z m H' I' q hn f => ⟨m, hn, fun h'' sb => ?_⟩
  exact ⟨.ref D, H', I'.turned (t' := z.toks) (fun c o hb e => (sb.2 c hb).trans e) f.1 f.2.1 f.2.2.2.1 f.2.2.2.2.1 f.2.2.2.2.2, rfl, q⟩
end
/-- such a comprehension over a walk -/
theorem nc_it {w : World} {J : It} {n : Nat} {G : Hp → Prop} {Y : Nat → Hp → V → Hp → Prop} (wk : Walk J n G Y) {g : TG} {tt : TT} {tk tv : TE} {vs : List Nat} {sg : St} {H1 : Hp} {D : Addr} {Qd : Hp → Prop} (Pv : Nat → Hp → Prop) (h0 : Pv 0 (upd H1 D (NO w D []))) (hG : ∀ i H, i ≤ n → Pv i H → G H)
    (hs : ∀ i x H H', i < n → Pv i H → Y i H x H' → g x (wipe sg vs) H' fun s2 H2 => wipe s2 vs = wipe sg vs ∧ tt s2 H2 fun c H3 =>
      if c = true then tk s2 H3 fun y H4 => tv s2 H4 fun z H5 => ∃ (b : Addr) (xs : List NE) (k : NestedKey), y = .ref b ∧ H5 D = some (NO w D xs) ∧ NKeys H5 xs ∧ NK H5 k (.ref b) ∧ k.depth ≤ 8 ∧ Fix z ∧ xs.length < sizeLine ∧ Pv (i + 1) (upd H5 D (NO w D (putN xs k b z))) else Pv (i + 1) H3) (hd : ∀ H, Pv n H → Qd H) :
    ∃ W : Nat → Nat → Hp → Prop, (∃ m, W 0 m (upd H1 D (NO w D []))) ∧ ∀ i m H, W i m H →
      (J.stop i H ∧ Qd H) ∨ (J.go i H ∧ ∃ Nx : Hp → Prop, (∀ H', Nx H' → ∃ m', m' < m ∧ W (i + 1) m' H') ∧ ∀ x H', J.yld i H x H' → g x (wipe sg vs) H' fun s2 H2 => wipe s2 vs = wipe sg vs ∧ tt s2 H2 fun c H3 =>
        if c = true then tk s2 H3 fun y H4 => tv s2 H4 fun z H5 => ∃ (b : Addr) (xs : List NE) (k : NestedKey), y = .ref b ∧ H5 D = some (NO w D xs) ∧ NKeys H5 xs ∧ NK H5 k (.ref b) ∧ k.depth ≤ 8 ∧ Fix z ∧ xs.length < sizeLine ∧ Nx (upd H5 D (NO w D (putN xs k b z))) else Nx H3) := by
  refine ⟨fun i m H => m = n - i ∧ i ≤ n ∧ Pv i H, ⟨n, by simp, Nat.zero_le _, h0⟩, ?_⟩
  rintro i m H ⟨rfl, hi, p⟩
  by_cases hlt : i < n
  · exact .inr ⟨wk.goes i H hlt (hG i H hi p), Pv (i + 1), fun H' p' => ⟨n - (i + 1), by omega, rfl, hlt, p'⟩, fun x H' y => hs i x H H' hlt p (wk.yields i H x H' hlt (hG i H hi p) y)⟩
  · obtain rfl : i = n := by omega
    exact .inl ⟨wk.stops H (hG i H hi p), hd H p⟩
/-! o.m(e, .., k = v, ..) -/
def tMethK (C : Addr) (m : Str) (n l : Nat) (sp : Sp) (gV : List V → List V → List V) (E : XK) (ta : TE) (t tk : TA) : TE := fun sg Hh Qq => ta sg Hh fun x H1 => ∃ a dx fs, x = .ref a ∧ H1 a = some (.ins C dx fs) ∧ fs.lookup m = none ∧
  t sg H1 fun vs H2 => tk sg H2 fun zs H3 => vs.length + 1 = n ∧ zs.length = l ∧ sp (gV (x :: vs) zs) H3 Qq E
theorem pe_methK {X : Cx} {CX : CXT} {k n : Nat} {f C : Addr} {fd : FuncData} {ps ks : List Str} {sp : Sp} {E : XK} {m : Str} {o e : Expr} {es : List Expr} {kws : List Keyword} {pos apos : Pos} {ta : TE} {t tk : TA} {g : List Value → List Value → List Value} {gV : List V → List V → List V} {pl : Sem Bool} (he : PE X o ta) (c : Cls X.K C) (hm : Meth X.K C m f)
    (F : FnOk X.prog X.w X.K X.mg X.base CX k f fd ps sp) (hr : Room k X.A) (hb : KBn X.K fd ps n ks g gV) (hx : Passes CX X E) (ha : PA X (e :: es) t) (hkw : PK X kws tk)
    (hall : (backToKw pos (keywordEach kws X.env)).all (·.1.isSome) = true := by rfl) (hks : (backToKw pos (keywordEach kws X.env)).filterMap (·.1) = ks := by rfl) (hst : starEach (e :: es) X.env = (false, eval e X.env) :: starEach es X.env := by rfl)
    (hpl : ((backTo pos (starEach (e :: es) X.env)).any (·.1) || (backToKw pos (keywordEach kws X.env)).any (·.1.isNone)) = false := by rfl)
    (ht : eval (.Call (.Attribute o m apos) (e :: es) kws pos) X.env = (do
      let ov ← eval o X.env
      standAt apos.atName
      let (f, first) ← holding [ov] (getMethod ov m pl)
      callWith pos f first (backTo pos (starEach (e :: es) X.env)) (backToKw pos (keywordEach kws X.env))) := by rfl) :
    PE X (.Call (.Attribute o m apos) (e :: es) kws pos) (tMethK C m n ks.length sp gV E ta t tk) := by
  refine ⟨fun pn st sg Hh Qq Iv hw => ?_⟩
  refine PySem.W.methodCall_KW (pl := pl) (thn (he.run pn st sg Hh _ Iv hw) fun u s1 ⟨x, H1, I1, rx, a, dx, fs, ex, ea, l, q⟩ => ?_) ht
  subst ex
  obtain rfl : u = Value.ref a := rx
  refine getmeth_ok I1 ea c hm l ?_
  refine PySem.W.callWith_KW (first := [.ref a]) (h₀ := X.base) I1.ok.mod.kin hm.kp hall (thn (ha.run pos pn s1 sg H1 _ I1 q) fun us s2 ⟨vs, H2, I2, r, q2⟩ => ?_) hpl hst
  refine thn (hkw.run pos pn s2 sg H2 _ I2 q2) fun ws s3 ⟨zs, H3, I3, rz, l1, l2, q3⟩ => ⟨I3.kIn, ?_⟩
  rw [hks]
  exact run_fnN (us := .ref a :: us) (vs := .ref a :: vs) F hr hb hx I3 (.cons rfl r) rz (by rw [List.length_cons]; exact l1) l2 q3
end L2
/-! a def with one keyword-only parameter that has a default: the calls without it -/
namespace L2
open PySem PySem.Spec PyProof.Rows
theorem kwd_one {K : PySem.W.Frag} {x qual key : Str} {sd : Stmt} {f D T : Addr} {oc doc pm cdv ct : Value} {od an : Option Addr} {osl : Array (Option Value)} {ps : List Str} {n : Nat}
    (l : K.lookup f = some ⟨oc, od, .func (PySem.W.fnOf x qual (defArgs sd) (defBody sd) (defScope sd) .none (.ref D) doc pm an cdv ct), osl⟩) (kw : PySem.W.nsIn K D key = some (some (.ref T))) (hn : n + 1 = ps.length)
    (h : ∀ (us : List Value) (v : Value), us.length = n → KwChain D [(key, v)] (bindArgs (PySem.W.fnOf x qual (defArgs sd) (defBody sd) (defScope sd) .none (.ref D) doc pm an cdv ct) ⟨us, []⟩) (ps.zip (us ++ [v]))) :
    Binds K (PySem.W.fnOf x qual (defArgs sd) (defBody sd) (defScope sd) .none (.ref D) doc pm an cdv ct) ps [.ref T] := by
  intro s us X hlen
  have lu : us.length = n := by
    rw [List.length_append, List.length_singleton] at hlen
    omega
  refine BindsTo.of_looks fun M => KwChain.looks X (fun q m => ?_) (h us (.ref T) lu)
  rw [List.mem_singleton.mp m]
  exact kw
end L2
namespace L2
open PySem PySem.Spec PyProof.Rows
/-- a method with a default, called in a try without it -/
def tMethTd (C : Addr) (m : Str) (sp : Sp) (dvs : List V) (E : St → XK) (ta : TE) (t : TA) : TE := fun sg Hh Qq =>
  ta sg Hh fun x H1 => ∃ a dx fs, x = .ref a ∧ H1 a = some (.ins C dx fs) ∧ fs.lookup m = none ∧ t sg H1 fun vs H2 => sp (x :: (vs ++ dvs)) H2 Qq (E sg)
theorem pe_methTd {X : Cx} {CX : CXT} {k : Nat} {f C : Addr} {fd : FuncData} {ps : List Str} {sp : Sp} {E : St → XK} {m : Str} {pos apos : Pos} {e o : Expr} {es : List Expr} {ta : TE} {t : TA} {dvs : List V} {ds : List Value} {pl : Sem Bool} (he : PE X o ta) (c : Cls X.K C) (hm : Meth X.K C m f)
    (F : FnOk X.prog X.w X.K X.mg X.base CX k f fd ps sp) (hr : Room k X.A) (hb : Binds X.K fd ps ds) (hd : Vals dvs ds) (hx : ∀ sg, PassesAt CX X sg (E sg)) (ha : PA X (e :: es) t)
    (hst : starEach (e :: es) X.env = (false, eval e X.env) :: starEach es X.env := by rfl) (hpl : (backTo pos (starEach es X.env)).any (·.1) = false := by rfl)
    (ht : eval (.Call (.Attribute o m apos) (e :: es) [] pos) X.env = (do
        let ov ← eval o X.env
        standAt apos.atName
        let (g, first) ← holding [ov] (getMethod ov m pl)
        callWith pos g first (backTo pos (starEach (e :: es) X.env)) (backToKw pos (keywordEach [] X.env))) := by rfl) :
    PE X (.Call (.Attribute o m apos) (e :: es) [] pos) (tMethTd C m sp dvs E ta t) := by
  refine ⟨fun pn st sg Hh Qq Iv hw => PySem.W.methodCall_KW (pl := pl) (thn (he.run pn st sg Hh _ Iv hw) ?_) ht⟩
  rintro u s1 ⟨x, H1, I1, rx, a, dx, fs, rfl, ea, l, q⟩
  cases (show u = Value.ref a from rx)
  refine getmeth_ok I1 ea c hm l (PySem.W.callWith_K (first := [.ref a]) (h₀ := X.base) Iv.ok.mod.kin hm.kp ?_ hst hpl)
  refine thn (ha.run pos pn s1 sg H1 _ I1 q) fun us s2 ⟨vs, H2, I2, r, q2⟩ => ⟨I2.kIn, ?_⟩
  exact run_fnSD (us := .ref a :: us) (vs := .ref a :: vs) F hr hb hd (hx sg) I2 (.cons rfl r) q2
end L2
namespace PP
open PySem L2
def top (i : Nat) : Stmt := (PySem.Challenge.pw_paritypool_k26_put_and_get).main.body.getD i (.Pass ⟨0, 0, 0, 0⟩)
abbrev s_is_present : Stmt := top 9
abbrev s_sector_at : Stmt := top 10
abbrev s_inverse : Stmt := top 23
abbrev s_weight : Stmt := top 24
abbrev s_weights : Stmt := top 25
abbrev s_check_lengths : Stmt := top 27
abbrev s_piece_at : Stmt := top 28
abbrev s_present_numbers : Stmt := top 29
abbrev s_recover : Stmt := top 30
abbrev s_check_words : Stmt := top 36
abbrev s_is_place : Stmt := top 37
abbrev s_unseal : Stmt := top 38
abbrev s_is_whole : Stmt := top 39
abbrev s_choose_disks : Stmt := top 41
abbrev s_piece_size : Stmt := top 42
abbrev s_good_piece : Stmt := top 43
abbrev s_read_stripe : Stmt := top 44
abbrev s_law_pot : Stmt := top 48
abbrev s_law_next : Stmt := top 49
abbrev s_law_is_int : Stmt := top 50
abbrev s_law_word : Stmt := top 51
abbrev s_law_words : Stmt := top 52
abbrev s_law_is_pointer : Stmt := top 53
abbrev s_law_refused : Stmt := top 54
abbrev s_law_counts_right : Stmt := top 55
abbrev s_law : Stmt := top 56
abbrev s_Space_init : Stmt := inClass (top 21) 0
abbrev s_Space_take : Stmt := inClass (top 21) 1
abbrev s_Space_give : Stmt := inClass (top 21) 3
abbrev s_Space_free_count : Stmt := inClass (top 21) 6
abbrev s_Store_init : Stmt := inClass (top 46) 0
abbrev s_Store_look : Stmt := inClass (top 46) 1
abbrev s_Store_put : Stmt := inClass (top 46) 3
abbrev s_Store_get : Stmt := inClass (top 46) 4
abbrev s_Store_trim : Stmt := inClass (top 46) 6
abbrev s_Store_forget : Stmt := inClass (top 46) 7
abbrev s_Store_free_counts : Stmt := inClass (top 46) 11
/-! small rules of one's own -/
section
variable {X : Cx}
theorem pe_const {x : Str} {v : V} {pos : Pos} (h : ∃ u, X.mg x = some u ∧ RelV v u) (hg : Gl X x := by rfl) (hd : (x == ("__debug__" : Str)) = false := by decide) : PE X (.Name x pos) (tC v) := by
  obtain ⟨u, h1, h2⟩ := h
  exact pe_glob hg h1 h2 hd
/-- isinstance of a caught error, whatever class the clause has caught -/
theorem call_isE' {a : Addr} {cls : Value} {d : Option Addr} {oe : Obj} {pn : List (Addr × Obj)} (hz : Zc cls d oe) (hf : ∃ vs, oe.data = .fields vs) :
    CallR (X.suite a ((a, oe) :: pn)) (.builtin "isinstance") (fun xs H Q => ∃ D, cls = .ref D ∧ d = none ∧ ExcC X.K D ∧ rIsE X.K D a xs H Q) := by
  intro pins s σ H xs us Q I r h
  obtain ⟨D, rfl, rfl, C, h⟩ := h
  exact call_isE C hz hf pins s σ H xs us Q I r h
end
/-- all but p is as it was, what is free too -/
def Only (p : Addr) (H H' : Hp) : Prop := ∀ b, b ≠ p → H' b = H b
theorem Only.upd {p : Addr} {H : Hp} {o : HO} : Only p H (upd H p o) := fun _ h => upd_ne h
theorem Only.refl {p : Addr} {H : Hp} : Only p H H := fun _ _ => rfl
theorem Only.trans {p : Addr} {H H1 H2 : Hp} (x : Only p H H1) (y : Only p H1 H2) : Only p H H2 := fun b h => (y b h).trans (x b h)
/-! which class is asked of a caught error -/
theorem kit_self {K : PySem.W.Frag} {c : Value} : PySem.W.kitOne K c c = some true := by
  unfold PySem.W.kitOne
  rw [if_pos (by simp)]
theorem kit_type {K : PySem.W.Frag} {D : Addr} {n : String} {b : Bool} (m : PySem.W.kitMeta n = true) (h : PySem.W.subIn K (.ref D) (.type n) = some b) : PySem.W.kitOne K (.ref D) (.type n) = some b := by
  unfold PySem.W.kitOne
  rw [if_neg (by intro z; cases (beq_iff_eq.mp z))]
  show (if PySem.W.kitMeta n = true then PySem.W.subIn K (.ref D) (.type n) else none) = some b
  rw [if_pos m]
  exact h
theorem kit_cls_of {K : PySem.W.Frag} {C : Addr} {t : Value} {b : Bool} (hd : PySem.W.hasDictIn K C = true) (ht : PySem.W.typeIn K (.ref C) = some (.type "type")) (h : PySem.W.subIn K t (.ref C) = some b) : PySem.W.kitCls K t (.ref C) = some b := by
  obtain ⟨cd, hc, _⟩ := PySem.W.any_some hd
  show (if ((PySem.W.clsIn K C).isSome && PySem.W.typeIn K (.ref C) == some (.type "type")) = true then PySem.W.subIn K t (.ref C) else none) = some b
  rw [if_pos (by rw [hc, ht]; rfl)]
  exact h
theorem kit_yes {K : PySem.W.Frag} {C D : Addr} (hd : PySem.W.hasDictIn K C = true) (ht : PySem.W.typeIn K (.ref C) = some (.type "type")) (h : PySem.W.subIn K (.ref D) (.ref C) = some true) : PySem.W.kitOne K (.ref D) (.ref C) = some true := by
  unfold PySem.W.kitOne
  split
  · rfl
  · exact kit_cls_of hd ht h
theorem kit_no {K : PySem.W.Frag} {C D : Addr} (hd : PySem.W.hasDictIn K C = true) (ht : PySem.W.typeIn K (.ref C) = some (.type "type")) (h : PySem.W.subIn K (.ref D) (.ref C) = some false) (hs : PySem.W.subIn K (.ref D) (.ref D) = some true) : PySem.W.kitOne K (.ref D) (.ref C) = some false := by
  unfold PySem.W.kitOne
  split
  · rename_i z
    have e : D = C := by
      have := beq_iff_eq.mp z
      injection this
    rw [← e] at h
    rw [h] at hs
    cases hs
  · exact kit_cls_of hd ht h
/-- len of a list or tuple; list of one -/
abbrev rLenS (K : PySem.W.Frag) := Evl.rLenS K
abbrev rListOf (K : PySem.W.Frag) := Evl.rListS K
/-! the prime, the inverse -/
theorem no_div (d : Nat) (h1 : 2 ≤ d) (h2 : d ≤ 255) : ¬ d ∣ 65521 := by
  intro h
  have e : 65521 % d = 0 := Nat.mod_eq_zero_of_dvd h
  have key : ∀ d : Fin 256, 2 ≤ d.val → ¬ 65521 % d.val = 0 := by decide +kernel
  exact key ⟨d, by omega⟩ h1 e
theorem prime_q (d : Nat) (h : d ∣ 65521) : d = 1 ∨ d = 65521 := by
  obtain ⟨e, he⟩ := h
  by_cases a : d ≤ 255
  · by_cases b : 2 ≤ d
    · exact absurd ⟨e, he⟩ (no_div d b a)
    · have : d ≠ 0 := by rintro rfl; omega
      omega
  · by_cases b : 2 ≤ e
    · by_cases c : e ≤ 255
      · exact absurd ⟨d, by rw [Nat.mul_comm]; exact he⟩ (no_div e b c)
      · have h1 : 256 * 256 ≤ d * e := Nat.mul_le_mul (by omega) (by omega)
        omega
    · have : e ≠ 0 := by rintro rfl; omega
      have e1 : e = 1 := by omega
      subst e1
      omega
theorem gcd_q (x : Int) (h : x % 65521 ≠ 0) : Int.gcd 65521 (x % 65521) = 1 := by
  have d1 : (Int.gcd 65521 (x % 65521) : Nat) ∣ 65521 := by
    have := Int.gcd_dvd_left (65521 : Int) (x % 65521)
    have h2 : ((Int.gcd 65521 (x % 65521) : Nat) : Int) ∣ ((65521 : Nat) : Int) := this
    exact Int.natCast_dvd_natCast.mp h2
  rcases prime_q _ d1 with e | e
  · exact e
  · exfalso
    have d2 := Int.gcd_dvd_right (65521 : Int) (x % 65521)
    rw [e] at d2
    obtain ⟨c, hc⟩ := d2
    have e2 : ((65521 : Nat) : Int) = 65521 := rfl
    rw [e2] at hc
    have p1 := Int.emod_nonneg x (show (65521 : Int) ≠ 0 by decide)
    have p2 := Int.emod_lt_of_pos x (show (0 : Int) < 65521 by decide)
    omega
theorem gcd_turn {n m : Int} (h : Int.gcd n m = 1) : Int.gcd m (n - n / m * m) = 1 := by
  rw [Int.gcd_sub_mul_right_right, Int.gcd_comm]
  exact h
/-- the inverse of a word, by what it is -/
noncomputable def invP (x : Int) : Int := open Classical in if h : ∃ b : Int, 0 ≤ b ∧ b < 65521 ∧ x * b % 65521 = 1 then h.choose else 0
theorem inv_unique {x b c : Int} (hb : 0 ≤ b ∧ b < 65521 ∧ x * b % 65521 = 1) (hc : 0 ≤ c ∧ c < 65521 ∧ x * c % 65521 = 1) : b = c := by
  have e1 : b * (x * c) % 65521 = b := by
    rw [Int.mul_emod, hc.2.2, Int.mul_one, Int.emod_emod_of_dvd _ (Int.dvd_refl _), Int.emod_eq_of_lt hb.1 hb.2.1]
  have e2 : c * (x * b) % 65521 = c := by
    rw [Int.mul_emod, hb.2.2, Int.mul_one, Int.emod_emod_of_dvd _ (Int.dvd_refl _), Int.emod_eq_of_lt hc.1 hc.2.1]
  have e3 : b * (x * c) = c * (x * b) := by grind
  rw [← e1, e3, e2]
theorem invP_eq {x b : Int} (h : 0 ≤ b ∧ b < 65521 ∧ x * b % 65521 = 1) : invP x = b := by
  have hx : ∃ b : Int, 0 ≤ b ∧ b < 65521 ∧ x * b % 65521 = 1 := ⟨b, h⟩
  unfold invP
  rw [dif_pos hx]
  exact inv_unique hx.choose_spec h
/-- one turn of Euclid's algorithm -/
theorem euclid_turn {x n m f g : Int} (h1 : (x * f - n) % 65521 = 0) (h2 : (x * g - m) % 65521 = 0) : (x * (f - n / m * g) - (n - n / m * m)) % 65521 = 0 := by
  have e : x * (f - n / m * g) - (n - n / m * m) = (x * f - n) - n / m * (x * g - m) := by grind
  rw [e, Int.sub_emod, h1, Int.mul_emod, h2, Int.mul_zero]
  rfl
theorem euclid_end {x f : Int} (h : (x * f - 1) % 65521 = 0) : 0 ≤ f % 65521 ∧ f % 65521 < 65521 ∧ x * (f % 65521) % 65521 = 1 := by
  refine ⟨Int.emod_nonneg _ (by decide), Int.emod_lt_of_pos _ (by decide), ?_⟩
  have e : x * (f % 65521) % 65521 = x * f % 65521 := by rw [Int.mul_emod, Int.emod_emod_of_dvd _ (Int.dvd_refl _), ← Int.mul_emod]
  rw [e]
  omega
/-- the inverse exists (Euclid, run in the mathematics) -/
theorem inv_ex : ∀ (k : Nat) (x n m f g : Int), m.toNat ≤ k → 0 ≤ m → 0 < n → (x * f - n) % 65521 = 0 → (x * g - m) % 65521 = 0 → Int.gcd n m = 1 → ∃ b : Int, 0 ≤ b ∧ b < 65521 ∧ x * b % 65521 = 1
  | k, x, n, m, f, g, hk, hm, hn, h1, h2, hg => by
    by_cases e : m = 0
    · subst e
      have : n = 1 := by
        rw [Int.gcd_zero_right] at hg
        omega
      subst this
      exact ⟨_, euclid_end h1⟩
    · have hm' : 0 < m := by omega
      match k, hk with
      | 0, hk => omega
      | k + 1, hk =>
        have r : n - n / m * m = n % m := by
          have := Int.mul_ediv_add_emod n m
          rw [Int.mul_comm] at this
          omega
        have r1 := Int.emod_nonneg n (show m ≠ 0 by omega)
        have r2 := Int.emod_lt_of_pos n hm'
        exact inv_ex k x m (n - n / m * m) g (f - n / m * g) (by omega) (by omega) hm' h2 (euclid_turn h1 h2) (gcd_turn hg)
theorem invP_spec {x : Int} (h : x % 65521 ≠ 0) : 0 ≤ invP x ∧ invP x < 65521 ∧ x * invP x % 65521 = 1 := by
  have p1 := Int.emod_nonneg x (show (65521 : Int) ≠ 0 by decide)
  obtain ⟨b, hb⟩ := inv_ex (x % 65521).toNat x 65521 (x % 65521) 0 1 (Nat.le_refl _) p1 (by decide) (by omega) (by omega) (gcd_q x h)
  rw [invP_eq hb]
  exact hb
/-! the field of words -/
def Zp : Type := Fin 65521
instance : Lean.Grind.CommRing Zp := inferInstanceAs (Lean.Grind.CommRing (Fin 65521))
instance : Lean.Grind.IsCharP Zp 65521 := inferInstanceAs (Lean.Grind.IsCharP (Fin 65521) 65521)
instance : DecidableEq Zp := inferInstanceAs (DecidableEq (Fin 65521))
def z (n : Int) : Zp := Lean.Grind.Ring.intCast.intCast n
theorem z_eq {a b : Int} : z a = z b ↔ a % 65521 = b % 65521 := Lean.Grind.IsCharP.intCast_ext_iff (α := Zp) 65521
theorem z_mod (a : Int) : z (a % 65521) = z a := z_eq.mpr (Int.emod_emod_of_dvd _ (Int.dvd_refl _))
theorem z_add (a b : Int) : z (a + b) = z a + z b := Lean.Grind.Ring.intCast_add a b
theorem z_sub (a b : Int) : z (a - b) = z a - z b := Lean.Grind.Ring.intCast_sub a b
theorem z_mul (a b : Int) : z (a * b) = z a * z b := Lean.Grind.Ring.intCast_mul a b
theorem z_neg (a : Int) : z (-a) = -z a := Lean.Grind.Ring.intCast_neg a
theorem z_zero : z 0 = 0 := Lean.Grind.Ring.intCast_zero
theorem z_one : z 1 = 1 := Lean.Grind.Ring.intCast_one
theorem z_z (a : Int) : z a = 0 ↔ a % 65521 = 0 := by
  rw [← z_zero, z_eq]
  rfl
theorem z_inj {a b : Int} (ha : 0 ≤ a) (ha' : a < 65521) (hb : 0 ≤ b) (hb' : b < 65521) (h : z a = z b) : a = b := by
  have := z_eq.mp h
  rw [Int.emod_eq_of_lt ha ha', Int.emod_eq_of_lt hb hb'] at this
  exact this
theorem z_mod_eq {a b : Int} (h : z a = z b) : a % 65521 = b % 65521 := z_eq.mp h
theorem z_surj (x : Zp) : ∃ n : Int, 0 ≤ n ∧ n < 65521 ∧ z n = x := by
  refine ⟨((show Fin 65521 from x).val : Int), by omega, by omega, ?_⟩
  show (Fin.intCast ((show Fin 65521 from x).val : Int) : Fin 65521) = x
  unfold Fin.intCast
  rw [if_pos (by omega), Int.natAbs_natCast]
  exact Fin.ofNat_val_eq_self _
theorem z_invP {n : Int} (h : z n ≠ 0) : z n * z (invP n) = 1 := by
  have h' : n % 65521 ≠ 0 := fun e => h ((z_z n).mpr e)
  obtain ⟨b0, b1, b2⟩ := invP_spec h'
  rw [← z_mul, ← z_one, z_eq]
  exact b2
theorem zp_inv {a : Zp} (h : a ≠ 0) : ∃ b : Zp, a * b = 1 := by
  obtain ⟨n, _, _, rfl⟩ := z_surj a
  exact ⟨_, z_invP h⟩
theorem zp_div {a b : Zp} (h : a * b = 0) : a = 0 ∨ b = 0 := by
  by_cases ha : a = 0
  · exact .inl ha
  · obtain ⟨c, hc⟩ := zp_inv ha
    right
    have : b = c * (a * b) := by grind
    rw [this, h]
    grind
theorem zp_01 : (1 : Zp) ≠ 0 := by
  rw [← z_one, ← z_zero]
  intro h
  have := z_eq.mp h
  omega
theorem zp_mul_ne {a b : Zp} (ha : a ≠ 0) (hb : b ≠ 0) : a * b ≠ 0 := fun h => (zp_div h).elim ha hb
/-! ### functions that are polynomials with n coefficients -/
def Pol : Nat → (Zp → Zp) → Prop
  | 0, f => ∀ x, f x = 0
  | n + 1, f => ∃ (c : Zp) (g : Zp → Zp), Pol n g ∧ ∀ x, f x = c + x * g x
theorem Pol.ext : ∀ {n : Nat} {f g : Zp → Zp}, Pol n f → (∀ x, g x = f x) → Pol n g
  | 0, _, _, h, e => fun x => (e x).trans (h x)
  | _ + 1, _, _, ⟨c, g, h, q⟩, e => ⟨c, g, h, fun x => (e x).trans (q x)⟩
theorem pol_nil : ∀ n : Nat, Pol n fun _ => 0
  | 0 => fun _ => rfl
  | n + 1 => ⟨0, fun _ => 0, pol_nil n, fun x => by grind⟩
theorem Pol.up : ∀ {n : Nat} {f : Zp → Zp}, Pol n f → Pol (n + 1) f
  | 0, f, h => ⟨0, fun _ => 0, fun _ => rfl, fun x => by rw [h x]; grind⟩
  | n + 1, _, ⟨c, g, h, q⟩ => ⟨c, g, h.up, q⟩
theorem Pol.mono {n m : Nat} {f : Zp → Zp} (h : Pol n f) (l : n ≤ m) : Pol m f := by
  induction l with
  | refl => exact h
  | step _ ih => exact ih.up
theorem Pol.add : ∀ {n : Nat} {f g : Zp → Zp}, Pol n f → Pol n g → Pol n fun x => f x + g x
  | 0, f, g, h, k => fun x => by show f x + g x = 0; rw [h x, k x]; grind
  | n + 1, f, g, ⟨c, u, h, p⟩, ⟨d, v, k, q⟩ => ⟨c + d, fun x => u x + v x, Pol.add h k, fun x => by show f x + g x = _; rw [p x, q x]; grind⟩
theorem Pol.smul : ∀ {n : Nat} {f : Zp → Zp} (a : Zp), Pol n f → Pol n fun x => f x * a
  | 0, f, a, h => fun x => by show f x * a = 0; rw [h x]; grind
  | n + 1, f, a, ⟨c, u, h, p⟩ => ⟨c * a, fun x => u x * a, Pol.smul a h, fun x => by show f x * a = _; rw [p x]; grind⟩
theorem Pol.const (c : Zp) : Pol 1 fun _ => c := ⟨c, fun _ => 0, fun _ => rfl, fun x => by grind⟩
theorem Pol.xmul {n : Nat} {f : Zp → Zp} (h : Pol n f) : Pol (n + 1) fun x => x * f x := ⟨0, f, h, fun x => by grind⟩
theorem Pol.lin {n : Nat} {f : Zp → Zp} (a : Zp) (h : Pol n f) : Pol (n + 1) fun x => (x - a) * f x :=
  (h.xmul.add (h.up.smul (-a))).ext fun x => by grind
theorem Pol.sub {n : Nat} {f g : Zp → Zp} (h : Pol n f) (k : Pol n g) : Pol n fun x => f x - g x :=
  (h.add (k.smul (-1))).ext fun x => by grind
/-- a polynomial less its value at a is a multiple of x - a -/
theorem Pol.at : ∀ {n : Nat} {f : Zp → Zp} (a : Zp), Pol (n + 1) f → ∃ g, Pol n g ∧ ∀ x, f x = f a + (x - a) * g x
  | 0, f, a, ⟨c, g, h, q⟩ => ⟨fun _ => 0, fun _ => rfl, fun x => by rw [q x, q a, h x, h a]; grind⟩
  | n + 1, f, a, ⟨c, g, h, q⟩ => by
    obtain ⟨k, hk, e⟩ := Pol.at a h
    refine ⟨fun x => g a + x * k x, ⟨g a, k, hk, fun _ => rfl⟩, fun x => ?_⟩
    have e1 := e x
    rw [q x, q a]
    grind
/-- as many zeros as coefficients: it is zero -/
theorem Pol.roots : ∀ {n : Nat} {f : Zp → Zp} (xs : List Zp), Pol n f → xs.Nodup → n ≤ xs.length → (∀ a ∈ xs, f a = 0) → ∀ x, f x = 0
  | 0, _, _, h, _, _, _ => h
  | n + 1, f, [], _, _, hl, _ => absurd hl (by simp)
  | n + 1, f, a :: r, h, hn, hl, hz => by
    obtain ⟨g, hg, e⟩ := Pol.at a h
    have ha : f a = 0 := hz a (by simp)
    have hn' := List.nodup_cons.mp hn
    have g0 : ∀ x, g x = 0 := Pol.roots r hg hn'.2 (by simpa using hl) fun b hb => by
      have hb0 := hz b (List.mem_cons_of_mem _ hb)
      rw [e b, ha] at hb0
      have : (b - a) * g b = 0 := by grind
      rcases zp_div this with q | q
      · exfalso
        have : b = a := by grind
        exact hn'.1 (this ▸ hb)
      · exact q
    intro x
    rw [e x, ha, g0 x]
    grind
/-! ### products of differences -/
def prodZ : List Int → Zp → Zp
  | [], _ => 1
  | o :: os, x => (x - z o) * prodZ os x
theorem prodZ_pol : ∀ os : List Int, Pol (os.length + 1) (prodZ os)
  | [] => (Pol.const 1).ext fun _ => rfl
  | o :: os => (Pol.lin (z o) (prodZ_pol os)).ext fun _ => rfl
theorem prodZ_root {o : Int} {x : Zp} : ∀ {os : List Int}, o ∈ os → x = z o → prodZ os x = 0
  | [], h, _ => by simp at h
  | p :: os, h, e => by
    show (x - z p) * prodZ os x = 0
    rcases List.mem_cons.mp h with q | q
    · rw [e, q]
      grind
    · rw [prodZ_root q e]
      grind
theorem prodZ_ne {x : Zp} : ∀ {os : List Int}, (∀ o ∈ os, x ≠ z o) → prodZ os x ≠ 0
  | [], _ => zp_01
  | p :: os, h => by
    refine zp_mul_ne (fun e => h p (by simp) ?_) (prodZ_ne fun o ho => h o (List.mem_cons_of_mem _ ho))
    grind
/-- as the program multiplies -/
def prodM (os : List Int) (x acc : Int) : Int := os.foldl (fun acc o => acc * (x - o) % 65521) acc
theorem prodM_z : ∀ (os : List Int) (x acc : Int), z (prodM os x acc) = z acc * prodZ os (z x)
  | [], x, acc => by
    show z acc = z acc * 1
    grind
  | o :: os, x, acc => by
    show z (prodM os x (acc * (x - o) % 65521)) = z acc * ((z x - z o) * prodZ os (z x))
    rw [prodM_z os x, z_mod, z_mul, z_sub]
    grind
theorem prodM_word : ∀ (os : List Int) (x acc : Int), 0 ≤ acc → acc < 65521 → 0 ≤ prodM os x acc ∧ prodM os x acc < 65521
  | [], _, _, h0, h1 => ⟨h0, h1⟩
  | o :: os, x, acc, _, _ => prodM_word os x _ (Int.emod_nonneg _ (by decide)) (Int.emod_lt_of_pos _ (by decide))
theorem prodM_snoc (os : List Int) (o x acc : Int) : prodM (os ++ [o]) x acc = prodM os x acc * (x - o) % 65521 := by
  unfold prodM
  rw [List.foldl_append]
  rfl
/-- a place's factor -/
noncomputable def wgt (p : Int) (os : List Int) (x : Int) : Int := prodM os x 1 * invP (prodM os p 1) % 65521
theorem wgt_word (p : Int) (os : List Int) (x : Int) : 0 ≤ wgt p os x ∧ wgt p os x < 65521 := ⟨Int.emod_nonneg _ (by decide), Int.emod_lt_of_pos _ (by decide)⟩
theorem wgt_z (p : Int) (os : List Int) (x : Int) : z (wgt p os x) = prodZ os (z x) * z (invP (prodM os p 1)) := by
  unfold wgt
  rw [z_mod, z_mul, prodM_z, z_one]
  grind
theorem wgt_ok {p : Int} {os : List Int} (h : ∀ o ∈ os, z p ≠ z o) : prodM os p 1 % 65521 ≠ 0 := fun e => by
  have := (z_z _).mpr e
  rw [prodM_z, z_one] at this
  refine prodZ_ne h ?_
  grind
/-- all places but the i-th -/
def others (ws : List Int) (i : Nat) : List Int := ws.take i ++ ws.drop (i + 1)
noncomputable def weightsM (ws : List Int) (x : Int) : List Int := (List.range ws.length).map fun i => wgt (ws.getD i 0) (others ws i) x
theorem weightsM_length (ws : List Int) (x : Int) : (weightsM ws x).length = ws.length := by simp [weightsM]
theorem weightsM_get {ws : List Int} {x : Int} {i : Nat} (h : i < ws.length) : (weightsM ws x)[i]? = some (wgt (ws.getD i 0) (others ws i) x) := by
  unfold weightsM
  rw [List.getElem?_map, List.getElem?_range h]
  rfl
/-- no two places are equal modulo the prime -/
def Apart (ws : List Int) : Prop := (ws.map z).Nodup
theorem apart_ne {ws : List Int} (h : Apart ws) {i j : Nat} (hi : i < ws.length) (hj : j < ws.length) (n : i ≠ j) : z (ws.getD i 0) ≠ z (ws.getD j 0) := fun e => by
  refine n ((List.getElem_inj (xs := ws.map z) (h₀ := by simpa using hi) (h₁ := by simpa using hj) h).mp ?_)
  rw [List.getElem_map, List.getElem_map]
  simpa [List.getD_eq_getElem?_getD, hi, hj] using e
theorem mem_others {ws : List Int} {i : Nat} {o : Int} : o ∈ others ws i ↔ ∃ j, j < ws.length ∧ j ≠ i ∧ o = ws.getD j 0 := by
  unfold others
  rw [List.mem_append, List.mem_iff_getElem?, List.mem_iff_getElem?]
  constructor
  · rintro (⟨j, h⟩ | ⟨j, h⟩)
    · rw [List.getElem?_take] at h
      by_cases c : j < i
      · rw [if_pos c] at h
        obtain ⟨hl, e⟩ := List.getElem?_eq_some_iff.mp h
        exact ⟨j, hl, by omega, by simp [List.getD_eq_getElem?_getD, hl, e]⟩
      · rw [if_neg c] at h
        cases h
    · rw [List.getElem?_drop] at h
      obtain ⟨hl, e⟩ := List.getElem?_eq_some_iff.mp h
      exact ⟨_, hl, by omega, by simp [List.getD_eq_getElem?_getD, hl, e]⟩
  · rintro ⟨j, hl, n, rfl⟩
    by_cases c : j < i
    · exact .inl ⟨j, by rw [List.getElem?_take, if_pos c, List.getElem?_eq_getElem hl]; simp [List.getD_eq_getElem?_getD, hl]⟩
    · refine .inr ⟨j - (i + 1), ?_⟩
      rw [List.getElem?_drop, show i + 1 + (j - (i + 1)) = j by omega, List.getElem?_eq_getElem hl]
      simp [List.getD_eq_getElem?_getD, hl]
theorem others_length {ws : List Int} {i : Nat} (h : i < ws.length) : (others ws i).length + 1 = ws.length := by
  unfold others
  rw [List.length_append, List.length_take, List.length_drop]
  omega
theorem others_apart {ws : List Int} (h : Apart ws) {i : Nat} (hi : i < ws.length) : ∀ o ∈ others ws i, z (ws.getD i 0) ≠ z o := fun o ho => by
  obtain ⟨j, hl, n, rfl⟩ := mem_others.mp ho
  exact apart_ne h hi hl (Ne.symm n)
/-! ### sums -/
def sumR : Nat → (Nat → Zp) → Zp
  | 0, _ => 0
  | n + 1, g => sumR n g + g n
theorem sumR_ext : ∀ {n : Nat} {f g : Nat → Zp}, (∀ i, i < n → f i = g i) → sumR n f = sumR n g
  | 0, _, _, _ => rfl
  | n + 1, f, g, h => by
    show sumR n f + f n = sumR n g + g n
    rw [sumR_ext fun i hi => h i (by omega), h n (by omega)]
theorem sumR_zero : ∀ {n : Nat} {f : Nat → Zp}, (∀ i, i < n → f i = 0) → sumR n f = 0
  | 0, _, _ => rfl
  | n + 1, f, h => by
    show sumR n f + f n = 0
    rw [sumR_zero fun i hi => h i (by omega), h n (by omega)]
    grind
theorem sumR_one : ∀ {n : Nat} {f : Nat → Zp} {j : Nat}, j < n → (∀ i, i < n → i ≠ j → f i = 0) → sumR n f = f j
  | n + 1, f, j, hj, h => by
    show sumR n f + f n = f j
    by_cases c : j = n
    · subst c
      rw [sumR_zero fun i hi => h i (by omega) (by omega)]
      grind
    · rw [sumR_one (j := j) (by omega) fun i hi n' => h i (by omega) n', h n (by omega) (by omega)]
      grind
theorem sumR_pol {m : Nat} : ∀ {n : Nat} {F : Nat → Zp → Zp}, (∀ i, i < n → Pol m (F i)) → Pol m fun x => sumR n fun i => F i x
  | 0, _, _ => (pol_nil m).ext fun _ => rfl
  | n + 1, F, h => (Pol.add (sumR_pol (n := n) fun i hi => h i (by omega)) (h n (by omega))).ext fun _ => rfl
/-- the sum of factors times values -/
def dotR (us vs : List Int) : Int := ((List.range us.length).map fun i => us.getD i 0 * vs.getD i 0).sum
theorem sum_range_z : ∀ (n : Nat) (f : Nat → Int), z ((List.range n).map f).sum = sumR n fun i => z (f i)
  | 0, _ => z_zero
  | n + 1, f => by
    rw [List.range_succ, List.map_append, List.sum_append, z_add, sum_range_z n f]
    show _ + z ((f n) + 0) = _
    rw [Int.add_zero]
    rfl
theorem dotR_z (us vs : List Int) : z (dotR us vs) = sumR us.length fun i => z (us.getD i 0) * z (vs.getD i 0) := by
  unfold dotR
  rw [sum_range_z]
  exact sumR_ext fun i _ => z_mul _ _
/-- the value at x, as the program reckons it -/
noncomputable def valM (ws ys : List Int) (x : Int) : Int := dotR (weightsM ws x) ys % 65521
theorem valM_word (ws ys : List Int) (x : Int) : 0 ≤ valM ws ys x ∧ valM ws ys x < 65521 := ⟨Int.emod_nonneg _ (by decide), Int.emod_lt_of_pos _ (by decide)⟩
theorem valM_z (ws ys : List Int) (x : Int) : z (valM ws ys x) = sumR ws.length fun i => prodZ (others ws i) (z x) * (z (invP (prodM (others ws i) (ws.getD i 0) 1)) * z (ys.getD i 0)) := by
  unfold valM
  rw [z_mod, dotR_z, weightsM_length]
  refine sumR_ext fun i hi => ?_
  have e : (weightsM ws x).getD i 0 = wgt (ws.getD i 0) (others ws i) x := by rw [List.getD_eq_getElem?_getD, weightsM_get hi]; rfl
  rw [e, wgt_z]
  grind
/-- at a place it is the point's own value -/
theorem valM_node {ws ys : List Int} (h : Apart ws) {x : Int} {j : Nat} (hj : j < ws.length) (e : z x = z (ws.getD j 0)) : z (valM ws ys x) = z (ys.getD j 0) := by
  rw [valM_z, sumR_one hj fun i hi n => ?_]
  · have p := others_apart h hj
    have q := wgt_ok p
    have r : z (prodM (others ws j) (ws.getD j 0) 1) * z (invP (prodM (others ws j) (ws.getD j 0) 1)) = 1 := z_invP fun e => q ((z_z _).mp e)
    rw [prodM_z, z_one] at r
    rw [e]
    grind
  · rw [prodZ_root (mem_others.mpr ⟨j, hj, Ne.symm n, rfl⟩) e]
    grind
/-- the values of a polynomial at the places give its value anywhere -/
theorem valM_pol {ws ys : List Int} (h : Apart ws) {f : Zp → Zp} (hf : Pol ws.length f) (hy : ∀ i, i < ws.length → z (ys.getD i 0) = f (z (ws.getD i 0))) (x : Int) : z (valM ws ys x) = f (z x) := by
  have P : Pol ws.length fun x => (sumR ws.length fun i => prodZ (others ws i) x * (z (invP (prodM (others ws i) (ws.getD i 0) 1)) * z (ys.getD i 0))) - f x := by
    refine Pol.sub (sumR_pol fun i hi => Pol.smul _ ?_) hf
    have := prodZ_pol (others ws i)
    rw [others_length hi] at this
    exact this
  have R := Pol.roots (ws.map z) P h (by simp) (fun a ha => ?_) (z x)
  · rw [valM_z]
    have R' : (sumR ws.length fun i => prodZ (others ws i) (z x) * (z (invP (prodM (others ws i) (ws.getD i 0) 1)) * z (ys.getD i 0))) - f (z x) = 0 := R
    grind
  · obtain ⟨p, hp, rfl⟩ := List.mem_map.mp ha
    obtain ⟨j, hj⟩ := List.mem_iff_getElem?.mp hp
    obtain ⟨hl, e⟩ := List.getElem?_eq_some_iff.mp hj
    have ep : ws.getD j 0 = p := by simp [List.getD_eq_getElem?_getD, hl, e]
    have v := valM_node (ys := ys) h (x := p) hl (by rw [ep])
    rw [valM_z, hy j hl, ep] at v
    show (sumR ws.length fun i => prodZ (others ws i) (z p) * (z (invP (prodM (others ws i) (ws.getD i 0) 1)) * z (ys.getD i 0))) - f (z p) = 0
    rw [v]
    grind
theorem z_small {n : Int} (h0 : 0 < n) (h1 : n < 65521) : z n ≠ 0 := fun e => by
  have := (z_z n).mp e
  omega
/-! a polynomial's value -/
def pev : List Int → Zp → Zp
  | [], _ => 0
  | c :: r, x => z c + x * pev r x
theorem pev_pol : ∀ ns : List Int, Pol ns.length (pev ns)
  | [] => fun _ => rfl
  | c :: r => ⟨z c, pev r, pev_pol r, fun _ => rfl⟩
/-- as it is reckoned: from the highest coefficient down -/
def horn : List Int → Int → Int
  | [], _ => 0
  | c :: r, x => (horn r x * x + c) % 65521
theorem horn_z : ∀ (ns : List Int) (x : Int), z (horn ns x) = pev ns (z x)
  | [], _ => z_zero
  | c :: r, x => by
    show z ((horn r x * x + c) % 65521) = z c + z x * pev r (z x)
    rw [z_mod, z_add, z_mul, horn_z r x]
    grind
theorem horn_word : ∀ (ns : List Int) (x : Int), 0 ≤ horn ns x ∧ horn ns x < 65521
  | [], _ => by show (0 : Int) ≤ 0 ∧ (0 : Int) < 65521; omega
  | _ :: _, _ => ⟨Int.emod_nonneg _ (by decide), Int.emod_lt_of_pos _ (by decide)⟩
theorem horn_drop {ns : List Int} {x c : Int} {i : Nat} (h : ns[i]? = some c) : horn (ns.drop i) x = (horn (ns.drop (i + 1)) x * x + c) % 65521 := by
  obtain ⟨hl, e⟩ := List.getElem?_eq_some_iff.mp h
  rw [List.drop_eq_getElem_cons hl, e]
  rfl
/-! polynomials by their values: degree, normal forms -/
def Wd (w : Int) : Prop := 0 ≤ w ∧ w < 65521
/-- a list of words whose last one is not 0 -/
def Norm (r : List Int) : Prop := (∀ w ∈ r, Wd w) ∧ (r = [] ∨ r.getD (r.length - 1) 0 ≠ 0)
def pw (x : Zp) : Nat → Zp
  | 0 => 1
  | n + 1 => x * pw x n
theorem pev_append : ∀ (a b : List Int) (x : Zp), pev (a ++ b) x = pev a x + pw x a.length * pev b x
  | [], b, x => by
    show pev b x = 0 + 1 * pev b x
    grind
  | c :: a, b, x => by
    show z c + x * pev (a ++ b) x = (z c + x * pev a x) + (x * pw x a.length) * pev b x
    rw [pev_append a b x]
    grind
theorem pev_zeros : ∀ {a : List Int}, (∀ w ∈ a, z w = 0) → ∀ x, pev a x = 0
  | [], _, _ => rfl
  | c :: a, h, x => by
    show z c + x * pev a x = 0
    rw [h c (by simp), pev_zeros (fun w m => h w (List.mem_cons_of_mem _ m))]
    grind
theorem pev_mod : ∀ (a : List Int) (x : Zp), pev (a.map (· % 65521)) x = pev a x
  | [], _ => rfl
  | c :: a, x => by
    show z (c % 65521) + x * pev (a.map (· % 65521)) x = z c + x * pev a x
    rw [z_mod, pev_mod a x]
/-- one place of the list gets another number -/
theorem pev_set : ∀ {a : List Int} {i : Nat} {c d : Int} (x : Zp), a[i]? = some c → pev (a.set i d) x = pev a x + pw x i * (z d - z c)
  | [], _, _, _, _, h => by simp at h
  | b :: a, 0, c, d, x, h => by
    have e : b = c := Option.some.inj h
    subst e
    show z d + x * pev a x = (z b + x * pev a x) + 1 * (z d - z b)
    grind
  | b :: a, i + 1, c, d, x, h => by
    show z b + x * pev (a.set i d) x = (z b + x * pev a x) + (x * pw x i) * (z d - z c)
    rw [pev_set (i := i) (c := c) x h]
    grind
theorem pw_add (x : Zp) : ∀ n m : Nat, pw x (n + m) = pw x n * pw x m
  | 0, m => by
    rw [Nat.zero_add]
    show pw x m = 1 * pw x m
    grind
  | n + 1, m => by
    rw [Nat.succ_add]
    show x * pw x (n + m) = (x * pw x n) * pw x m
    rw [pw_add x n m]
    grind
theorem pev_snoc (a : List Int) (c : Int) (x : Zp) : pev (a ++ [c]) x = pev a x + pw x a.length * z c := by
  rw [pev_append]
  show _ + _ * (z c + x * 0) = _
  grind
/-! all words as places -/
def allZ (n : Nat) : List Zp := (List.range n).map fun (k : Nat) => z ((k : Int) + 1)
theorem allZ_nodup {n : Nat} (h : n ≤ 65520) : (allZ n).Nodup := by
  unfold allZ List.Nodup
  rw [List.pairwise_map]
  refine (List.nodup_range (n := n)).imp_of_mem fun {a b} ha hb ne e => ?_
  have h1 := List.mem_range.mp ha
  have h2 := List.mem_range.mp hb
  have := z_eq.mp e
  omega
theorem allZ_ne {n : Nat} (h : n ≤ 65520) : ∀ a ∈ allZ n, a ≠ 0 := fun a ha e => by
  obtain ⟨k, hk, rfl⟩ := List.mem_map.mp ha
  have h1 := List.mem_range.mp hk
  have := (z_z _).mp e
  omega
/-- zero but perhaps at 0: zero -/
theorem Pol.punct {n : Nat} {f : Zp → Zp} (h : Pol n f) (hn : n ≤ 65520) (hz : ∀ x, x ≠ 0 → f x = 0) : ∀ x, f x = 0 :=
  Pol.roots (allZ n) h (allZ_nodup hn) (by simp [allZ]) fun a ha => hz a (allZ_ne hn a ha)
theorem Pol.pw : ∀ (n : Nat) (c : Zp), Pol (n + 1) fun x => c * PP.pw x n
  | 0, c => (Pol.const c).ext fun x => by show c * 1 = c; grind
  | n + 1, c => ((Pol.pw n c).xmul).ext fun x => by show c * (x * PP.pw x n) = x * (c * PP.pw x n); grind
/-- a power beyond the coefficients has the factor 0 -/
theorem lead_zero : ∀ (n : Nat) {c : Zp} {h : Zp → Zp}, n ≤ 60000 → Pol n h → (∀ x, c * pw x n = h x) → c = 0
  | 0, c, h, _, hp, e => by
    have := e 0
    rw [hp 0] at this
    have : c * 1 = 0 := this
    grind
  | n + 1, c, h, hn, ⟨d, g, hg, q⟩, e => by
    have e0 : d = 0 := by
      have h0 := e 0
      rw [q 0] at h0
      have : c * (0 * pw 0 n) = d + 0 * g 0 := h0
      grind
    have F : ∀ x, c * pw x n - g x = 0 := Pol.punct (n := n + 1) (Pol.sub (Pol.pw n c) hg.up) (by omega) fun x hx => by
      have h1 := e x
      rw [q x, e0] at h1
      have h2 : c * (x * pw x n) = 0 + x * g x := h1
      have h3 : x * (c * pw x n - g x) = 0 := by grind
      exact (zp_div h3).resolve_left hx
    exact lead_zero n (by omega) hg fun x => by
      have := F x
      grind
/-- a normal list has no more words than its values need -/
theorem norm_le {r : List Int} {n : Nat} (h : Norm r) (hn : n ≤ 60000) (hp : Pol n (pev r)) (hr : r.length ≤ 60000) : r.length ≤ n := by
  refine Classical.byContradiction fun c => ?_
  obtain ⟨hw, hl⟩ := h
  have rne : r ≠ [] := fun e => by rw [e] at c; simp at c
  have hl := hl.resolve_left rne
  have e : r = r.take (r.length - 1) ++ [r.getD (r.length - 1) 0] := by
    have hlt : r.length - 1 < r.length := by
      have := List.length_pos_iff.mpr rne
      omega
    conv => lhs; rw [← List.take_append_drop (r.length - 1) r]
    rw [List.drop_eq_getElem_cons hlt, show r.length - 1 + 1 = r.length by omega, List.drop_length]
    simp [List.getD_eq_getElem?_getD, hlt]
  have P1 : Pol (r.length - 1) (pev (r.take (r.length - 1))) := (pev_pol _).mono (by rw [List.length_take]; omega)
  have P2 : Pol (r.length - 1) (pev r) := hp.mono (by omega)
  have z0 := lead_zero (r.length - 1) (c := z (r.getD (r.length - 1) 0)) (by omega) (Pol.sub P2 P1) fun x => by
    have := pev_snoc (r.take (r.length - 1)) (r.getD (r.length - 1) 0) x
    rw [← e, List.length_take, Nat.min_eq_left (by omega)] at this
    show _ = pev r x - pev (r.take (r.length - 1)) x
    grind
  have w := hw (r.getD (r.length - 1) 0) (by
    have hlt : r.length - 1 < r.length := by
      have := List.length_pos_iff.mpr rne
      omega
    rw [List.getD_eq_getElem?_getD, List.getElem?_eq_getElem hlt]
    exact List.getElem_mem hlt)
  have := (z_z _).mp z0
  obtain ⟨w0, w1⟩ := w
  omega
/-- the same values everywhere: the same words -/
theorem pev_inj : ∀ {a b : List Int}, a.length = b.length → a.length ≤ 60000 → (∀ w ∈ a, Wd w) → (∀ w ∈ b, Wd w) → (∀ x, pev a x = pev b x) → a = b
  | [], [], _, _, _, _, _ => rfl
  | [], _ :: _, h, _, _, _, _ => by simp at h
  | _ :: _, [], h, _, _, _, _ => by simp at h
  | c :: a, d :: b, hl, hz, ha, hb, e => by
    have e0 : z c = z d := by
      have : z c + 0 * pev a 0 = z d + 0 * pev b 0 := e 0
      grind
    have wc := ha c (by simp)
    have wd := hb d (by simp)
    have ecd : c = d := z_inj wc.1 wc.2 wd.1 wd.2 e0
    have hl' : a.length = b.length := by simpa using hl
    have hz' : a.length + 1 ≤ 60000 := by simpa using hz
    have F : ∀ x, pev a x - pev b x = 0 := Pol.punct (n := a.length) (Pol.sub (pev_pol a) ((pev_pol b).mono (by omega))) (by omega) fun x hx => by
      have h1 : z c + x * pev a x = z d + x * pev b x := e x
      have h3 : x * (pev a x - pev b x) = 0 := by grind
      exact (zp_div h3).resolve_left hx
    rw [ecd, pev_inj hl' (by omega) (fun w m => ha w (List.mem_cons_of_mem _ m)) (fun w m => hb w (List.mem_cons_of_mem _ m)) fun x => by have := F x; grind]
theorem norm_inj {a b : List Int} (ha : Norm a) (hb : Norm b) (la : a.length ≤ 60000) (lb : b.length ≤ 60000) (e : ∀ x, pev a x = pev b x) : a = b := by
  have h1 := norm_le ha lb ((pev_pol b).ext e) la
  have h2 := norm_le hb la ((pev_pol a).ext fun x => (e x).symm) lb
  exact pev_inj (by omega) la ha.1 hb.1 e
/-! products -/
theorem Pol.mul : ∀ {n m : Nat} {f g : Zp → Zp}, Pol n f → Pol m g → Pol (n + m) fun x => f x * g x
  | 0, m, f, g, h, _ => (pol_nil (0 + m)).ext fun x => by show f x * g x = 0; rw [h x]; grind
  | n + 1, m, f, g, ⟨c, u, h, q⟩, k => by
    have A := (Pol.mul h k).xmul
    have B := (k.smul c).mono (show m ≤ n + m + 1 by omega)
    rw [show n + 1 + m = n + m + 1 by omega]
    exact (B.add A).ext fun x => by show f x * g x = g x * c + x * (u x * g x); rw [q x]; grind
/-- the highest coefficient -/
theorem norm_lead {a : List Int} (h : Norm a) (ne : a ≠ []) : ∃ (c : Zp) (g : Zp → Zp), c ≠ 0 ∧ Pol (a.length - 1) g ∧ ∀ x, pev a x = g x + c * pw x (a.length - 1) := by
  have hlt : a.length - 1 < a.length := by
    have := List.length_pos_iff.mpr ne
    omega
  refine ⟨z (a.getD (a.length - 1) 0), pev (a.take (a.length - 1)), fun e => ?_, (pev_pol _).mono (by rw [List.length_take]; omega), fun x => ?_⟩
  · have w : Wd (a.getD (a.length - 1) 0) := h.1 _ (by rw [List.getD_eq_getElem?_getD, List.getElem?_eq_getElem hlt]; exact List.getElem_mem hlt)
    have := (z_z _).mp e
    have ne0 := h.2.resolve_left ne
    obtain ⟨w0, w1⟩ := w
    omega
  · have e : a = a.take (a.length - 1) ++ [a.getD (a.length - 1) 0] := by
      conv => lhs; rw [← List.take_append_drop (a.length - 1) a]
      rw [List.drop_eq_getElem_cons hlt, show a.length - 1 + 1 = a.length by omega, List.drop_length]
      simp [List.getD_eq_getElem?_getD, hlt]
    have := pev_snoc (a.take (a.length - 1)) (a.getD (a.length - 1) 0) x
    rw [← e, List.length_take, Nat.min_eq_left (by omega)] at this
    rw [this]
    grind
theorem norm_mul {a b r : List Int} (ha : Norm a) (hb : Norm b) (hr : Norm r) (na : a ≠ []) (nb : b ≠ []) (la : a.length ≤ 1000) (lb : b.length ≤ 1000) (lr : r.length ≤ 60000) (e : ∀ x, pev r x = pev a x * pev b x) : r.length = a.length + b.length - 1 := by
  obtain ⟨c, g, hc, hg, eg⟩ := norm_lead ha na
  obtain ⟨d, k, hd, hk, ek⟩ := norm_lead hb nb
  have pa := List.length_pos_iff.mpr na
  have pb := List.length_pos_iff.mpr nb
  -- what is below the highest power
  have low : Pol (a.length - 1 + (b.length - 1)) fun x => pev r x - (c * d) * pw x (a.length - 1 + (b.length - 1)) := by
    have A := (hg.mul ((Pol.pw (b.length - 1) d).add hk.up)).mono (show a.length - 1 + (b.length - 1 + 1) ≤ a.length - 1 + (b.length - 1) + 1 by omega)
    have B : ∀ n m : Nat, ∀ u : Zp → Zp, Pol m u → Pol (n + m) fun x => pw x n * u x := by
      intro n
      induction n with
      | zero => exact fun m u hu => by rw [Nat.zero_add]; exact hu.ext fun x => by show 1 * u x = u x; grind
      | succ n ih => exact fun m u hu => by rw [Nat.succ_add]; exact ((ih m u hu).xmul).ext fun x => by show (x * pw x n) * u x = x * (pw x n * u x); grind
    have C := (B (a.length - 1) (b.length - 1) k hk).smul c
    have D := (B (b.length - 1) (a.length - 1) g hg).smul d
    have G : Pol (a.length - 1 + (b.length - 1)) fun x => g x * k x := hg.mul hk
    rw [Nat.add_comm (b.length - 1)] at D
    refine ((C.add D).add G).ext fun x => ?_
    show pev r x - (c * d) * pw x (a.length - 1 + (b.length - 1)) = (pw x (a.length - 1) * k x * c + pw x (b.length - 1) * g x * d) + g x * k x
    rw [e x, eg x, ek x, pw_add]
    grind
  have up : Pol (a.length - 1 + (b.length - 1) + 1) (pev r) := (low.up.add (Pol.pw _ (c * d))).ext fun x => by
    show pev r x = (pev r x - (c * d) * pw x _) + (c * d) * pw x _
    grind
  have h1 := norm_le hr (by omega) up lr
  by_cases q : r.length ≤ a.length - 1 + (b.length - 1)
  · exfalso
    have P := (pev_pol r).mono q
    have := lead_zero (a.length - 1 + (b.length - 1)) (c := c * d) (by omega) (P.sub low) fun x => by
      show _ = pev r x - (pev r x - (c * d) * pw x _)
      grind
    exact zp_mul_ne hc hd this
  · omega
theorem norm_snoc {a : List Int} {c : Int} (h : ∀ w ∈ a, Wd w) (hc : Wd c) (n : c ≠ 0) : Norm (a ++ [c]) := by
  refine ⟨fun w m => ?_, .inr ?_⟩
  · rcases List.mem_append.mp m with m | m
    · exact h w m
    · have : w = c := by simpa using m
      rw [this]
      exact hc
  · rw [List.length_append, List.length_singleton, Nat.add_sub_cancel, List.getD_eq_getElem?_getD]
    simpa using n
theorem norm_nil : Norm [] := ⟨fun _ m => (nomatch m), .inl rfl⟩
theorem pev_smul (fa : Int) : ∀ (b : List Int) (x : Zp), pev (b.map fun c => fa * c) x = z fa * pev b x
  | [], x => by show (0 : Zp) = _ * 0; grind
  | c :: r, x => by
    show z (fa * c) + x * pev (r.map fun c => fa * c) x = z fa * (z c + x * pev r x)
    rw [pev_smul fa r x, z_mul]
    grind
/-! heaps, slices, points -/
theorem _root_.L2.Same.tup {K : PySem.W.Frag} {H H' : Hp} {a : Addr} {xs : List V} (e : Same H H') (h : SqT K H a xs) : SqT K H' a xs := by
  rcases h with (h | ⟨o, h⟩) | h
  · exact .inl (.inl (e _ _ h))
  · exact .inl (.inr ⟨o, e _ _ h⟩)
  · exact .inr h
theorem _root_.L2.Same.new {H : Hp} {p : Addr} {o : HO} (h : H p = none) : Same H (upd H p o) := fun _ _ e => by
  rw [upd_ne (ne_of_none e h)]
  exact e
/-- what was tracked is as it was, but for p -/
def But (p : Addr) (H H' : Hp) : Prop := ∀ b o, H b = some o → b ≠ p → H' b = some o
theorem Only.but {p : Addr} {H H' : Hp} (h : Only p H H') : But p H H' := fun b _ e n => (h b n).trans e
theorem _root_.L2.Same.but {p : Addr} {H H' : Hp} (h : Same H H') : But p H H' := fun b o e _ => h b o e
theorem But.trans {p : Addr} {H H1 H2 : Hp} (x : But p H H1) (y : But p H1 H2) : But p H H2 := fun b o e n => y b o (x b o e n) n
theorem But.same {p : Addr} {H0 H H' : Hp} (y : But p H H') (x : Same H0 H) (h : H0 p = none) : Same H0 H' := fun b o e => y b o (x b o e) (ne_of_none e h)
theorem But.new {p q : Addr} {H H' : Hp} {o : HO} (x : But p H H') (h : H' q = none) : But p H (upd H' q o) := x.trans (Same.new h).but
theorem _root_.L2.Same.at {H H' : Hp} {b : Addr} {o : HO} (s : Same H H') (e : H b = some o) : H' b = some o := s b o e
theorem cut_take (xs : List V) (i : Nat) : cutV xs none (some (i : Int)) = xs.take i := by
  unfold cutV
  rw [HT.sIx_none, HT.sIx_nat, List.drop_zero, Nat.sub_zero]
  by_cases h : i ≤ xs.length
  · rw [Nat.min_eq_left h]
  · rw [Nat.min_eq_right (by omega), List.take_of_length_le (by omega), List.take_of_length_le (by omega)]
theorem cut_drop (xs : List V) (i : Nat) : cutV xs (some (i : Int)) none = xs.drop i := by
  unfold cutV
  rw [HT.sIx_none, HT.sIx_nat]
  by_cases h : i ≤ xs.length
  · rw [Nat.min_eq_left h, List.take_of_length_le (by rw [List.length_drop]; omega)]
  · rw [Nat.min_eq_right (by omega), List.drop_of_length_le (by omega), List.drop_of_length_le (by omega), List.take_nil]
theorem take_snoc {α : Type} {l : List α} {i : Nat} {x : α} (h : l[i]? = some x) : l.take (i + 1) = l.take i ++ [x] := by
  rw [List.take_add_one, h]
  rfl
theorem item_lt {α : Type} {l : List α} {i : Nat} {x : α} (h : l[i]? = some x) : i < l.length := (List.getElem?_eq_some_iff.mp h).1
theorem small (n : Nat) (h : n ≤ 60000) : n < sizeLine := Nat.lt_of_le_of_lt h (by decide)
theorem getD_item {α : Type} {l : List α} {i : Nat} {x d : α} (h : l[i]? = some x) : l.getD i d = x := by rw [List.getD_eq_getElem?_getD, h]; rfl
theorem seq_off {K : PySem.W.Frag} {H : Hp} {a b : Addr} {xs : List V} {o : HO} (h : SqL K H a xs) (n : a ≠ b) : SqL K (upd H b o) a xs := by
  rcases h with (h | ⟨u, h⟩) | h
  · exact .inl (.inl (by rw [upd_ne n]; exact h))
  · exact .inl (.inr ⟨u, by rw [upd_ne n]; exact h⟩)
  · exact .inr h
/-- one more thing at a place that was free at the entry -/
theorem same_put {H H' : Hp} {p : Addr} {o : HO} (s : Same H H') (n : H p = none) : Same H (upd H' p o) := fun b u e => by
  rw [upd_ne (ne_of_none e n)]
  exact s b u e
theorem item_set {α : Type} {l : List α} {i j : Nat} {x y : α} (h : (l.set i x)[j]? = some y) : (i = j ∧ y = x ∧ j < l.length) ∨ (i ≠ j ∧ l[j]? = some y) := by
  rw [List.getElem?_set] at h
  by_cases e : i = j
  · subst e
    rw [if_pos rfl] at h
    split at h
    · exact .inl ⟨rfl, (Option.some.inj h).symm, by assumption⟩
    · cases h
  · rw [if_neg e] at h
    exact .inr ⟨e, h⟩
theorem same_none {H H' : Hp} {b : Addr} (s : Same H H') (n : H' b = none) : H b = none := by
  cases q : H b with
  | none => rfl
  | some o => rw [s _ _ q] at n; cases n
theorem getD_set {w : List Int} {i k : Nat} {v : Int} (h : k < w.length) : (w.set i v).getD k 0 = if i = k then v else w.getD k 0 := by
  rw [List.getD_eq_getElem?_getD, List.getElem?_set]
  split
  · next e =>
    subst e
    rw [if_pos h]
    rfl
  · rw [List.getD_eq_getElem?_getD]
/-! data: == of lists of ints, of pairs -/
theorem eqvAll_ints : ∀ xs ys : List Int, PyData.eqvAll (xs.map .int) (ys.map .int) = decide (xs = ys)
  | [], [] => by simp [PyData.eqvAll]
  | [], _ :: _ => by simp [PyData.eqvAll]
  | _ :: _, [] => by simp [PyData.eqvAll]
  | x :: xs, y :: ys => by
    simp only [List.map_cons, PyData.eqvAll, PyData.eqv, eqvAll_ints xs ys]
    by_cases h : x = y <;> by_cases k : xs = ys <;> simp [h, k]
theorem canLayAll_ints : ∀ xs : List Int, PyData.canLayAll0 (xs.map .int) = true
  | [] => rfl
  | x :: xs => by simp [PyData.canLayAll0, PyData.canLay0, canLayAll_ints xs]
theorem depthAll_ints : ∀ xs : List Int, PyData.depthAll (xs.map .int) = 0
  | [] => rfl
  | x :: xs => by simp [PyData.depthAll, PyData.depth, depthAll_ints xs]
theorem shaped_ints (xs : List Int) : SeqAt.shaped (.list (xs.map .int)) = true := by
  simp [SeqAt.shaped, PyData.canLay0, canLayAll_ints, PyData.depth, depthAll_ints]
theorem dpAll_ints {K : PySem.W.Frag} {H : Hp} : ∀ xs : List Int, DpAll K H (xs.map V.int) (xs.map .int)
  | [] => .nil
  | x :: xs => .cons (.int x) (dpAll_ints xs)
theorem dp_ints {K : PySem.W.Frag} {H : Hp} {a : Addr} {xs : List Int} (h : SqL K H a (xs.map V.int)) : Dp K H (.ref a) (.list (xs.map .int)) := .lst h (dpAll_ints xs)
theorem eqv_ints (xs ys : List Int) : PyData.eqv (.list (xs.map .int)) (.list (ys.map .int)) = decide (xs = ys) := by
  simp only [PyData.eqv]
  exact eqvAll_ints xs ys
/-- rows of ints -/
def rowD (xs : List Int) : PyData := .list (xs.map .int)
theorem rows_data : ∀ xss : List (List Int), PyData.canLayAll0 (xss.map rowD) = true ∧ PyData.depthAll (xss.map rowD) ≤ 1
  | [] => ⟨rfl, Nat.zero_le _⟩
  | xs :: xss => by
    obtain ⟨h1, h2⟩ := rows_data xss
    refine ⟨by simp [PyData.canLayAll0, PyData.canLay0, rowD, canLayAll_ints, h1], ?_⟩
    simp only [List.map_cons, PyData.depthAll, rowD, PyData.depth, depthAll_ints]
    omega
theorem rows_shaped (xss : List (List Int)) : SeqAt.shaped (.list (xss.map rowD)) = true := by
  obtain ⟨h1, h2⟩ := rows_data xss
  have e : PyData.depth (.list (xss.map rowD)) = PyData.depthAll (xss.map rowD) + 1 := by simp only [PyData.depth]
  unfold SeqAt.shaped
  rw [Bool.and_eq_true]
  exact ⟨by simp only [PyData.canLay0]; exact h1, decide_eq_true (by rw [e]; omega)⟩
theorem eqvAll_rows : ∀ xss yss : List (List Int), PyData.eqvAll (xss.map rowD) (yss.map rowD) = decide (xss = yss)
  | [], [] => by simp [PyData.eqvAll]
  | [], _ :: _ => by simp [PyData.eqvAll]
  | _ :: _, [] => by simp [PyData.eqvAll]
  | x :: xs, y :: ys => by
    have h := eqv_ints x y
    simp only [List.map_cons, PyData.eqvAll, rowD, eqvAll_rows xs ys, h]
    by_cases h : x = y <;> by_cases k : xs = ys <;> simp [h, k]
theorem eqv_rows (xss yss : List (List Int)) : PyData.eqv (.list (xss.map rowD)) (.list (yss.map rowD)) = decide (xss = yss) := by
  simp only [PyData.eqv]
  exact eqvAll_rows xss yss
theorem dp_two {K : PySem.W.Frag} {H : Hp} {a b c : Addr} {xs ys : List Int} (h : SqL K H a [V.ref b, V.ref c]) (hb : SqL K H b (xs.map V.int)) (hc : SqL K H c (ys.map V.int)) : Dp K H (.ref a) (.list ([xs, ys].map rowD)) :=
  .lst h (.cons (dp_ints hb) (.cons (dp_ints hc) .nil))
/-! xs[i] op= e, i not below 0 -/
def rGetL (K : PySem.W.Frag) : V → V → Hp → VK → Prop := fun x y H Q => ∃ (p : Addr) (xs : List V) (i : Int) (j : Nat) (v : V), x = .ref p ∧ y = .int i ∧ i = (j : Int) ∧ SqL K H p xs ∧ xs[j]? = some v ∧ Q v H
theorem pget_list {X : Cx} : PGet X (rGetL X.K) := by
  intro pins s σ H o i ov iv Q I ro ri h
  obtain ⟨p, xs, _, j, v, rfl, rfl, rfl, hS, hv, q⟩ := h
  cases ro
  obtain ⟨t, rfl⟩ := ri
  obtain ⟨its, r, pl, hz⟩ := I.list hS
  obtain ⟨u, hu, ru⟩ := r.get hv
  have hl : j < xs.length := (List.getElem?_eq_some_iff.mp hv).1
  have hn := line63
  exact PySem.wpAny_getItem_list pl.isList (by omega) (by omega) (by rw [Int.toNat_natCast]; simpa using hu) ⟨v, H, I, ru, q⟩
theorem rep_zero (n : Nat) : (List.replicate n [V.int 0]).flatten = (List.replicate n (0 : Int)).map V.int := by
  induction n with
  | zero => rfl
  | succ n ih => rw [List.replicate_succ, List.flatten_cons, ih, List.replicate_succ]; rfl
theorem pev_rep (n : Nat) (x : Zp) : pev (List.replicate n (0 : Int)) x = 0 := pev_zeros (fun w m => by rw [(List.mem_replicate.mp m).2]; exact z_zero) x
theorem ixN_nat {n j : Nat} (h : j < n) : ixN n (j : Int) = some j := by
  unfold ixN
  rw [if_pos (by omega), if_pos (by omega), Int.toNat_natCast]
theorem erase_map {α β : Type} (f : α → β) : ∀ (l : List α) (i : Nat), (l.map f).eraseIdx i = (l.eraseIdx i).map f
  | [], _ => rfl
  | _ :: _, 0 => rfl
  | a :: l, i + 1 => by
    show f a :: (l.map f).eraseIdx i = f a :: (l.eraseIdx i).map f
    rw [erase_map f l i]
theorem erase_perm : ∀ (l : List Int) (i : Nat) (h : i < l.length), (l[i] :: l.eraseIdx i).Perm l
  | _ :: _, 0, _ => List.Perm.refl _
  | a :: l, i + 1, h => by
    have h' : i < l.length := Nat.lt_of_succ_lt_succ h
    show (l[i] :: a :: l.eraseIdx i).Perm (a :: l)
    exact (List.Perm.swap _ _ _).trans (List.Perm.cons _ (erase_perm l i (Nat.lt_of_succ_lt_succ h)))
theorem seqIx_nat {i n : Nat} (h : i < n) : seqIndex? (i : Int) n = some i := by
  rw [seqIndex_of (by omega) (by omega), Int.toNat_natCast]
def upto (n : Nat) : List Int := (List.range n).map fun (i : Nat) => (i : Int)
theorem upto_len (n : Nat) : (upto n).length = n := by simp [upto]
/-- where things stand -/
structure Ad where
  f_is_present : Addr
  d_is_present : FuncData
  f_sector_at : Addr
  d_sector_at : FuncData
  f_inverse : Addr
  d_inverse : FuncData
  f_weight : Addr
  d_weight : FuncData
  f_weights : Addr
  d_weights : FuncData
  f_check_lengths : Addr
  d_check_lengths : FuncData
  f_piece_at : Addr
  d_piece_at : FuncData
  f_present_numbers : Addr
  d_present_numbers : FuncData
  f_recover : Addr
  d_recover : FuncData
  f_check_words : Addr
  d_check_words : FuncData
  f_is_place : Addr
  d_is_place : FuncData
  f_unseal : Addr
  d_unseal : FuncData
  f_is_whole : Addr
  d_is_whole : FuncData
  f_choose_disks : Addr
  d_choose_disks : FuncData
  f_piece_size : Addr
  d_piece_size : FuncData
  f_good_piece : Addr
  d_good_piece : FuncData
  f_read_stripe : Addr
  d_read_stripe : FuncData
  f_law_pot : Addr
  d_law_pot : FuncData
  f_law_next : Addr
  d_law_next : FuncData
  f_law_is_int : Addr
  d_law_is_int : FuncData
  f_law_word : Addr
  d_law_word : FuncData
  f_law_words : Addr
  d_law_words : FuncData
  f_law_is_pointer : Addr
  d_law_is_pointer : FuncData
  f_law_refused : Addr
  d_law_refused : FuncData
  f_law_counts_right : Addr
  d_law_counts_right : FuncData
  f_law : Addr
  d_law : FuncData
  f_Space_init : Addr
  d_Space_init : FuncData
  f_Space_take : Addr
  d_Space_take : FuncData
  f_Space_give : Addr
  d_Space_give : FuncData
  f_Space_free_count : Addr
  d_Space_free_count : FuncData
  f_Store_init : Addr
  d_Store_init : FuncData
  f_Store_look : Addr
  d_Store_look : FuncData
  f_Store_put : Addr
  d_Store_put : FuncData
  f_Store_get : Addr
  d_Store_get : FuncData
  f_Store_trim : Addr
  d_Store_trim : FuncData
  f_Store_forget : Addr
  d_Store_forget : FuncData
  f_Store_free_counts : Addr
  d_Store_free_counts : FuncData
  c_PoolError : Addr
  c_InvalidArgument : Addr
  c_NotEnoughPieces : Addr
  c_NoSpace : Addr
  c_NotEnoughDisks : Addr
  c_Damaged : Addr
  c_Space : Addr
  c_Store : Addr
  e_Store_put : Addr
  wd : World
/-- what the top has written -/
structure Txt (w : World) (K : PySem.W.Frag) (mg : Str → Option Value) (a : Ad) : Prop where
  F_is_present : Fun K "is_present" "is_present" s_is_present a.f_is_present a.d_is_present
  g_is_present : mg "is_present" = some (.ref a.f_is_present)
  d_is_present : Binds K a.d_is_present ["images", "disk"] []
  F_sector_at : Fun K "sector_at" "sector_at" s_sector_at a.f_sector_at a.d_sector_at
  g_sector_at : mg "sector_at" = some (.ref a.f_sector_at)
  d_sector_at : Binds K a.d_sector_at ["images", "disk", "row"] []
  F_inverse : Fun K "inverse" "inverse" s_inverse a.f_inverse a.d_inverse
  g_inverse : mg "inverse" = some (.ref a.f_inverse)
  d_inverse : Binds K a.d_inverse ["a"] []
  F_weight : Fun K "weight" "weight" s_weight a.f_weight a.d_weight
  g_weight : mg "weight" = some (.ref a.f_weight)
  d_weight : Binds K a.d_weight ["place", "others", "x"] []
  F_weights : Fun K "weights" "weights" s_weights a.f_weights a.d_weights
  g_weights : mg "weights" = some (.ref a.f_weights)
  d_weights : Binds K a.d_weights ["places", "x"] []
  F_check_lengths : Fun K "check_lengths" "check_lengths" s_check_lengths a.f_check_lengths a.d_check_lengths
  g_check_lengths : mg "check_lengths" = some (.ref a.f_check_lengths)
  d_check_lengths : Binds K a.d_check_lengths ["pieces"] []
  F_piece_at : Fun K "piece_at" "piece_at" s_piece_at a.f_piece_at a.d_piece_at
  g_piece_at : mg "piece_at" = some (.ref a.f_piece_at)
  d_piece_at : Binds K a.d_piece_at ["known", "places", "number"] []
  F_present_numbers : Fun K "present_numbers" "present_numbers" s_present_numbers a.f_present_numbers a.d_present_numbers
  g_present_numbers : mg "present_numbers" = some (.ref a.f_present_numbers)
  d_present_numbers : Binds K a.d_present_numbers ["pieces", "data"] []
  F_recover : Fun K "recover" "recover" s_recover a.f_recover a.d_recover
  g_recover : mg "recover" = some (.ref a.f_recover)
  d_recover : Binds K a.d_recover ["pieces", "data"] []
  F_check_words : Fun K "check_words" "check_words" s_check_words a.f_check_words a.d_check_words
  g_check_words : mg "check_words" = some (.ref a.f_check_words)
  d_check_words : Binds K a.d_check_words ["words"] []
  F_is_place : Fun K "is_place" "is_place" s_is_place a.f_is_place a.d_is_place
  g_is_place : mg "is_place" = some (.ref a.f_is_place)
  d_is_place : Binds K a.d_is_place ["kind", "disk", "row"] []
  F_unseal : Fun K "unseal" "unseal" s_unseal a.f_unseal a.d_unseal
  g_unseal : mg "unseal" = some (.ref a.f_unseal)
  d_unseal : Binds K a.d_unseal ["sector", "kind", "disk", "row"] []
  F_is_whole : Fun K "is_whole" "is_whole" s_is_whole a.f_is_whole a.d_is_whole
  g_is_whole : mg "is_whole" = some (.ref a.f_is_whole)
  d_is_whole : Binds K a.d_is_whole ["sector"] []
  F_choose_disks : Fun K "choose_disks" "choose_disks" s_choose_disks a.f_choose_disks a.d_choose_disks
  g_choose_disks : mg "choose_disks" = some (.ref a.f_choose_disks)
  d_choose_disks : Binds K a.d_choose_disks ["candidates", "width"] []
  F_piece_size : Fun K "piece_size" "piece_size" s_piece_size a.f_piece_size a.d_piece_size
  g_piece_size : mg "piece_size" = some (.ref a.f_piece_size)
  d_piece_size : Binds K a.d_piece_size ["length", "data"] []
  F_good_piece : Fun K "good_piece" "good_piece" s_good_piece a.f_good_piece a.d_good_piece
  g_good_piece : mg "good_piece" = some (.ref a.f_good_piece)
  d_good_piece : Binds K a.d_good_piece ["images", "place", "stamp", "size"] []
  F_read_stripe : Fun K "read_stripe" "read_stripe" s_read_stripe a.f_read_stripe a.d_read_stripe
  g_read_stripe : mg "read_stripe" = some (.ref a.f_read_stripe)
  d_read_stripe : Binds K a.d_read_stripe ["images", "places", "stamp", "length", "data"] []
  F_law_pot : Fun K "_law_pot" "_law_pot" s_law_pot a.f_law_pot a.d_law_pot
  g_law_pot : mg "_law_pot" = some (.ref a.f_law_pot)
  d_law_pot : Binds K a.d_law_pot ["script"] []
  F_law_next : Fun K "_law_next" "_law_next" s_law_next a.f_law_next a.d_law_next
  g_law_next : mg "_law_next" = some (.ref a.f_law_next)
  d_law_next : Binds K a.d_law_next ["pot", "limit"] []
  F_law_is_int : Fun K "_law_is_int" "_law_is_int" s_law_is_int a.f_law_is_int a.d_law_is_int
  g_law_is_int : mg "_law_is_int" = some (.ref a.f_law_is_int)
  d_law_is_int : Binds K a.d_law_is_int ["value"] []
  F_law_word : Fun K "_law_word" "_law_word" s_law_word a.f_law_word a.d_law_word
  g_law_word : mg "_law_word" = some (.ref a.f_law_word)
  d_law_word : Binds K a.d_law_word ["pot"] []
  F_law_words : Fun K "_law_words" "_law_words" s_law_words a.f_law_words a.d_law_words
  g_law_words : mg "_law_words" = some (.ref a.f_law_words)
  d_law_words : Binds K a.d_law_words ["pot", "count"] []
  F_law_is_pointer : Fun K "_law_is_pointer" "_law_is_pointer" s_law_is_pointer a.f_law_is_pointer a.d_law_is_pointer
  g_law_is_pointer : mg "_law_is_pointer" = some (.ref a.f_law_is_pointer)
  d_law_is_pointer : Binds K a.d_law_is_pointer ["pointer", "epoch", "serial", "length", "members", "count", "rows"] []
  F_law_refused : Fun K "_law_refused" "_law_refused" s_law_refused a.f_law_refused a.d_law_refused
  g_law_refused : mg "_law_refused" = some (.ref a.f_law_refused)
  d_law_refused : Binds K a.d_law_refused ["store", "words"] []
  F_law_counts_right : Fun K "_law_counts_right" "_law_counts_right" s_law_counts_right a.f_law_counts_right a.d_law_counts_right
  g_law_counts_right : mg "_law_counts_right" = some (.ref a.f_law_counts_right)
  d_law_counts_right : Binds K a.d_law_counts_right ["store", "members", "taken"] []
  F_law : Fun K "law" "law" s_law a.f_law a.d_law
  g_law : mg "law" = some (.ref a.f_law)
  d_law : Binds K a.d_law ["script"] []
  F_Space_init : Fun K "__init__" "Space.__init__" s_Space_init a.f_Space_init a.d_Space_init
  mk_Space : Mk K a.c_Space a.f_Space_init
  d_Space_init : Binds K a.d_Space_init ["self", "rows", "first"] []
  F_Space_take : Fun K "take" "Space.take" s_Space_take a.f_Space_take a.d_Space_take
  m_Space_take : Meth K a.c_Space "take" a.f_Space_take
  d_Space_take : Binds K a.d_Space_take ["self"] []
  F_Space_give : Fun K "give" "Space.give" s_Space_give a.f_Space_give a.d_Space_give
  m_Space_give : Meth K a.c_Space "give" a.f_Space_give
  d_Space_give : Binds K a.d_Space_give ["self", "row"] []
  F_Space_free_count : Fun K "free_count" "Space.free_count" s_Space_free_count a.f_Space_free_count a.d_Space_free_count
  m_Space_free_count : Meth K a.c_Space "free_count" a.f_Space_free_count
  d_Space_free_count : Binds K a.d_Space_free_count ["self"] []
  F_Store_init : Fun K "__init__" "Store.__init__" s_Store_init a.f_Store_init a.d_Store_init
  mk_Store : Mk K a.c_Store a.f_Store_init
  d_Store_init : KBn K a.d_Store_init ["self", "data", "parity", "rows", "members", "epoch"] 1 ["data", "parity", "rows", "members", "epoch"] (fun us ws => us ++ ws) (fun vs zs => vs ++ zs)
  F_Store_look : Fun K "look" "Store.look" s_Store_look a.f_Store_look a.d_Store_look
  m_Store_look : Meth K a.c_Store "look" a.f_Store_look
  d_Store_look : Binds K a.d_Store_look ["self", "images"] []
  F_Store_put : Fun K "put" "Store.put" s_Store_put a.f_Store_put a.d_Store_put
  m_Store_put : Meth K a.c_Store "put" a.f_Store_put
  d_Store_put : Binds K a.d_Store_put ["self", "words", "avoid"] [.ref a.e_Store_put]
  kb_Store_put : KBn K a.d_Store_put ["self", "words", "avoid"] 2 ["avoid"] (fun us ws => us ++ ws) (fun vs zs => vs ++ zs)
  e_Store_put : KTp K a.e_Store_put []
  F_Store_get : Fun K "get" "Store.get" s_Store_get a.f_Store_get a.d_Store_get
  m_Store_get : Meth K a.c_Store "get" a.f_Store_get
  d_Store_get : Binds K a.d_Store_get ["self", "pointer"] []
  F_Store_trim : Fun K "trim" "Store.trim" s_Store_trim a.f_Store_trim a.d_Store_trim
  m_Store_trim : Meth K a.c_Store "trim" a.f_Store_trim
  d_Store_trim : Binds K a.d_Store_trim ["self", "live"] []
  F_Store_forget : Fun K "_forget" "Store._forget" s_Store_forget a.f_Store_forget a.d_Store_forget
  m_Store_forget : Meth K a.c_Store "_forget" a.f_Store_forget
  d_Store_forget : Binds K a.d_Store_forget ["self", "pointers"] []
  F_Store_free_counts : Fun K "free_counts" "Store.free_counts" s_Store_free_counts a.f_Store_free_counts a.d_Store_free_counts
  m_Store_free_counts : Meth K a.c_Store "free_counts" a.f_Store_free_counts
  d_Store_free_counts : Binds K a.d_Store_free_counts ["self"] []
  g_PRIME : ∃ u, mg "PRIME" = some u ∧ RelV (.int 65521) u
  g_MAX_PIECES : ∃ u, mg "MAX_PIECES" = some u ∧ RelV (.int 8) u
  g_MAX_DISKS : ∃ u, mg "MAX_DISKS" = some u ∧ RelV (.int 8) u
  g_MAX_PAYLOAD : ∃ u, mg "MAX_PAYLOAD" = some u ∧ RelV (.int 1000) u
  g_MAX_ROWS : ∃ u, mg "MAX_ROWS" = some u ∧ RelV (.int 4000) u
  g_FIRST_ROW : ∃ u, mg "FIRST_ROW" = some u ∧ RelV (.int 18) u
  g_NEW : ∃ u, mg "NEW" = some u ∧ RelV (.int 1) u
  g_OLD : ∃ u, mg "OLD" = some u ∧ RelV (.int 2) u
  g_WAITING : ∃ u, mg "WAITING" = some u ∧ RelV (.int 3) u
  g_LABEL : ∃ u, mg "LABEL" = some u ∧ RelV (.int 1) u
  g_PIECE : ∃ u, mg "PIECE" = some u ∧ RelV (.int 3) u
  g_HEADER_WORDS : ∃ u, mg "HEADER_WORDS" = some u ∧ RelV (.int 6) u
  g_CHECK_WORDS : ∃ u, mg "CHECK_WORDS" = some u ∧ RelV (.int 2) u
  hw : a.wd = w
  n_len : mg "len" = none
  n_enumerate : mg "enumerate" = none
  n_sum : mg "sum" = none
  n_zip : mg "zip" = none
  n_list : mg "list" = none
  n_tuple : mg "tuple" = none
  n_min : mg "min" = none
  n_max : mg "max" = none
  n_sorted : mg "sorted" = none
  n_int : mg "int" = none
  n_abs : mg "abs" = none
  n_isinstance : mg "isinstance" = none
  n_bool : mg "bool" = none
  n_range : mg "range" = none
  n_all : mg "all" = none
  g_Space : mg "Space" = some (.ref a.c_Space)
  cl_Space : Cls K a.c_Space
  na_Space_first : NoAttr K a.c_Space "_first"
  na_Space_lowest : NoAttr K a.c_Space "_lowest"
  na_Space_rows : NoAttr K a.c_Space "_rows"
  na_Space_states : NoAttr K a.c_Space "_states"
  g_Store : mg "Store" = some (.ref a.c_Store)
  cl_Store : Cls K a.c_Store
  na_Store_blocks : NoAttr K a.c_Store "_blocks"
  na_Store_images : NoAttr K a.c_Store "_images"
  na_Store_made : NoAttr K a.c_Store "_made"
  na_Store_memory : NoAttr K a.c_Store "_memory"
  na_Store_spaces : NoAttr K a.c_Store "_spaces"
  na_Store_data : NoAttr K a.c_Store "data"
  na_Store_epoch : NoAttr K a.c_Store "epoch"
  na_Store_members : NoAttr K a.c_Store "members"
  na_Store_parity : NoAttr K a.c_Store "parity"
  na_Store_rows : NoAttr K a.c_Store "rows"
  g_PoolError : mg "PoolError" = some (.ref a.c_PoolError)
  x_PoolError : PySem.W.excIn K a.c_PoolError [.type "ValueError", .type "Exception", .type "BaseException", .type "object"] "ValueError.__new__" = true
  k_PoolError : PySem.W.keepIn K (.ref a.c_PoolError) = true
  b_PoolError : PySem.W.subIn K (.ref a.c_PoolError) (.type "BaseException") = some true
  t_PoolError : PySem.W.typeIn K (.ref a.c_PoolError) = some (.type "type")
  E_PoolError : ExcC K a.c_PoolError
  g_InvalidArgument : mg "InvalidArgument" = some (.ref a.c_InvalidArgument)
  x_InvalidArgument : PySem.W.excIn K a.c_InvalidArgument [.type "ValueError", .type "Exception", .type "BaseException", .type "object"] "ValueError.__new__" = true
  k_InvalidArgument : PySem.W.keepIn K (.ref a.c_InvalidArgument) = true
  b_InvalidArgument : PySem.W.subIn K (.ref a.c_InvalidArgument) (.type "BaseException") = some true
  t_InvalidArgument : PySem.W.typeIn K (.ref a.c_InvalidArgument) = some (.type "type")
  E_InvalidArgument : ExcC K a.c_InvalidArgument
  g_NotEnoughPieces : mg "NotEnoughPieces" = some (.ref a.c_NotEnoughPieces)
  x_NotEnoughPieces : PySem.W.excIn K a.c_NotEnoughPieces [.type "ValueError", .type "Exception", .type "BaseException", .type "object"] "ValueError.__new__" = true
  k_NotEnoughPieces : PySem.W.keepIn K (.ref a.c_NotEnoughPieces) = true
  b_NotEnoughPieces : PySem.W.subIn K (.ref a.c_NotEnoughPieces) (.type "BaseException") = some true
  t_NotEnoughPieces : PySem.W.typeIn K (.ref a.c_NotEnoughPieces) = some (.type "type")
  E_NotEnoughPieces : ExcC K a.c_NotEnoughPieces
  g_NoSpace : mg "NoSpace" = some (.ref a.c_NoSpace)
  x_NoSpace : PySem.W.excIn K a.c_NoSpace [.type "ValueError", .type "Exception", .type "BaseException", .type "object"] "ValueError.__new__" = true
  k_NoSpace : PySem.W.keepIn K (.ref a.c_NoSpace) = true
  b_NoSpace : PySem.W.subIn K (.ref a.c_NoSpace) (.type "BaseException") = some true
  t_NoSpace : PySem.W.typeIn K (.ref a.c_NoSpace) = some (.type "type")
  E_NoSpace : ExcC K a.c_NoSpace
  g_NotEnoughDisks : mg "NotEnoughDisks" = some (.ref a.c_NotEnoughDisks)
  x_NotEnoughDisks : PySem.W.excIn K a.c_NotEnoughDisks [.type "ValueError", .type "Exception", .type "BaseException", .type "object"] "ValueError.__new__" = true
  k_NotEnoughDisks : PySem.W.keepIn K (.ref a.c_NotEnoughDisks) = true
  b_NotEnoughDisks : PySem.W.subIn K (.ref a.c_NotEnoughDisks) (.type "BaseException") = some true
  t_NotEnoughDisks : PySem.W.typeIn K (.ref a.c_NotEnoughDisks) = some (.type "type")
  E_NotEnoughDisks : ExcC K a.c_NotEnoughDisks
  g_Damaged : mg "Damaged" = some (.ref a.c_Damaged)
  x_Damaged : PySem.W.excIn K a.c_Damaged [.type "ValueError", .type "Exception", .type "BaseException", .type "object"] "ValueError.__new__" = true
  k_Damaged : PySem.W.keepIn K (.ref a.c_Damaged) = true
  b_Damaged : PySem.W.subIn K (.ref a.c_Damaged) (.type "BaseException") = some true
  t_Damaged : PySem.W.typeIn K (.ref a.c_Damaged) = some (.type "type")
  E_Damaged : ExcC K a.c_Damaged
  u_InvalidArgument_PoolError : PySem.W.exmOne K (.ref a.c_InvalidArgument) (.ref a.c_PoolError) = some true
  i_InvalidArgument_InvalidArgument : PySem.W.kitOne K (.ref a.c_InvalidArgument) (.ref a.c_InvalidArgument) = some true
/-! the promises -/
/-! the draws: a list of the script, a place in it, a rest, a seed -/
/-- at p stands a pot, its script's list at l -/
def Pot (H : Hp) (p l : Addr) : Prop := ∃ (ns : List Int) (i acc seed : Int), H p = some (.lst [.ref l, .int i, .int acc, .int seed]) ∧ H l = some (.lst (ns.map V.int)) ∧ 0 ≤ i ∧ 0 ≤ acc ∧ 0 ≤ seed ∧ seed < 2147483647
theorem Pot.ne {H : Hp} {p l : Addr} (h : Pot H p l) : l ≠ p := by
  obtain ⟨ns, i, acc, seed, h1, h2, _⟩ := h
  refine ne_of h2 h1 fun e => ?_
  have e1 := HO.lst.inj e
  cases ns with
  | nil => cases e1
  | cons a r => rw [List.map_cons] at e1; injection e1 with e2 _; cases e2
theorem Pot.same {H H' : Hp} {p l : Addr} (h : Pot H p l) (s : Same H H') : Pot H' p l := by
  obtain ⟨ns, i, acc, seed, h1, h2, h3⟩ := h
  exact ⟨ns, i, acc, seed, s _ _ h1, s _ _ h2, h3⟩
theorem Pot.only {H H' : Hp} {p l q : Addr} (h : Pot H p l) (s : Only q H H') (n1 : p ≠ q) (n2 : l ≠ q) : Pot H' p l := by
  obtain ⟨ns, i, acc, seed, h1, h2, h3⟩ := h
  exact ⟨ns, i, acc, seed, by rw [s _ n1]; exact h1, by rw [s _ n2]; exact h2, h3⟩
/-- a draw's answer below the limit -/
def sp_law_next (K : PySem.W.Frag) (a : Ad) : Sp := fun vs H Q _ => ∃ (p l : Addr) (m : Int), vs = [.ref p, .int m] ∧ Pot H p l ∧ 0 < m ∧ m < 1099511627776 ∧
  ∀ (v : Int) (H' : Hp), 0 ≤ v → v < m → Pot H' p l → Only p H H' → Q (.int v) H'
theorem sp_law_next_len {K : PySem.W.Frag} {a : Ad} {vs : List V} {H : Hp} {Q : VK} {E : XK} (h : sp_law_next K a vs H Q E) : vs.length = 2 := by
  obtain ⟨p, l, m, rfl, _⟩ := h
  rfl
def sp_law_pot (K : PySem.W.Frag) (a : Ad) : Sp := fun vs H Q _ => ∃ (s : Addr) (ns : List Int), vs = [.ref s] ∧ SqL K H s (ns.map V.int) ∧ ns.length ≤ 1000 ∧
  ∀ (p l : Addr) (H' : Hp), H p = none → H l = none → Same H H' → Pot H' p l → Q (.ref p) H'
theorem sp_law_pot_len {K : PySem.W.Frag} {a : Ad} {vs : List V} {H : Hp} {Q : VK} {E : XK} (h : sp_law_pot K a vs H Q E) : vs.length = 1 := by
  obtain ⟨s, ns, rfl, _⟩ := h
  rfl
/-- the law itself: True at every script -/
def sp_law0 (K : PySem.W.Frag) : Sp := fun vs H Q _ => ∃ (s : Addr) (ns : List Int), vs = [.ref s] ∧ SqL K H s (ns.map V.int) ∧ ns.length ≤ 63 ∧ ∀ H', Q (.bl true) H'
def sp_law (K : PySem.W.Frag) (a : Ad) : Sp := sp_law0 K
theorem sp_law_len {K : PySem.W.Frag} {a : Ad} {vs : List V} {H : Hp} {Q : VK} {E : XK} (h : sp_law K a vs H Q E) : vs.length = 1 := by
  obtain ⟨s, ns, rfl, _⟩ := h
  rfl
theorem int_item {ns : List Int} {i : Nat} {y : V} (h : (ns.map V.int)[i]? = some y) : ∃ z, ns[i]? = some z ∧ y = V.int z := by
  rw [List.getElem?_map] at h
  cases e : ns[i]? with
  | none => rw [e] at h; cases h
  | some z => rw [e] at h; exact ⟨z, rfl, (Option.some.inj h).symm⟩
/-- the pot's own object is no list of refs alone, no tuple -/
theorem Pot.list {H : Hp} {p l : Addr} (h : Pot H p l) : ∃ i acc seed : Int, H p = some (.lst [.ref l, .int i, .int acc, .int seed]) := by
  obtain ⟨ns, i, acc, seed, h1, _⟩ := h
  exact ⟨i, acc, seed, h1⟩
theorem But.seq {K : PySem.W.Frag} {H H' : Hp} {p a : Addr} {xs : List V} (b : But p H H') (n : a ≠ p) (h : SqL K H a xs) : SqL K H' a xs := by
  rcases h with (h | ⟨o, h⟩) | h
  · exact .inl (.inl (b _ _ h n))
  · exact .inl (.inr ⟨o, b _ _ h n⟩)
  · exact .inr h
theorem But.tup {K : PySem.W.Frag} {H H' : Hp} {p l a : Addr} {xs : List V} (P : Pot H p l) (b : But p H H') (h : SqT K H a xs) : SqT K H' a xs := by
  obtain ⟨i, acc, seed, hp⟩ := P.list
  rcases h with (h | ⟨o, h⟩) | h
  · exact .inl (.inl (b _ _ h (ne_of h hp (by intro q; cases q))))
  · exact .inl (.inr ⟨o, b _ _ h (ne_of h hp (by intro q; cases q))⟩)
  · exact .inr h
theorem Pot.noList {H : Hp} {p l a : Addr} (P : Pot H p l) {xs : List V} (h : H a = some (.lst xs)) (hx : ∀ i acc seed : Int, xs ≠ [.ref l, .int i, .int acc, .int seed]) : a ≠ p := by
  obtain ⟨i, acc, seed, hp⟩ := P.list
  exact ne_of h hp fun q => hx i acc seed (HO.lst.inj q)
theorem Pot.off {H : Hp} {p l q : Addr} (P : Pot H p l) (h : H q = none) : p ≠ q ∧ l ≠ q := by
  obtain ⟨_, _, _, _, g1, g2, _⟩ := P
  exact ⟨ne_of_none g1 h, ne_of_none g2 h⟩
theorem Pot.new {H : Hp} {p l q : Addr} {o : HO} (P : Pot H p l) (h : H q = none) : Pot (upd H q o) p l := P.same (Same.new h)
/-- an int is an int -/
def sp_law_is_int (K : PySem.W.Frag) (a : Ad) : Sp := fun vs H Q _ => ∃ x : Int, vs = [.int x] ∧ Q (.bl true) H
theorem sp_law_is_int_len {K : PySem.W.Frag} {a : Ad} {vs : List V} {H : Hp} {Q : VK} {E : XK} (h : sp_law_is_int K a vs H Q E) : vs.length = 1 := by
  obtain ⟨x, rfl, _⟩ := h
  rfl
/-! words drawn, a polynomial's value -/
def sp_law_word (K : PySem.W.Frag) (a : Ad) : Sp := fun vs H Q _ => ∃ (p l : Addr), vs = [.ref p] ∧ Pot H p l ∧ ∀ (v : Int) (H' : Hp), Wd v → Pot H' p l → Only p H H' → Q (.int v) H'
theorem sp_law_word_len {K : PySem.W.Frag} {a : Ad} {vs : List V} {H : Hp} {Q : VK} {E : XK} (h : sp_law_word K a vs H Q E) : vs.length = 1 := by
  obtain ⟨p, l, rfl, _⟩ := h
  rfl
def sp_law_words (K : PySem.W.Frag) (a : Ad) : Sp := fun vs H Q _ => ∃ (p l : Addr) (n : Int), vs = [.ref p, .int n] ∧ Pot H p l ∧ 0 ≤ n ∧ n ≤ 5000 ∧
  ∀ (D : Addr) (ws : List Int) (H' : Hp), ws.length = n.toNat → (∀ w ∈ ws, Wd w) → H D = none → H' D = some (.lst (ws.map V.int)) → But p H H' → Pot H' p l → Q (.ref D) H'
theorem sp_law_words_len {K : PySem.W.Frag} {a : Ad} {vs : List V} {H : Hp} {Q : VK} {E : XK} (h : sp_law_words K a vs H Q E) : vs.length = 2 := by
  obtain ⟨p, l, n, rfl, _⟩ := h
  rfl
/-! candidates -/
structure Cd where
  t : Addr
  d : Int
  b : Bool
  f : Int
abbrev cdV (e : Cd) : V := .ref e.t
def beforeM (x y : Cd) : Bool := if x.b = y.b then (if x.f = y.f then decide (x.d < y.d) else decide (y.f < x.f)) else x.b
def usableM (L : List Cd) : List Cd := L.filter fun e => decide (0 < e.f)
def rankM (U : List Cd) (x : Cd) : Nat := (U.filter fun y => beforeM y x).length
def bestM (U : List Cd) (w : Nat) : List Int := (U.filter fun x => decide (rankM U x < w)).map (·.d)
theorem before_irr (x : Cd) : beforeM x x = false := by
  unfold beforeM
  rw [if_pos rfl, if_pos rfl]
  exact decide_eq_false (Int.lt_irrefl _)
theorem before_asym {x y : Cd} (h : beforeM x y = true) : beforeM y x = false := by
  obtain ⟨t1, d1, b1, f1⟩ := x
  obtain ⟨t2, d2, b2, f2⟩ := y
  unfold beforeM at h ⊢
  dsimp only at h ⊢
  by_cases hb : b1 = b2
  · subst hb
    rw [if_pos rfl] at h ⊢
    by_cases hf : f1 = f2
    · subst hf
      rw [if_pos rfl] at h ⊢
      have := of_decide_eq_true h
      exact decide_eq_false (by omega)
    · rw [if_neg hf] at h
      rw [if_neg (Ne.symm hf)]
      have := of_decide_eq_true h
      exact decide_eq_false (by omega)
  · rw [if_neg hb] at h
    rw [if_neg (Ne.symm hb)]
    cases b2 with
    | false => rfl
    | true => rw [h] at hb; exact absurd rfl hb
theorem before_tot {x y : Cd} (n : x.d ≠ y.d) (h : beforeM x y = false) : beforeM y x = true := by
  obtain ⟨t1, d1, b1, f1⟩ := x
  obtain ⟨t2, d2, b2, f2⟩ := y
  unfold beforeM at h ⊢
  dsimp only at n h ⊢
  by_cases hb : b1 = b2
  · subst hb
    rw [if_pos rfl] at h ⊢
    by_cases hf : f1 = f2
    · subst hf
      rw [if_pos rfl] at h ⊢
      have := of_decide_eq_false h
      exact decide_eq_true (by omega)
    · rw [if_neg hf] at h
      rw [if_neg (Ne.symm hf)]
      have := of_decide_eq_false h
      exact decide_eq_true (by omega)
  · rw [if_neg hb] at h
    rw [if_neg (Ne.symm hb)]
    cases b2 with
    | true => rfl
    | false => rw [h] at hb; exact absurd rfl hb
def leM (x y : Cd) : Bool := !beforeM y x
theorem before_trans {x y z : Cd} (h1 : beforeM y x = false) (h2 : beforeM z y = false) : beforeM z x = false := by
  obtain ⟨t1, d1, b1, f1⟩ := x
  obtain ⟨t2, d2, b2, f2⟩ := y
  obtain ⟨t3, d3, b3, f3⟩ := z
  unfold beforeM at h1 h2 ⊢
  dsimp only at h1 h2 ⊢
  cases b1 <;> cases b2 <;> cases b3 <;> simp only [if_true, Bool.false_eq_true, Bool.true_eq_false, if_false, reduceCtorEq] at h1 h2 ⊢ <;>
    (split at h1 <;> split at h2 <;> split <;> simp only [decide_eq_false_iff_not] at h1 h2 ⊢ <;> omega)
theorem leM_trans (x y z : Cd) (h1 : leM x y = true) (h2 : leM y z = true) : leM x z = true := by
  unfold leM at h1 h2 ⊢
  rw [Bool.not_eq_true'] at h1 h2 ⊢
  exact before_trans h1 h2
theorem leM_total (x y : Cd) : (leM x y || leM y x) = true := by
  unfold leM
  cases h : beforeM y x with
  | false => rfl
  | true => rw [before_asym h]; rfl
theorem rank_aux (w : Nat) : ∀ (S P : List Cd), (P ++ S).Pairwise (fun x y => beforeM x y = true) → S.filter (fun x => decide (rankM (P ++ S) x < w)) = S.take (w - P.length)
  | [], P, _ => by simp
  | a :: T, P, h => by
    have e : P ++ a :: T = (P ++ [a]) ++ T := by simp
    have hP := List.pairwise_append.mp h
    have ha : rankM (P ++ a :: T) a = P.length := by
      unfold rankM
      rw [List.filter_append, List.filter_eq_self.mpr (fun x m => hP.2.2 x m a (by simp)), List.filter_cons_of_neg (by rw [before_irr]; decide), List.filter_eq_nil_iff.mpr (fun x m => by rw [before_asym ((List.pairwise_cons.mp hP.2.1).1 x m)]; decide), List.append_nil]
    have ih := rank_aux w T (P ++ [a]) (by rw [← e]; exact h)
    rw [← e, List.length_append] at ih
    by_cases hw : P.length < w
    · rw [List.filter_cons_of_pos (by rw [ha]; exact decide_eq_true hw), ih]
      rw [show w - P.length = (w - (P.length + [a].length)) + 1 by simp; omega, List.take_succ_cons]
    · rw [List.filter_cons_of_neg (by rw [ha, decide_eq_false hw]; decide), ih, show w - P.length = 0 by omega, show w - (P.length + [a].length) = 0 by omega, List.take_zero, List.take_zero]
theorem rank_perm {U S : List Cd} (p : S.Perm U) (x : Cd) : rankM S x = rankM U x := (p.filter _).length_eq
theorem best_of {U S : List Cd} {w : Nat} (p : S.Perm U) (h : S.Pairwise fun x y => beforeM x y = true) : ((S.take w).map (·.d)).Perm (bestM U w) := by
  have h1 := rank_aux w S [] h
  have e : S.take w = S.filter fun x => decide (rankM U x < w) := by
    have h2 : S.filter (fun x => decide (rankM ([] ++ S) x < w)) = S.take (w - 0) := h1
    rw [Nat.sub_zero] at h2
    rw [← h2]
    refine List.filter_congr fun x _ => ?_
    rw [List.nil_append, rank_perm p]
  rw [e]
  exact (p.filter _).map _
theorem strict_of {S : List Cd} (h : S.Pairwise fun x y => leM x y = true) (n : (S.map (·.d)).Nodup) : S.Pairwise fun x y => beforeM x y = true := by
  have n' : S.Pairwise fun x y => x.d ≠ y.d := List.pairwise_map.mp n
  refine (h.and n').imp fun {x y} q => ?_
  have q1 : beforeM y x = false := by
    have := q.1
    unfold leM at this
    rw [Bool.not_eq_true'] at this
    exact this
  exact before_tot (Ne.symm q.2) q1
theorem sorted_one {xs ys : List Int} (p : xs.Perm ys) (h1 : xs.Pairwise (· ≤ ·)) (h2 : ys.Pairwise (· ≤ ·)) : xs = ys :=
  List.Perm.eq_of_pairwise (le := (· ≤ ·)) (fun _ _ _ _ h1 h2 => Int.le_antisymm h1 h2) h1 h2 p
def tripD (e : Cd) : PyData := .tuple [.bool (!e.b), .int (-e.f), .int e.d]
theorem trip_alike (x y : Cd) : PySem.W.alike (tripD x) (tripD y) = true := by simp [PySem.W.alike, PySem.W.alikeAll, tripD]
theorem trip_lt (x y : Cd) : PySem.W.dataLt (tripD x) (tripD y) = beforeM x y := by
  unfold tripD
  rw [PySem.W.dataLt_tuple, PySem.W.dataLt_cons (by simp [PySem.W.alike]), PySem.W.dataLt_cons (by simp [PySem.W.alike]), PySem.W.dataLt_cons (by simp [PySem.W.alike]), PySem.W.dataLt_bool, PySem.W.dataLt_int, PySem.W.dataLt_int]
  have e : PyProof.Rows.lexLt PyProof.Rows.itemOrd (PySem.W.keyToksAll []) (PySem.W.keyToksAll []) = false := PyProof.Rows.lex_irrefl _
  rw [e]
  simp only [PyData.eqv]
  obtain ⟨t1, d1, b1, f1⟩ := x
  obtain ⟨t2, d2, b2, f2⟩ := y
  unfold beforeM
  dsimp only
  by_cases hf : f1 = f2
  · subst hf
    by_cases hd : d1 = d2
    · subst hd
      cases b1 <;> cases b2 <;> simp [PyProof.Rows.b2i]
    · cases b1 <;> cases b2 <;> simp [PyProof.Rows.b2i, hd]
  · have hf' : ¬ -f1 = -f2 := fun z => hf (by omega)
    have e2 : decide (-f1 < -f2) = decide (f2 < f1) := by
      by_cases q : f2 < f1
      · rw [decide_eq_true q, decide_eq_true (show -f1 < -f2 by omega)]
      · rw [decide_eq_false q, decide_eq_false (show ¬ -f1 < -f2 by omega)]
    rw [e2]
    cases b1 <;> cases b2 <;> simp [PyProof.Rows.b2i, hf, hf']
/-- where such a list stands -/
def CdL (K : PySem.W.Frag) (H : Hp) (D : Addr) (L : List Cd) : Prop := SqL K H D (L.map cdV) ∧ ∀ e ∈ L, H e.t = some (.tup [.int e.d, .bl e.b, .int e.f])
theorem CdL.same {K : PySem.W.Frag} {H H' : Hp} {D : Addr} {L : List Cd} (h : CdL K H D L) (s : Same H H') : CdL K H' D L := ⟨s.seq h.1, fun e m => s _ _ (h.2 e m)⟩
theorem cd_item {L : List Cd} {i : Nat} {y : V} (h : (L.map cdV)[i]? = some y) : ∃ e, L[i]? = some e ∧ y = cdV e := by
  rw [List.getElem?_map] at h
  cases q : L[i]? with
  | none => rw [q] at h; cases h
  | some e => rw [q] at h; exact ⟨e, rfl, (Option.some.inj h).symm⟩
theorem cd_get {L : List Cd} {i : Nat} {e : Cd} (h : L[i]? = some e) : (L.map cdV)[i]? = some (cdV e) := by rw [List.getElem?_map, h]; rfl
/-- the data of a triple that stands in the heap -/
def kH (H : Hp) : V → PyData
  | .ref t => match H t with
    | some (.tup [.bl b, .int f, .int d]) => .tuple [.bool b, .int f, .int d]
    | _ => .none
  | _ => .none
theorem kH_of {H : Hp} {t : Addr} {e : Cd} (h : H t = some (.tup [.bl (!e.b), .int (-e.f), .int e.d])) : kH H (.ref t) = tripD e := by
  unfold kH
  simp only [h]
  rfl
theorem filter_snoc {α : Type} (p : α → Bool) {L : List α} {i : Nat} {e : α} (h : L[i]? = some e) : (L.take (i + 1)).filter p = (L.take i).filter p ++ if p e then [e] else [] := by
  rw [take_snoc h, List.filter_append]
  congr 1
  simp only [List.filter_cons, List.filter_nil]
theorem filter_len {α : Type} (p : α → Bool) (L : List α) (i : Nat) : ((L.take i).filter p).length ≤ L.length := Nat.le_trans (List.length_filter_le _ _) (by rw [List.length_take]; exact Nat.min_le_right _ _)
/-- candidates as data -/
def cdD (e : Cd) : PyData := .tuple [.int e.d, .bool e.b, .int e.f]
theorem cds_data : ∀ L : List Cd, PyData.canLayAll0 (L.map cdD) = true ∧ PyData.depthAll (L.map cdD) ≤ 1 ∧ PyData.eqvAll (L.map cdD) (L.map cdD) = true
  | [] => ⟨rfl, Nat.zero_le _, by simp [PyData.eqvAll]⟩
  | q :: qs => by
    obtain ⟨h1, h2, h3⟩ := cds_data qs
    refine ⟨by simp [PyData.canLayAll0, PyData.canLay0, cdD, h1], ?_, by simp [PyData.eqvAll, PyData.eqv, cdD, h3]⟩
    simp only [List.map_cons, PyData.depthAll, cdD, PyData.depth]
    omega
theorem cds_shaped (L : List Cd) : SeqAt.shaped (.list (L.map cdD)) = true := by
  obtain ⟨h1, h2, _⟩ := cds_data L
  have e : PyData.depth (.list (L.map cdD)) = PyData.depthAll (L.map cdD) + 1 := by simp only [PyData.depth]
  unfold SeqAt.shaped
  rw [Bool.and_eq_true]
  exact ⟨by simp only [PyData.canLay0]; exact h1, decide_eq_true (by rw [e]; omega)⟩
theorem cds_eqv (L : List Cd) : PyData.eqv (.list (L.map cdD)) (.list (L.map cdD)) = true := by
  simp only [PyData.eqv]
  exact (cds_data L).2.2
theorem dp_cds {K : PySem.W.Frag} {H : Hp} {D : Addr} {L : List Cd} (h : CdL K H D L) : Dp K H (.ref D) (.list (L.map cdD)) := by
  refine .lst h.1 ?_
  have : ∀ M : List Cd, (∀ e ∈ M, H e.t = some (.tup [.int e.d, .bl e.b, .int e.f])) → DpAll K H (M.map cdV) (M.map cdD) := by
    intro M
    induction M with
    | nil => intro _; exact .nil
    | cons e M ih => exact fun g => .cons (.tup (SqT.of (g e (by simp))) (.cons (.int _) (.cons (.bl _) (.cons (.int _) .nil)))) (ih fun u m => g u (List.mem_cons_of_mem _ m))
  exact this L h.2
def sp_choose_disks (K : PySem.W.Frag) (a : Ad) : Sp := fun vs H Q E => ∃ (C : Addr) (L : List Cd) (w : Nat), vs = [.ref C, .int (w : Int)] ∧ CdL K H C L ∧ L.length ≤ 20 ∧ w ≤ 1000 ∧ (L.map (·.d)).Nodup ∧
  (L.length < w → ∀ H', Same H H' → E (.ref a.c_NotEnoughDisks) none H') ∧
  (¬ L.length < w → (usableM L).length < w → ∀ H', Same H H' → E (.ref a.c_NoSpace) none H') ∧
  (¬ L.length < w → ¬ (usableM L).length < w → ∀ (D : Addr) (ns : List Int) (H' : Hp), Same H H' → H D = none → H' D = some (.lst (ns.map V.int)) → ns.Perm (bestM (usableM L) w) → ns.Pairwise (· ≤ ·) → Q (.ref D) H')
theorem sp_choose_disks_len {K : PySem.W.Frag} {a : Ad} {vs : List V} {H : Hp} {Q : VK} {E : XK} (h : sp_choose_disks K a vs H Q E) : vs.length = 2 := by
  obtain ⟨C, L, w, rfl, _⟩ := h
  rfl
def sp_law_answer (K : PySem.W.Frag) (a : Ad) : Sp := fun vs H Q _ => ∃ (C : Addr) (L : List Cd) (w : Nat), vs = [.ref C, .int (w : Int)] ∧ CdL K H C L ∧ L.length ≤ 20 ∧ w ≤ 1000 ∧ (L.map (·.d)).Nodup ∧
  (L.length < w → ∀ H', Same H H' → Q (.int 3) H') ∧
  (¬ L.length < w → (usableM L).length < w → ∀ H', Same H H' → Q (.int 2) H') ∧
  (¬ L.length < w → ¬ (usableM L).length < w → ∀ (D : Addr) (ns : List Int) (H' : Hp), Same H H' → H D = none → H' D = some (.lst (ns.map V.int)) → ns.Perm (bestM (usableM L) w) → ns.Pairwise (· ≤ ·) → Q (.ref D) H')
theorem sp_law_answer_len {K : PySem.W.Frag} {a : Ad} {vs : List V} {H : Hp} {Q : VK} {E : XK} (h : sp_law_answer K a vs H Q E) : vs.length = 2 := by
  obtain ⟨C, L, w, rfl, _⟩ := h
  rfl
def sp_law_before (K : PySem.W.Frag) (a : Ad) : Sp := fun vs H Q _ => ∃ (x y : Cd), vs = [.ref x.t, .ref y.t] ∧ H x.t = some (.tup [.int x.d, .bl x.b, .int x.f]) ∧ H y.t = some (.tup [.int y.d, .bl y.b, .int y.f]) ∧ Q (.bl (beforeM x y)) H
theorem sp_law_before_len {K : PySem.W.Frag} {a : Ad} {vs : List V} {H : Hp} {Q : VK} {E : XK} (h : sp_law_before K a vs H Q E) : vs.length = 2 := by
  obtain ⟨x, y, rfl, _⟩ := h
  rfl
/-! the rows of a disk: free 0, new 1, old 2, waiting 3 -/
def flds (rows first : Int) (d : Addr) (low : Int) : List (Str × V) := [("_rows", .int rows), ("_first", .int first), ("_states", .ref d), ("_lowest", .int low)]
theorem flds_init (rows first : Int) (d : Addr) : putF "_lowest" (.int first) (putF "_states" (.ref d) (putF "_first" (.int first) (putF "_rows" (.int rows) []))) = flds rows first d first := by kernel_rfl
theorem flds_low (rows first : Int) (d : Addr) (low z : Int) : putF "_lowest" (.int z) (flds rows first d low) = flds rows first d z := by kernel_rfl
theorem flds_st (rows first : Int) (d e : Addr) (low : Int) : putF "_states" (.ref e) (flds rows first d low) = flds rows first e low := by kernel_rfl
theorem flds_rows (rows first : Int) (d : Addr) (low : Int) : (flds rows first d low).lookup ("_rows" : Str) = some (.int rows) := by kernel_rfl
theorem flds_first (rows first : Int) (d : Addr) (low : Int) : (flds rows first d low).lookup ("_first" : Str) = some (.int first) := by kernel_rfl
theorem flds_states (rows first : Int) (d : Addr) (low : Int) : (flds rows first d low).lookup ("_states" : Str) = some (.ref d) := by kernel_rfl
theorem flds_lowest (rows first : Int) (d : Addr) (low : Int) : (flds rows first d low).lookup ("_lowest" : Str) = some (.int low) := by kernel_rfl
def kvM (M : List (Int × Int)) : List (Key × V) := M.map fun q => (Sum.inl q.1, V.int q.2)
def stM (M : List (Int × Int)) (r : Int) : Int := match M.find? fun q => decide (q.1 = r) with
  | some q => q.2
  | none => 0
theorem valV_M : ∀ (M : List (Int × Int)) (r : Int), valV (kvM M) (Sum.inl r) = (M.find? fun q => decide (q.1 = r)).map fun q => V.int q.2
  | [], _ => rfl
  | q :: M, r => by
    unfold valV kvM
    rw [List.map_cons, List.find?_cons, List.find?_cons]
    by_cases h : q.1 = r
    · rw [show decide ((Sum.inl q.1 : Key) = Sum.inl r) = true from decide_eq_true (by rw [h]), decide_eq_true h]
      rfl
    · rw [show decide ((Sum.inl q.1 : Key) = Sum.inl r) = false from decide_eq_false fun z => h (Sum.inl.inj z), decide_eq_false h]
      exact valV_M M r
/-- what is known of such a dict -/
structure Ok (rows first : Nat) (φ : Int → Int) (M : List (Int × Int)) : Prop where
  nd : (M.map (·.1)).Nodup
  st : ∀ r, φ r = stM M r
  inn : ∀ q ∈ M, ((first : Int) ≤ q.1 ∧ q.1 < rows) ∧ (1 ≤ q.2 ∧ q.2 ≤ 3)
theorem stM_mem {M : List (Int × Int)} {r s : Int} (nd : (M.map (·.1)).Nodup) (m : (r, s) ∈ M) : stM M r = s := by
  induction M with
  | nil => cases m
  | cons q M ih =>
    unfold stM
    rw [List.find?_cons]
    rw [List.map_cons, List.nodup_cons] at nd
    rcases List.mem_cons.mp m with e | m'
    · subst e
      rw [decide_eq_true rfl]
    · have : q.1 ≠ r := fun z => nd.1 (List.mem_map.mpr ⟨(r, s), m', z.symm⟩)
      rw [decide_eq_false this]
      exact ih nd.2 m'
theorem stM_get {M : List (Int × Int)} {r : Int} (h : stM M r ≠ 0) : (r, stM M r) ∈ M := by
  unfold stM at h ⊢
  cases e : M.find? fun q => decide (q.1 = r) with
  | none => rw [e] at h; exact absurd rfl h
  | some q =>
    have h1 := List.find?_some e
    have h2 : q.1 = r := of_decide_eq_true h1
    show (r, q.2) ∈ M
    rw [← h2]
    exact List.mem_of_find?_eq_some e
theorem Ok.mem {rows first : Nat} {φ : Int → Int} {M : List (Int × Int)} (h : Ok rows first φ M) {r s : Int} (m : (r, s) ∈ M) : φ r = s := by rw [h.st, stM_mem h.nd m]
theorem Ok.get {rows first : Nat} {φ : Int → Int} {M : List (Int × Int)} (h : Ok rows first φ M) {r : Int} (n : φ r ≠ 0) : (r, φ r) ∈ M := by
  rw [h.st] at n ⊢
  exact stM_get n
theorem Ok.val {rows first : Nat} {φ : Int → Int} {M : List (Int × Int)} (h : Ok rows first φ M) (r : Int) : valV (kvM M) (Sum.inl r) = if φ r = 0 then none else some (V.int (φ r)) := by
  rw [valV_M, h.st]
  unfold stM
  cases e : M.find? fun q => decide (q.1 = r) with
  | none => rfl
  | some q =>
    have := (h.inn q (List.mem_of_find?_eq_some e)).2
    show some (V.int q.2) = if q.2 = 0 then none else some (V.int q.2)
    rw [if_neg (by omega)]
theorem Ok.range {rows first : Nat} {φ : Int → Int} {M : List (Int × Int)} (h : Ok rows first φ M) {r : Int} (n : φ r ≠ 0) : ((first : Int) ≤ r ∧ r < rows) ∧ (1 ≤ φ r ∧ φ r ≤ 3) := h.inn _ (h.get n)
def rowsL (first rows : Nat) : List Int := (List.range (rows - first)).map fun (i : Nat) => ((first + i : Nat) : Int)
theorem rowsL_mem {first rows : Nat} {r : Int} : r ∈ rowsL first rows ↔ (first : Int) ≤ r ∧ r < rows := by
  unfold rowsL
  rw [List.mem_map]
  constructor
  · rintro ⟨i, hi, rfl⟩
    have := List.mem_range.mp hi
    omega
  · rintro ⟨h1, h2⟩
    exact ⟨(r - first).toNat, List.mem_range.mpr (by omega), by omega⟩
theorem rowsL_lt (first rows : Nat) : (rowsL first rows).Pairwise (· < ·) := by
  unfold rowsL
  rw [List.pairwise_map]
  refine List.pairwise_lt_range.imp fun {a b} h => ?_
  omega
theorem rowsL_len (first rows : Nat) : (rowsL first rows).length = rows - first := by simp [rowsL]
def pickL (first rows : Nat) (φ : Int → Int) (p : Int → Bool) : List Int := (rowsL first rows).filter fun r => p (φ r)
theorem pick_sorted (first rows : Nat) (φ : Int → Int) (p : Int → Bool) : (pickL first rows φ p).Pairwise (· ≤ ·) := ((rowsL_lt first rows).filter _).imp fun h => Int.le_of_lt h
theorem pick_perm {rows first : Nat} {φ : Int → Int} {M : List (Int × Int)} (h : Ok rows first φ M) (p : Int → Bool) (hp : p 0 = false) : ((M.filter fun q => p q.2).map (·.1)).Perm (pickL first rows φ p) := by
  have n1 : ((M.filter fun q => p q.2).map (·.1)).Nodup := List.Nodup.sublist (List.Sublist.map _ List.filter_sublist) h.nd
  have n2 : (pickL first rows φ p).Nodup := List.Nodup.sublist List.filter_sublist ((rowsL_lt first rows).imp fun h => Int.ne_of_lt h)
  refine (List.perm_ext_iff_of_nodup n1 n2).mpr fun r => ?_
  unfold pickL
  rw [List.mem_map, List.mem_filter, rowsL_mem]
  constructor
  · rintro ⟨q, hq, rfl⟩
    obtain ⟨m, hp'⟩ := List.mem_filter.mp hq
    rw [h.mem (s := q.2) m]
    exact ⟨(h.inn q m).1, hp'⟩
  · rintro ⟨hr, hp'⟩
    have n : φ r ≠ 0 := fun z => by rw [z, hp] at hp'; cases hp'
    exact ⟨(r, φ r), List.mem_filter.mpr ⟨h.get n, hp'⟩, rfl⟩
def upF (φ : Int → Int) (r s : Int) : Int → Int := fun x => if x = r then s else φ x
theorem stM_snoc {M : List (Int × Int)} {r s : Int} (h : stM M r = 0) (hM : ∀ q ∈ M, 1 ≤ q.2) (x : Int) : stM (M ++ [(r, s)]) x = upF (stM M) r s x := by
  unfold upF
  by_cases e : x = r
  · subst e
    rw [if_pos rfl]
    have : M.find? (fun q => decide (q.1 = x)) = none := by
      cases q : M.find? fun q => decide (q.1 = x) with
      | none => rfl
      | some y =>
        unfold stM at h
        rw [q] at h
        have h1 := hM y (List.mem_of_find?_eq_some q)
        have h2 : y.2 = 0 := h
        omega
    unfold stM
    rw [List.find?_append, this]
    simp
  · rw [if_neg e]
    unfold stM
    rw [List.find?_append]
    cases q : M.find? fun q => decide (q.1 = x) with
    | some y => rfl
    | none => simp [Ne.symm e]
theorem Ok.put {rows first : Nat} {φ : Int → Int} {M : List (Int × Int)} (h : Ok rows first φ M) {r s : Int} (h0 : φ r = 0) (hr : (first : Int) ≤ r ∧ r < rows) (hs : 1 ≤ s ∧ s ≤ 3) : Ok rows first (upF φ r s) (M ++ [(r, s)]) := by
  have hM : ∀ q ∈ M, 1 ≤ q.2 := fun q m => (h.inn q m).2.1
  have h0' : stM M r = 0 := by rw [← h.st]; exact h0
  refine ⟨?_, fun x => ?_, fun q m => ?_⟩
  · rw [List.map_append, List.nodup_append]
    refine ⟨h.nd, by simp, fun a ha b hb => ?_⟩
    have : b = r := by simpa using hb
    subst this
    obtain ⟨q, m, rfl⟩ := List.mem_map.mp ha
    intro z
    have h1 := stM_mem h.nd (r := q.1) (s := q.2) m
    rw [z, h0'] at h1
    have := hM q m
    omega
  · rw [stM_snoc h0' hM]
    unfold upF
    split
    · rfl
    · exact h.st x
  · rcases List.mem_append.mp m with m | m
    · exact h.inn q m
    · have : q = (r, s) := by simpa using m
      subst this
      exact ⟨hr, hs⟩
theorem Ok.of {rows first : Nat} {φ : Int → Int} {M : List (Int × Int)} (nd : (M.map (·.1)).Nodup) (inn : ∀ q ∈ M, ((first : Int) ≤ q.1 ∧ q.1 < rows) ∧ (1 ≤ q.2 ∧ q.2 ≤ 3)) (hm : ∀ x, φ x ≠ 0 → (x, φ x) ∈ M) (hm2 : ∀ q ∈ M, φ q.1 = q.2) : Ok rows first φ M := by
  refine ⟨nd, fun x => ?_, inn⟩
  by_cases h : φ x = 0
  · by_cases g : stM M x = 0
    · rw [h, g]
    · have := hm2 _ (stM_get g)
      exact this
  · exact (stM_mem nd (hm x h)).symm
theorem Ok.len {rows first : Nat} {φ : Int → Int} {M : List (Int × Int)} (h : Ok rows first φ M) : M.length = (pickL first rows φ fun s => decide (s ≠ 0)).length := by
  have p := (pick_perm h (fun s => decide (s ≠ 0)) (by decide)).length_eq
  have e : (M.filter fun q => decide (q.2 ≠ 0)) = M := List.filter_eq_self.mpr fun q m => decide_eq_true (by have := (h.inn q m).2; omega)
  rw [e, List.length_map] at p
  exact p
theorem pick_le (first rows : Nat) (φ : Int → Int) (p : Int → Bool) : (pickL first rows φ p).length ≤ rows - first := Nat.le_trans (List.length_filter_le _ _) (by rw [rowsL_len]; exact Nat.le_refl _)
def setM (M : List (Int × Int)) (r s : Int) : List (Int × Int) := M.map fun q => if q.1 = r then (q.1, s) else q
theorem setM_keys (M : List (Int × Int)) (r s : Int) : (setM M r s).map (·.1) = M.map (·.1) := by
  unfold setM
  rw [List.map_map]
  refine List.map_congr_left fun q _ => ?_
  show (if q.1 = r then (q.1, s) else q).1 = q.1
  split <;> rfl
theorem kv_set {M : List (Int × Int)} {r s : Int} (h : (valV (kvM M) (Sum.inl r)).isSome = true) : putK (kvM M) (Sum.inl r) (V.int s) = kvM (setM M r s) := by
  unfold putK
  rw [valV_any, if_pos h]
  unfold kvM setM
  rw [List.map_map, List.map_map]
  refine List.map_congr_left fun q _ => ?_
  show (if (Sum.inl q.1 : Key) = Sum.inl r then ((Sum.inl q.1 : Key), V.int s) else (Sum.inl q.1, V.int q.2)) = (Sum.inl (if q.1 = r then (q.1, s) else q).1, V.int (if q.1 = r then (q.1, s) else q).2)
  by_cases e : q.1 = r
  · rw [if_pos (by rw [e]), if_pos e]
  · rw [if_neg fun z => e (Sum.inl.inj z), if_neg e]
theorem kv_new {M : List (Int × Int)} {r s : Int} (h : valV (kvM M) (Sum.inl r) = none) : putK (kvM M) (Sum.inl r) (V.int s) = kvM (M ++ [(r, s)]) := by
  rw [putK_new _ h]
  unfold kvM
  rw [List.map_append]
  rfl
def delM (M : List (Int × Int)) (r : Int) : List (Int × Int) := M.filter fun q => decide (q.1 ≠ r)
theorem kv_del (M : List (Int × Int)) (r : Int) : dropK (kvM M) (Sum.inl r) = kvM (delM M r) := by
  unfold dropK kvM delM
  rw [List.filter_map]
  congr 1
  refine List.filter_congr fun q _ => ?_
  by_cases e : q.1 = r <;> simp [e]
theorem Ok.set {rows first : Nat} {φ : Int → Int} {M : List (Int × Int)} (h : Ok rows first φ M) {r s : Int} (h0 : φ r ≠ 0) (hs : 1 ≤ s ∧ s ≤ 3) : Ok rows first (upF φ r s) (setM M r s) := by
  refine Ok.of (by rw [setM_keys]; exact h.nd) (fun q m => ?_) (fun x hx => ?_) fun q m => ?_
  · obtain ⟨y, my, rfl⟩ := List.mem_map.mp m
    have := h.inn y my
    split
    · exact ⟨this.1, hs⟩
    · exact this
  · unfold upF at hx ⊢
    by_cases e : x = r
    · subst e
      rw [if_pos rfl]
      refine List.mem_map.mpr ⟨(x, φ x), h.get h0, ?_⟩
      rw [if_pos rfl]
    · rw [if_neg e] at hx ⊢
      refine List.mem_map.mpr ⟨(x, φ x), h.get hx, ?_⟩
      rw [if_neg e]
  · obtain ⟨y, my, rfl⟩ := List.mem_map.mp m
    unfold upF
    by_cases e : y.1 = r
    · rw [if_pos e]
      show (if y.1 = r then s else _) = s
      rw [if_pos e]
    · rw [if_neg e, if_neg e]
      exact h.mem (r := y.1) (s := y.2) my
theorem Ok.del {rows first : Nat} {φ : Int → Int} {M : List (Int × Int)} (h : Ok rows first φ M) (r : Int) : Ok rows first (upF φ r 0) (delM M r) := by
  refine Ok.of (List.Nodup.sublist (List.Sublist.map _ List.filter_sublist) h.nd) (fun q m => h.inn q (List.mem_filter.mp m).1) (fun x hx => ?_) fun q m => ?_
  · unfold upF at hx ⊢
    by_cases e : x = r
    · rw [if_pos e] at hx
      exact absurd rfl hx
    · rw [if_neg e] at hx ⊢
      exact List.mem_filter.mpr ⟨h.get hx, decide_eq_true e⟩
  · obtain ⟨m1, m2⟩ := List.mem_filter.mp m
    have m2 := of_decide_eq_true m2
    unfold upF
    rw [if_neg m2]
    exact h.mem (r := q.1) (s := q.2) m1
def settM (M : List (Int × Int)) : List (Int × Int) := (M.filter fun q => decide (q.2 ≠ 3)).map fun q => (q.1, 2)
def settF (φ : Int → Int) : Int → Int := fun x => if φ x = 0 ∨ φ x = 3 then 0 else 2
theorem Ok.sett {rows first : Nat} {φ : Int → Int} {M : List (Int × Int)} (h : Ok rows first φ M) : Ok rows first (settF φ) (settM M) := by
  have ek : (settM M).map (·.1) = (M.filter fun q => decide (q.2 ≠ 3)).map (·.1) := by unfold settM; rw [List.map_map]; rfl
  refine Ok.of (by rw [ek]; exact List.Nodup.sublist (List.Sublist.map _ List.filter_sublist) h.nd) (fun q m => ?_) (fun x hx => ?_) fun q m => ?_
  · obtain ⟨y, my, rfl⟩ := List.mem_map.mp m
    exact ⟨(h.inn y (List.mem_filter.mp my).1).1, by show (1 : Int) ≤ 2; decide, by show (2 : Int) ≤ 3; decide⟩
  · unfold settF at hx ⊢
    by_cases e : φ x = 0 ∨ φ x = 3
    · rw [if_pos e] at hx
      exact absurd rfl hx
    · rw [if_neg e]
      have n0 : φ x ≠ 0 := fun z => e (.inl z)
      exact List.mem_map.mpr ⟨(x, φ x), List.mem_filter.mpr ⟨h.get n0, decide_eq_true fun z => e (.inr z)⟩, rfl⟩
  · obtain ⟨y, my, rfl⟩ := List.mem_map.mp m
    obtain ⟨m1, m2⟩ := List.mem_filter.mp my
    have m2 := of_decide_eq_true m2
    have e := h.mem (r := y.1) (s := y.2) m1
    have := (h.inn y m1).2
    show settF φ y.1 = 2
    unfold settF
    rw [if_neg (by rw [e]; omega)]
/-- a space stands at p, its dict at d -/
def SpD (a : Ad) (H : Hp) (p d : Addr) (first rows : Nat) (φ : Int → Int) : Prop := ∃ (dx : Addr) (low : Int) (M : List (Int × Int)), H p = some (.ins a.c_Space dx (flds rows first d low)) ∧ H d = some (.dK (kvM M)) ∧ Ok rows first φ M ∧ (first : Int) ≤ low ∧ (∀ r, (first : Int) ≤ r → r < low → φ r ≠ 0) ∧ low ≤ rows + 1
theorem SpD.same {a : Ad} {H H' : Hp} {p d : Addr} {first rows : Nat} {φ : Int → Int} (h : SpD a H p d first rows φ) (s : Same H H') : SpD a H' p d first rows φ := by
  obtain ⟨dx, low, M, h1, h2, h3⟩ := h
  exact ⟨dx, low, M, s _ _ h1, s _ _ h2, h3⟩
def Frm (p d : Addr) (H H' : Hp) : Prop := ∀ b o, H b = some o → b ≠ p → b ≠ d → H' b = some o
def InR (first rows : Nat) (r : Int) : Prop := (first : Int) ≤ r ∧ r < rows
def sp_Space_init (K : PySem.W.Frag) (a : Ad) : Sp := fun vs H Q _ => ∃ (p dx : Addr) (first rows : Nat), vs = [.ref p, .int (rows : Int), .int (first : Int)] ∧ H p = some (.ins a.c_Space dx []) ∧ first ≤ rows ∧
  ∀ (d : Addr) (H' : Hp), H d = none → SpD a H' p d first rows (fun _ => 0) → (∀ b o, H b = some o → b ≠ p → H' b = some o) → Q .non H'
def sp_Space_take (K : PySem.W.Frag) (a : Ad) : Sp := fun vs H Q E => ∃ (p d : Addr) (first rows : Nat) (φ : Int → Int), vs = [.ref p] ∧ SpD a H p d first rows φ ∧ rows ≤ 1000 ∧
  ((∀ r, InR first rows r → φ r ≠ 0) → ∀ H', Same H H' → E (.ref a.c_NoSpace) none H') ∧
  (∀ r, InR first rows r → φ r = 0 → (∀ q, (first : Int) ≤ q → q < r → φ q ≠ 0) → ∀ H', SpD a H' p d first rows (upF φ r 1) → Frm p d H H' → Q (.int r) H')
def sp_Space_claim (K : PySem.W.Frag) (a : Ad) : Sp := fun vs H Q E => ∃ (p d : Addr) (first rows : Nat) (φ : Int → Int) (r : Int), vs = [.ref p, .int r] ∧ SpD a H p d first rows φ ∧ rows ≤ 1000 ∧
  (¬ (InR first rows r ∧ φ r = 0) → ∀ H', Same H H' → E (.ref a.c_InvalidArgument) none H') ∧
  (InR first rows r → φ r = 0 → ∀ H', SpD a H' p d first rows (upF φ r 2) → Frm p d H H' → Q .non H')
def sp_Space_give (K : PySem.W.Frag) (a : Ad) : Sp := fun vs H Q E => ∃ (p d : Addr) (first rows : Nat) (φ : Int → Int) (r : Int), vs = [.ref p, .int r] ∧ SpD a H p d first rows φ ∧ rows ≤ 1000 ∧
  ((φ r = 0 ∨ φ r = 3) → ∀ H', Same H H' → E (.ref a.c_InvalidArgument) none H') ∧
  (¬ (φ r = 0 ∨ φ r = 3) → ∀ H', SpD a H' p d first rows (upF φ r (if φ r = 2 then 3 else 0)) → Frm p d H H' → Q .non H')
def sp_Space_settle (K : PySem.W.Frag) (a : Ad) : Sp := fun vs H Q _ => ∃ (p d : Addr) (first rows : Nat) (φ : Int → Int), vs = [.ref p] ∧ SpD a H p d first rows φ ∧ rows ≤ 1000 ∧
  ∀ (d' : Addr) (H' : Hp), H d' = none → SpD a H' p d' first rows (settF φ) → Frm p d H H' → Q .non H'
def sp_Space_is_free (K : PySem.W.Frag) (a : Ad) : Sp := fun vs H Q _ => ∃ (p d : Addr) (first rows : Nat) (φ : Int → Int) (r : Int), vs = [.ref p, .int r] ∧ SpD a H p d first rows φ ∧ ((InR first rows r ∧ φ r = 0) → Q (.bl true) H) ∧ (¬ (InR first rows r ∧ φ r = 0) → Q (.bl false) H)
def sp_Space_free_count (K : PySem.W.Frag) (a : Ad) : Sp := fun vs H Q _ => ∃ (p d : Addr) (first rows : Nat) (φ : Int → Int), vs = [.ref p] ∧ SpD a H p d first rows φ ∧ Q (.int ((rows : Int) - first - ((pickL first rows φ fun s => decide (s ≠ 0)).length : Nat))) H
def sp_Space_used_rows (K : PySem.W.Frag) (a : Ad) : Sp := fun vs H Q _ => ∃ (p d : Addr) (first rows : Nat) (φ : Int → Int), vs = [.ref p] ∧ SpD a H p d first rows φ ∧ rows ≤ 60 ∧
  ∀ (D : Addr) (H' : Hp), Same H H' → H D = none → H' D = some (.lst ((pickL first rows φ fun s => decide (s = 1 ∨ s = 2)).map V.int)) → Q (.ref D) H'
def sp_Space_waiting_rows (K : PySem.W.Frag) (a : Ad) : Sp := fun vs H Q _ => ∃ (p d : Addr) (first rows : Nat) (φ : Int → Int), vs = [.ref p] ∧ SpD a H p d first rows φ ∧ rows ≤ 60 ∧
  ∀ (D : Addr) (H' : Hp), Same H H' → H D = none → H' D = some (.lst ((pickL first rows φ fun s => decide (s = 3)).map V.int)) → Q (.ref D) H'
theorem sp_Space_init_len {K : PySem.W.Frag} {a : Ad} {vs : List V} {H : Hp} {Q : VK} {E : XK} (h : sp_Space_init K a vs H Q E) : vs.length = 3 := by
  obtain ⟨p, dx, first, rows, rfl, _⟩ := h
  rfl
theorem sp_Space_take_len {K : PySem.W.Frag} {a : Ad} {vs : List V} {H : Hp} {Q : VK} {E : XK} (h : sp_Space_take K a vs H Q E) : vs.length = 1 := by
  obtain ⟨p, d, first, rows, φ, rfl, _⟩ := h
  rfl
theorem sp_Space_claim_len {K : PySem.W.Frag} {a : Ad} {vs : List V} {H : Hp} {Q : VK} {E : XK} (h : sp_Space_claim K a vs H Q E) : vs.length = 2 := by
  obtain ⟨p, d, first, rows, φ, r, rfl, _⟩ := h
  rfl
theorem sp_Space_give_len {K : PySem.W.Frag} {a : Ad} {vs : List V} {H : Hp} {Q : VK} {E : XK} (h : sp_Space_give K a vs H Q E) : vs.length = 2 := by
  obtain ⟨p, d, first, rows, φ, r, rfl, _⟩ := h
  rfl
theorem sp_Space_settle_len {K : PySem.W.Frag} {a : Ad} {vs : List V} {H : Hp} {Q : VK} {E : XK} (h : sp_Space_settle K a vs H Q E) : vs.length = 1 := by
  obtain ⟨p, d, first, rows, φ, rfl, _⟩ := h
  rfl
theorem sp_Space_is_free_len {K : PySem.W.Frag} {a : Ad} {vs : List V} {H : Hp} {Q : VK} {E : XK} (h : sp_Space_is_free K a vs H Q E) : vs.length = 2 := by
  obtain ⟨p, d, first, rows, φ, r, rfl, _⟩ := h
  rfl
theorem sp_Space_free_count_len {K : PySem.W.Frag} {a : Ad} {vs : List V} {H : Hp} {Q : VK} {E : XK} (h : sp_Space_free_count K a vs H Q E) : vs.length = 1 := by
  obtain ⟨p, d, first, rows, φ, rfl, _⟩ := h
  rfl
theorem sp_Space_used_rows_len {K : PySem.W.Frag} {a : Ad} {vs : List V} {H : Hp} {Q : VK} {E : XK} (h : sp_Space_used_rows K a vs H Q E) : vs.length = 1 := by
  obtain ⟨p, d, first, rows, φ, rfl, _⟩ := h
  rfl
theorem sp_Space_waiting_rows_len {K : PySem.W.Frag} {a : Ad} {vs : List V} {H : Hp} {Q : VK} {E : XK} (h : sp_Space_waiting_rows K a vs H Q E) : vs.length = 1 := by
  obtain ⟨p, d, first, rows, φ, rfl, _⟩ := h
  rfl
/-! the store, as long as all of its blocks are in memory -/
def refI : Option Addr → V
  | none => .non
  | some a => .ref a
def presentM (ims : List (Option Addr)) (d : Nat) : Bool := (ims.getD d none).isSome
theorem imgs_get {ims : List (Option Addr)} {i : Nat} {o : Option Addr} (h : ims[i]? = some o) : (ims.map refI)[i]? = some (refI o) := by rw [List.getElem?_map, h]; rfl
def sp_is_present (K : PySem.W.Frag) (a : Ad) : Sp := fun vs H Q _ => ∃ (I : Addr) (ims : List (Option Addr)) (d : Nat), vs = [.ref I, .int (d : Int)] ∧ SqL K H I (ims.map refI) ∧ ims.length ≤ 100 ∧ Q (.bl (presentM ims d)) H
theorem sp_is_present_len {K : PySem.W.Frag} {a : Ad} {vs : List V} {H : Hp} {Q : VK} {E : XK} (h : sp_is_present K a vs H Q E) : vs.length = 2 := by
  obtain ⟨I, ims, d, rfl, _⟩ := h
  rfl
/-- a block: its pointer's tuple, the tuple of its places, its list in memory -/
structure Blk where
  T : Addr
  PT : Addr
  W : Addr
  s : Nat
  L : List (Addr × Int × Int)
  ws : List Int
structure SM where
  dx : Addr
  mL : Addr
  spd : Addr
  bD : Addr
  mD : Addr
  I : Addr
  sp : Int → Addr × Addr
  data : Nat
  par : Nat
  rows : Nat
  made : Nat
  ep : Int
  ms : List Int
  bl : List Blk
def sflds (m : SM) : List (Str × V) := [("data", .int (m.data : Int)), ("parity", .int (m.par : Int)), ("rows", .int (m.rows : Int)), ("members", .ref m.mL), ("epoch", .int m.ep), ("_images", .ref m.I), ("_made", .int (m.made : Int)), ("_spaces", .ref m.spd), ("_blocks", .ref m.bD), ("_memory", .ref m.mD)]
theorem sf_data (m : SM) : (sflds m).lookup ("data" : Str) = some (.int (m.data : Int)) := by kernel_rfl
theorem sf_parity (m : SM) : (sflds m).lookup ("parity" : Str) = some (.int (m.par : Int)) := by kernel_rfl
theorem sf_rows (m : SM) : (sflds m).lookup ("rows" : Str) = some (.int (m.rows : Int)) := by kernel_rfl
theorem sf_members (m : SM) : (sflds m).lookup ("members" : Str) = some (.ref m.mL) := by kernel_rfl
theorem sf_epoch (m : SM) : (sflds m).lookup ("epoch" : Str) = some (.int m.ep) := by kernel_rfl
theorem sf_images (m : SM) : (sflds m).lookup ("_images" : Str) = some (.ref m.I) := by kernel_rfl
theorem sf_made (m : SM) : (sflds m).lookup ("_made" : Str) = some (.int (m.made : Int)) := by kernel_rfl
theorem sf_spaces (m : SM) : (sflds m).lookup ("_spaces" : Str) = some (.ref m.spd) := by kernel_rfl
theorem sf_blocks (m : SM) : (sflds m).lookup ("_blocks" : Str) = some (.ref m.bD) := by kernel_rfl
theorem sf_memory (m : SM) : (sflds m).lookup ("_memory" : Str) = some (.ref m.mD) := by kernel_rfl
theorem sf_set_made (m : SM) (n : Nat) : putF "_made" (.int (n : Int)) (sflds m) = sflds { m with made := n } := by kernel_rfl
theorem sf_set_images (m : SM) (I : Addr) : putF "_images" (.ref I) (sflds m) = sflds { m with I := I } := by kernel_rfl
def keyB (ep : Int) (b : Blk) : NestedKey := .tup [.num ep, .num (b.s : Int), .num (b.ws.length : Int), .tup (b.L.map fun q => .tup [.num q.2.1, .num q.2.2])]
structure BlkAt (H : Hp) (ep : Int) (b : Blk) : Prop where
  t : H b.T = some (.tup [.int ep, .int (b.s : Int), .int (b.ws.length : Int), .ref b.PT])
  pt : H b.PT = some (.tup (b.L.map fun q => V.ref q.1))
  q : ∀ e ∈ b.L, H e.1 = some (.tup [.int e.2.1, .int e.2.2])
  w : H b.W = some (.lst (b.ws.map V.int))
theorem nk_places {H : Hp} : ∀ {L : List (Addr × Int × Int)}, (∀ e ∈ L, H e.1 = some (.tup [.int e.2.1, .int e.2.2])) → NKs H (L.map fun q => .tup [.num q.2.1, .num q.2.2]) (L.map fun q => V.ref q.1)
  | [], _ => .nil
  | e :: L, h => .cons (.tup (h e (by simp)) (.cons (.num _) (.cons (.num _) .nil))) (nk_places fun x m => h x (List.mem_cons_of_mem _ m))
theorem BlkAt.nk {H : Hp} {ep : Int} {b : Blk} (h : BlkAt H ep b) : NK H (keyB ep b) (.ref b.T) := .tup h.t (.cons (.num _) (.cons (.num _) (.cons (.num _) (.cons (.tup h.pt (nk_places h.q)) .nil))))
theorem places_depth : ∀ (L : List (Addr × Int × Int)), NestedKey.depthAll (L.map fun q => .tup [.num q.2.1, .num q.2.2]) ≤ 1
  | [] => Nat.zero_le _
  | e :: L => by
    have := places_depth L
    simp only [List.map_cons, NestedKey.depthAll, NestedKey.depth]
    omega
theorem keyB_depth (ep : Int) (b : Blk) : (keyB ep b).depth ≤ 8 := by
  have := places_depth b.L
  unfold keyB
  simp only [NestedKey.depth, NestedKey.depthAll]
  omega
theorem keyB_inj {ep : Int} {b c : Blk} (h : keyB ep b = keyB ep c) : b.s = c.s := by
  unfold keyB at h
  have h := NestedKey.tup.inj h
  injection h with _ h
  injection h with h _
  have := NestedKey.num.inj h
  omega
def bxs (ep : Int) (bl : List Blk) : List L2.NE := bl.map fun b => (keyB ep b, b.T, V.bl true)
def mxs (ep : Int) (bl : List Blk) : List L2.NE := bl.map fun b => (keyB ep b, b.T, V.ref b.W)
/-- a row that a block has -/
def phiM (bl : List Blk) (d : Int) : Int → Int := fun r => if (bl.any fun b => b.L.any fun q => decide (q.2 = (d, r))) = true then 1 else 0
/-- all that the store leans on -/
inductive StR (S : Addr) (m : SM) : Addr → Prop
  | s : StR S m S
  | ml : StR S m m.mL
  | spd : StR S m m.spd
  | bd : StR S m m.bD
  | md : StR S m m.mD
  | s1 (d : Int) : d ∈ m.ms → StR S m (m.sp d).1
  | s2 (d : Int) : d ∈ m.ms → StR S m (m.sp d).2
  | t (b : Blk) : b ∈ m.bl → StR S m b.T
  | pt (b : Blk) : b ∈ m.bl → StR S m b.PT
  | w (b : Blk) : b ∈ m.bl → StR S m b.W
  | q (b : Blk) (e : Addr × Int × Int) : b ∈ m.bl → e ∈ b.L → StR S m e.1
structure StorP (a : Ad) (H : Hp) (S : Addr) (m : SM) (ψ : Int → Int → Int) : Prop where
  hS : H S = some (.ins a.c_Store m.dx (sflds m))
  hm : H m.mL = some (.lst (m.ms.map V.int))
  hs : H m.spd = some (.dK (m.ms.map fun d => ((Sum.inl d : Key), V.ref (m.sp d).1)))
  sp : ∀ d ∈ m.ms, SpD a H (m.sp d).1 (m.sp d).2 18 m.rows (ψ d)
  su : ∀ d ∈ m.ms, ∀ d' ∈ m.ms, (m.sp d).1 = (m.sp d').1 ∨ (m.sp d).2 = (m.sp d').2 → d = d'
  hb : H m.bD = some (L2.NO a.wd m.bD (bxs m.ep m.bl))
  hM : H m.mD = some (L2.NO a.wd m.mD (mxs m.ep m.bl))
  bm : m.bD ≠ m.mD
  blk : ∀ b ∈ m.bl, BlkAt H m.ep b
  nd : m.ms.Pairwise (· < ·)
  m0 : ∀ d ∈ m.ms, 0 ≤ d ∧ d < 8
  ser : ∀ b ∈ m.bl, b.s < m.made
  un : (m.bl.map (·.s)).Nodup
  row : ∀ b ∈ m.bl, ∀ e ∈ b.L, e.2.1 ∈ m.ms ∧ (18 ≤ e.2.2 ∧ e.2.2 < m.rows)
  dis : (m.bl.flatMap fun b => b.L.map (·.2)).Nodup
  asc : ∀ b ∈ m.bl, (b.L.map fun e => e.2.1).Pairwise (· < ·)
abbrev Stor (a : Ad) (H : Hp) (S : Addr) (m : SM) : Prop := StorP a H S m (phiM m.bl)
theorem SpD.keep {a : Ad} {H H' : Hp} {p d : Addr} {first rows : Nat} {φ : Int → Int} (h : SpD a H p d first rows φ) (k1 : ∀ o, H p = some o → H' p = some o) (k2 : ∀ o, H d = some o → H' d = some o) : SpD a H' p d first rows φ := by
  obtain ⟨dx, low, M, h1, h2, h3⟩ := h
  exact ⟨dx, low, M, k1 _ h1, k2 _ h2, h3⟩
theorem StorP.keep {a : Ad} {H H' : Hp} {S : Addr} {m : SM} {ψ : Int → Int → Int} (h : StorP a H S m ψ) (k : ∀ b o, H b = some o → StR S m b → H' b = some o) : StorP a H' S m ψ :=
  ⟨k _ _ h.hS .s, k _ _ h.hm .ml, k _ _ h.hs .spd, fun d md => (h.sp d md).keep (fun o e => k _ _ e (.s1 d md)) (fun o e => k _ _ e (.s2 d md)), h.su, k _ _ h.hb .bd, k _ _ h.hM .md, h.bm,
    fun b mb => ⟨k _ _ (h.blk b mb).t (.t b mb), k _ _ (h.blk b mb).pt (.pt b mb), fun e me => k _ _ ((h.blk b mb).q e me) (.q b e mb me), k _ _ (h.blk b mb).w (.w b mb)⟩, h.nd, h.m0, h.ser, h.un, h.row, h.dis, h.asc⟩
theorem StorP.same {a : Ad} {H H' : Hp} {S : Addr} {m : SM} {ψ : Int → Int → Int} (h : StorP a H S m ψ) (s : Same H H') : StorP a H' S m ψ := h.keep fun b o e _ => s _ _ e
theorem StorP.there {a : Ad} {H : Hp} {S : Addr} {m : SM} {ψ : Int → Int → Int} (h : StorP a H S m ψ) {b : Addr} (r : StR S m b) : ∃ o, H b = some o := by
  cases r with
  | s => exact ⟨_, h.hS⟩
  | ml => exact ⟨_, h.hm⟩
  | spd => exact ⟨_, h.hs⟩
  | bd => exact ⟨_, h.hb⟩
  | md => exact ⟨_, h.hM⟩
  | s1 d md => obtain ⟨_, _, _, e, _⟩ := h.sp d md; exact ⟨_, e⟩
  | s2 d md => obtain ⟨_, _, _, _, e, _⟩ := h.sp d md; exact ⟨_, e⟩
  | t b mb => exact ⟨_, (h.blk b mb).t⟩
  | pt b mb => exact ⟨_, (h.blk b mb).pt⟩
  | w b mb => exact ⟨_, (h.blk b mb).w⟩
  | q b e mb me => exact ⟨_, (h.blk b mb).q e me⟩
theorem StorP.fresh {a : Ad} {H : Hp} {S : Addr} {m : SM} {ψ : Int → Int → Int} (h : StorP a H S m ψ) {b : Addr} (n : H b = none) : ¬ StR S m b := fun r => by
  obtain ⟨o, e⟩ := h.there r
  rw [n] at e
  cases e
theorem StorP.put {a : Ad} {H : Hp} {S : Addr} {m : SM} {ψ : Int → Int → Int} (h : StorP a H S m ψ) {b : Addr} {o : HO} (n : ¬ StR S m b) : StorP a (upd H b o) S m ψ := h.keep fun c u e r => by
  rw [upd_ne fun z => n (by rw [← z]; exact r)]
  exact e
theorem StorP.bkeys {a : Ad} {H : Hp} {S : Addr} {m : SM} {ψ : Int → Int → Int} (h : StorP a H S m ψ) : L2.NKeys H (bxs m.ep m.bl) := fun x mx => by
  obtain ⟨b, mb, rfl⟩ := List.mem_map.mp mx
  exact ⟨(h.blk b mb).nk, keyB_depth _ _⟩
theorem StorP.mkeys {a : Ad} {H : Hp} {S : Addr} {m : SM} {ψ : Int → Int → Int} (h : StorP a H S m ψ) : L2.NKeys H (mxs m.ep m.bl) := fun x mx => by
  obtain ⟨b, mb, rfl⟩ := List.mem_map.mp mx
  exact ⟨(h.blk b mb).nk, keyB_depth _ _⟩
theorem StorP.ser_one {a : Ad} {H : Hp} {S : Addr} {m : SM} {ψ : Int → Int → Int} (h : StorP a H S m ψ) {b c : Blk} (mb : b ∈ m.bl) (mc : c ∈ m.bl) (es : b.s = c.s) : b = c := by
  obtain ⟨i, hi⟩ := List.mem_iff_getElem?.mp mb
  obtain ⟨j, hj⟩ := List.mem_iff_getElem?.mp mc
  have li := item_lt hi
  have lj := item_lt hj
  have e1 : m.bl[i] = b := Option.some.inj ((List.getElem?_eq_getElem li).symm.trans hi)
  have e2 : m.bl[j] = c := Option.some.inj ((List.getElem?_eq_getElem lj).symm.trans hj)
  have un := h.un
  unfold List.Nodup at un
  rw [List.pairwise_iff_getElem] at un
  rcases Nat.lt_trichotomy i j with z | z | z
  · exact absurd (by rw [List.getElem_map, List.getElem_map, e1, e2]; exact es) (un i j (by rw [List.length_map]; exact li) (by rw [List.length_map]; exact lj) z)
  · subst z
    exact e1.symm.trans e2
  · exact absurd (by rw [List.getElem_map, List.getElem_map, e1, e2]; exact es.symm) (un j i (by rw [List.length_map]; exact lj) (by rw [List.length_map]; exact li) z)
theorem StorP.key_one {a : Ad} {H : Hp} {S : Addr} {m : SM} {ψ : Int → Int → Int} (h : StorP a H S m ψ) {b c : Blk} (mb : b ∈ m.bl) (mc : c ∈ m.bl) (e : keyB m.ep b = keyB m.ep c) : b = c := h.ser_one mb mc (keyB_inj e)
/-- the list of a block, in memory -/
theorem at_mxs {ep : Int} : ∀ {bl : List Blk} {b : Blk}, b ∈ bl → (∀ c ∈ bl, keyB ep c = keyB ep b → c = b) → L2.atN (mxs ep bl) (keyB ep b) = some (b.T, V.ref b.W)
  | c :: bl, b, mb, h => by
    by_cases e : keyB ep c = keyB ep b
    · have := h c (by simp) e
      subst this
      simp [L2.atN, mxs]
    · have mb' : b ∈ bl := by
        rcases List.mem_cons.mp mb with z | z
        · exact absurd (by rw [z]) e
        · exact z
      have ih := at_mxs (ep := ep) mb' fun d md => h d (List.mem_cons_of_mem _ md)
      unfold L2.atN mxs at ih ⊢
      rw [List.map_cons, List.find?_cons, decide_eq_false e]
      exact ih
theorem StorP.mem {a : Ad} {H : Hp} {S : Addr} {m : SM} {ψ : Int → Int → Int} (h : StorP a H S m ψ) {b : Blk} (mb : b ∈ m.bl) : L2.atN (mxs m.ep m.bl) (keyB m.ep b) = some (b.T, V.ref b.W) := at_mxs mb fun _ mc e => h.key_one mc mb e
def SM.put (m : SM) (b : Blk) : SM := { m with made := m.made + 1, bl := m.bl ++ [b] }
def SM.with (m : SM) (bl : List Blk) : SM := { m with bl := bl }
theorem val_sp {f : Int → Addr} : ∀ {ms : List Int} {d : Int}, d ∈ ms → valV (ms.map fun d => ((Sum.inl d : Key), V.ref (f d))) (Sum.inl d) = some (V.ref (f d))
  | x :: ms, d, m => by
    unfold valV
    rw [List.map_cons, List.find?_cons]
    by_cases e : x = d
    · subst e
      rw [decide_eq_true rfl]
      rfl
    · rw [decide_eq_false (show ¬ (Sum.inl x : Key) = Sum.inl d from fun z => e (Sum.inl.inj z))]
      rcases List.mem_cons.mp m with z | z
      · exact absurd z.symm e
      · exact val_sp z
theorem val_no {f : Int → Addr} : ∀ {ms : List Int} {d : Int}, d ∉ ms → valV (ms.map fun d => ((Sum.inl d : Key), V.ref (f d))) (Sum.inl d) = none
  | [], _, _ => rfl
  | x :: ms, d, m => by
    unfold valV
    rw [List.map_cons, List.find?_cons, decide_eq_false (show ¬ (Sum.inl x : Key) = Sum.inl d from fun z => m (by rw [Sum.inl.inj z]; simp))]
    exact val_no fun z => m (List.mem_cons_of_mem _ z)
theorem StorP.spget {a : Ad} {H : Hp} {S : Addr} {m : SM} {ψ : Int → Int → Int} (h : StorP a H S m ψ) {d : Int} (md : d ∈ m.ms) : DGet H m.spd (.int d) (some (.ref (m.sp d).1)) := by
  have := DGet.k (k := Sum.inl d) h.hs
  rw [val_sp (f := fun d => (m.sp d).1) md] at this
  exact this
/-- one space is another one now -/
theorem StorP.space {a : Ad} {H H' : Hp} {S : Addr} {m : SM} {ψ : Int → Int → Int} (h : StorP a H S m ψ) {d : Int} (md : d ∈ m.ms) {φ : Int → Int} (n : SpD a H' (m.sp d).1 (m.sp d).2 18 m.rows φ) (fr : Frm (m.sp d).1 (m.sp d).2 H H') : StorP a H' S m (fun x => if x = d then φ else ψ x) := by
  obtain ⟨dx, low, M, e1, e2, _⟩ := h.sp d md
  have k : ∀ b o, H b = some o → (∀ q fs, o = .ins a.c_Space q fs → fs.length = 4 → False) → (∀ L, o = .dK (kvM L) → False) → H' b = some o := fun b o e n1 n2 => fr b o e (ne_of e e1 fun z => n1 _ _ z rfl) (ne_of e e2 fun z => n2 _ z)
  refine ⟨k _ _ h.hS (fun q fs z l => ?_) (fun L z => nomatch z), k _ _ h.hm (fun q fs z => nomatch z) (fun L z => nomatch z), k _ _ h.hs (fun q fs z => nomatch z) (fun L z => ?_), fun x mx => ?_, h.su, k _ _ h.hb (fun q fs z => nomatch z) (fun L z => nomatch z), k _ _ h.hM (fun q fs z => nomatch z) (fun L z => nomatch z), h.bm, fun b mb => ?_, h.nd, h.m0, h.ser, h.un, h.row, h.dis, h.asc⟩
  · injection z with _ _ z
    rw [← z] at l
    exact absurd l (by show ¬ 10 = 4; decide)
  · have z := HO.dK.inj z
    have m1 : ((Sum.inl d : Key), V.ref (m.sp d).1) ∈ kvM L := by
      rw [← z]
      exact List.mem_map.mpr ⟨d, md, rfl⟩
    obtain ⟨q, _, e⟩ := List.mem_map.mp m1
    cases e
  · by_cases c : x = d
    · subst c
      show SpD a H' _ _ 18 m.rows (if x = x then φ else ψ x)
      rw [if_pos rfl]
      exact n
    · show SpD a H' _ _ 18 m.rows (if x = d then φ else ψ x)
      rw [if_neg c]
      have n1 : ∀ i : Bool, (m.sp x).1 ≠ (m.sp d).1 ∧ (m.sp x).2 ≠ (m.sp d).2 := fun _ => ⟨fun z => c (h.su x mx d md (.inl z)), fun z => c (h.su x mx d md (.inr z))⟩
      obtain ⟨dx', low', M', g1, g2, _⟩ := h.sp x mx
      exact (h.sp x mx).keep (fun o e => fr _ _ e (n1 true).1 (ne_of g1 e2 (by intro z; cases z))) fun o e => fr _ _ e (ne_of g2 e1 (by intro z; cases z)) (n1 true).2
  · have hb := h.blk b mb
    exact ⟨k _ _ hb.t (fun q fs z => nomatch z) (fun L z => nomatch z), k _ _ hb.pt (fun q fs z => nomatch z) (fun L z => nomatch z), fun e me => k _ _ (hb.q e me) (fun q fs z => nomatch z) (fun L z => nomatch z), k _ _ hb.w (fun q fs z => nomatch z) (fun L z => nomatch z)⟩
theorem StorP.psi {a : Ad} {H : Hp} {S : Addr} {m : SM} {ψ ψ' : Int → Int → Int} (h : StorP a H S m ψ) (e : ∀ d ∈ m.ms, ψ d = ψ' d) : StorP a H S m ψ' :=
  ⟨h.hS, h.hm, h.hs, fun d md => by rw [← e d md]; exact h.sp d md, h.su, h.hb, h.hM, h.bm, h.blk, h.nd, h.m0, h.ser, h.un, h.row, h.dis, h.asc⟩
theorem sub_flat {α β : Type} (f : α → List β) (p : α → Bool) : ∀ l : List α, ((l.filter p).flatMap f).Sublist (l.flatMap f)
  | [] => List.Sublist.refl _
  | x :: l => by
    rw [List.filter_cons]
    split
    · rw [List.flatMap_cons, List.flatMap_cons]
      exact (List.Sublist.refl _).append (sub_flat f p l)
    · rw [List.flatMap_cons]
      exact (sub_flat f p l).trans (List.sublist_append_right _ _)
theorem StorP.apart {a : Ad} {H : Hp} {S : Addr} {m : SM} {ψ : Int → Int → Int} (h : StorP a H S m ψ) {b c : Blk} (mb : b ∈ m.bl) (mc : c ∈ m.bl) (n : b.s ≠ c.s) : ∀ x ∈ b.L.map (·.2), x ∉ c.L.map (·.2) := fun x mx my => by
  have dis := h.dis
  unfold List.Nodup at dis
  rw [List.pairwise_flatMap] at dis
  have p := dis.2
  rw [List.pairwise_iff_getElem] at p
  obtain ⟨i, hi⟩ := List.mem_iff_getElem?.mp mb
  obtain ⟨j, hj⟩ := List.mem_iff_getElem?.mp mc
  have li := item_lt hi
  have lj := item_lt hj
  have e1 : m.bl[i] = b := Option.some.inj ((List.getElem?_eq_getElem li).symm.trans hi)
  have e2 : m.bl[j] = c := Option.some.inj ((List.getElem?_eq_getElem lj).symm.trans hj)
  rcases Nat.lt_trichotomy i j with z | z | z
  · exact p i j li lj z x (by rw [e1]; exact mx) x (by rw [e2]; exact my) rfl
  · subst z
    exact n (by rw [← e1, e2])
  · exact p j i lj li z x (by rw [e2]; exact my) x (by rw [e1]; exact mx) rfl
theorem phi_one {bl : List Blk} {d r : Int} : phiM bl d r = 1 ↔ ∃ b ∈ bl, ∃ q ∈ b.L, q.2 = (d, r) := by
  unfold phiM
  constructor
  · intro h
    split at h
    · next z =>
      obtain ⟨b, mb, z⟩ := List.any_eq_true.mp z
      obtain ⟨q, mq, z⟩ := List.any_eq_true.mp z
      exact ⟨b, mb, q, mq, of_decide_eq_true z⟩
    · cases h
  · rintro ⟨b, mb, q, mq, e⟩
    rw [if_pos]
    exact List.any_eq_true.mpr ⟨b, mb, List.any_eq_true.mpr ⟨q, mq, decide_eq_true e⟩⟩
theorem phi_zero {bl : List Blk} {d r : Int} : phiM bl d r = 0 ↔ ¬ ∃ b ∈ bl, ∃ q ∈ b.L, q.2 = (d, r) := by
  rw [← phi_one]
  unfold phiM
  split <;> simp
/-- as the blocks' rows, but that the first of b's places are given back -/
def psiF (bl : List Blk) (b : Blk) (j : Nat) (d : Int) : Int → Int := fun r => if (b.L.take j).any (fun q => decide (q.2 = (d, r))) = true then 0 else phiM bl d r
theorem psi_end {a : Ad} {H : Hp} {S : Addr} {m : SM} {ψ : Int → Int → Int} (h : StorP a H S m ψ) {b : Blk} (mb : b ∈ m.bl) (d : Int) : psiF m.bl b b.L.length d = phiM (m.bl.filter fun c => decide (c.s ≠ b.s)) d := by
  funext r
  unfold psiF
  rw [List.take_length]
  split
  · next z =>
    obtain ⟨q, mq, z⟩ := List.any_eq_true.mp z
    have z := of_decide_eq_true z
    refine (phi_zero.mpr ?_).symm
    rintro ⟨c, mc, q', mq', e⟩
    obtain ⟨mc, n⟩ := List.mem_filter.mp mc
    have n := of_decide_eq_true n
    exact h.apart mc mb n _ (List.mem_map.mpr ⟨q', mq', e⟩) (List.mem_map.mpr ⟨q, mq, z⟩)
  · next z =>
    have nb : ∀ q ∈ b.L, q.2 ≠ (d, r) := fun q mq e => z (List.any_eq_true.mpr ⟨q, mq, decide_eq_true e⟩)
    by_cases c : ∃ b ∈ m.bl, ∃ q ∈ b.L, q.2 = (d, r)
    · rw [phi_one.mpr c]
      obtain ⟨x, mx, q, mq, e⟩ := c
      have nx : x.s ≠ b.s := fun y => by
        rw [h.ser_one mx mb y] at mq
        exact nb q mq e
      exact (phi_one.mpr ⟨x, List.mem_filter.mpr ⟨mx, decide_eq_true nx⟩, q, mq, e⟩).symm
    · rw [phi_zero.mpr c]
      refine (phi_zero.mpr ?_).symm
      rintro ⟨x, mx, y⟩
      exact c ⟨x, (List.mem_filter.mp mx).1, y⟩
theorem out_bxs {ep : Int} {bl : List Blk} {b : Blk} (h : ∀ c ∈ bl, c.s = b.s → c = b) : L2.outN (bxs ep bl) (keyB ep b) = bxs ep (bl.filter fun c => decide (c.s ≠ b.s)) := by
  unfold L2.outN bxs
  rw [List.filter_map]
  congr 1
  refine List.filter_congr fun c mc => ?_
  by_cases e : c.s = b.s
  · have := h c mc e
    simp [this]
  · have : keyB ep c ≠ keyB ep b := fun z => e (keyB_inj z)
    simp [e, this]
theorem out_mxs {ep : Int} {bl : List Blk} {b : Blk} (h : ∀ c ∈ bl, c.s = b.s → c = b) : L2.outN (mxs ep bl) (keyB ep b) = mxs ep (bl.filter fun c => decide (c.s ≠ b.s)) := by
  unfold L2.outN mxs
  rw [List.filter_map]
  congr 1
  refine List.filter_congr fun c mc => ?_
  by_cases e : c.s = b.s
  · have := h c mc e
    simp [this]
  · have : keyB ep c ≠ keyB ep b := fun z => e (keyB_inj z)
    simp [e, this]
/-- a block is taken out of both dicts -/
theorem StorP.drop {a : Ad} {H : Hp} {S : Addr} {m : SM} {ψ : Int → Int → Int} (h : StorP a H S m ψ) {b : Blk} (mb : b ∈ m.bl) (e : ∀ d ∈ m.ms, ψ d = phiM (m.bl.filter fun c => decide (c.s ≠ b.s)) d) :
    Stor a (upd (upd H m.bD (L2.NO a.wd m.bD (L2.outN (bxs m.ep m.bl) (keyB m.ep b)))) m.mD (L2.NO a.wd m.mD (L2.outN (mxs m.ep m.bl) (keyB m.ep b)))) S (m.with (m.bl.filter fun c => decide (c.s ≠ b.s))) := by
  have one : ∀ c ∈ m.bl, c.s = b.s → c = b := fun c mc e => h.ser_one mc mb e
  rw [out_bxs one, out_mxs one]
  generalize hB : L2.NO a.wd m.bD (bxs m.ep (m.bl.filter fun c => decide (c.s ≠ b.s))) = oB
  generalize hM : L2.NO a.wd m.mD (mxs m.ep (m.bl.filter fun c => decide (c.s ≠ b.s))) = oM
  have k : ∀ x o, H x = some o → (∀ f, o ≠ .ext f) → upd (upd H m.bD oB) m.mD oM x = some o := fun x o e n => by
    rw [upd_ne (ne_of e h.hM (n _)), upd_ne (ne_of e h.hb (n _))]
    exact e
  have sub : ∀ c ∈ m.bl.filter fun c => decide (c.s ≠ b.s), c ∈ m.bl := fun c mc => (List.mem_filter.mp mc).1
  refine ⟨k _ _ h.hS (fun f z => nomatch z), k _ _ h.hm (fun f z => nomatch z), k _ _ h.hs (fun f z => nomatch z), fun d md => ?_, h.su, ?_, ?_, h.bm, fun c mc => ?_, h.nd, h.m0, fun c mc => h.ser c (sub c mc), h.un.sublist (List.Sublist.map _ List.filter_sublist), fun c mc => h.row c (sub c mc), h.dis.sublist (sub_flat _ _ _), fun c mc => h.asc c (sub c mc)⟩
  · show SpD a _ (m.sp d).1 (m.sp d).2 18 m.rows (phiM (m.bl.filter fun c => decide (c.s ≠ b.s)) d)
    rw [← e d md]
    obtain ⟨dx, low, M, e1, e2, r⟩ := h.sp d md
    exact ⟨dx, low, M, k _ _ e1 (fun f z => nomatch z), k _ _ e2 (fun f z => nomatch z), r⟩
  · show upd (upd H m.bD oB) m.mD oM m.bD = some (L2.NO a.wd m.bD (bxs m.ep (m.bl.filter fun c => decide (c.s ≠ b.s))))
    rw [upd_ne h.bm, upd_same, ← hB]
  · show upd (upd H m.bD oB) m.mD oM m.mD = some (L2.NO a.wd m.mD (mxs m.ep (m.bl.filter fun c => decide (c.s ≠ b.s))))
    rw [upd_same, ← hM]
  · have hb := h.blk c (sub c mc)
    exact ⟨k _ _ hb.t (fun f z => nomatch z), k _ _ hb.pt (fun f z => nomatch z), fun e me => k _ _ (hb.q e me) (fun f z => nomatch z), k _ _ hb.w (fun f z => nomatch z)⟩
theorem seq_keep {K : PySem.W.Frag} {H H' : Hp} {P : Addr} {xs : List V} (h : SqL K H P xs) (k : ∀ o, H P = some o → H' P = some o) : SqL K H' P xs := by
  rcases h with (h | ⟨o, h⟩) | h
  · exact .inl (.inl (k _ h))
  · exact .inl (.inr ⟨o, k _ h⟩)
  · exact .inr h
def usedM (m : SM) (d : Int) : Nat := (pickL 18 m.rows (phiM m.bl d) fun s => decide (s ≠ 0)).length
theorem inV_intsS (x : Int) : ∀ ws : List Int, inV (.int x) (ws.map V.int) = decide (x ∈ ws)
  | [] => rfl
  | w :: ws => by
    have ih := inV_intsS x ws
    unfold inV at ih ⊢
    rw [List.map_cons, List.any_cons, ih]
    by_cases h : x = w
    · subst h
      simp [eqV]
    · simp [eqV, h]
      exact fun z => absurd z.symm h
theorem flat_intsS (ws : List Int) : (ws.map V.int).all flatV = true := List.all_eq_true.mpr fun x m => by
  obtain ⟨w, _, rfl⟩ := List.mem_map.mp m
  rfl
theorem best_facts {U : List Cd} {w : Nat} (nd : (U.map (·.d)).Nodup) (hw : w ≤ U.length) : (bestM U w).length = w ∧ (bestM U w).Nodup ∧ ∀ x ∈ bestM U w, ∃ e ∈ U, e.d = x := by
  have p : (U.mergeSort leM).Perm U := List.mergeSort_perm U leM
  have s : (U.mergeSort leM).Pairwise fun x y => leM x y = true := List.pairwise_mergeSort leM_trans leM_total U
  have b := best_of (w := w) p (strict_of s ((p.map _).nodup_iff.mpr nd))
  refine ⟨?_, ?_, fun x m => ?_⟩
  · rw [← b.length_eq, List.length_map, List.length_take, p.length_eq]
    omega
  · exact (List.Sublist.map _ List.filter_sublist).nodup nd
  · obtain ⟨e, me, rfl⟩ := List.mem_map.mp m
    exact ⟨e, (List.mem_filter.mp me).1, rfl⟩
theorem one_row {d : Int} : ∀ {L : List (Addr × Int × Int)}, (L.map fun e => e.2.1).Pairwise (· < ·) → (L.filter fun e => decide (e.2.1 = d)).length ≤ 1 := fun {L} h => by
  have p : (L.filter fun e => decide (e.2.1 = d)).Pairwise (fun x y => x.2.1 < y.2.1) := (List.pairwise_map.mp h).sublist List.filter_sublist
  have q : ∀ e ∈ L.filter fun e => decide (e.2.1 = d), e.2.1 = d := fun e m => of_decide_eq_true (List.mem_filter.mp m).2
  revert p q
  generalize (L.filter fun e => decide (e.2.1 = d)) = M
  intro p q
  match M, p, q with
  | [], _, _ => exact Nat.zero_le _
  | [x], _, _ => exact Nat.le_refl _
  | x :: y :: R, p, q =>
    have h1 := (List.pairwise_cons.mp p).1 y (by simp)
    have h2 := q x (by simp)
    have h3 := q y (by simp)
    omega
theorem flat_le {α β : Type} {f : α → List β} : ∀ {l : List α}, (∀ x ∈ l, (f x).length ≤ 1) → (l.flatMap f).length ≤ l.length
  | [], _ => Nat.le_refl _
  | x :: l, h => by
    rw [List.flatMap_cons, List.length_append, List.length_cons]
    have := h x (by simp)
    have := flat_le (l := l) fun y m => h y (List.mem_cons_of_mem _ m)
    omega
theorem StorP.used {a : Ad} {H : Hp} {S : Addr} {m : SM} {ψ : Int → Int → Int} (h : StorP a H S m ψ) (d : Int) : usedM m d ≤ m.bl.length := by
  have nd : (pickL 18 m.rows (phiM m.bl d) fun s => decide (s ≠ 0)).Nodup := ((rowsL_lt 18 m.rows).imp fun h => Int.ne_of_lt h).sublist List.filter_sublist
  refine Nat.le_trans (List.Nodup.length_le_of_subset (l₂ := m.bl.flatMap fun b => (b.L.filter fun e => decide (e.2.1 = d)).map (·.2.2)) nd fun r mr => ?_) (flat_le fun b mb => by rw [List.length_map]; exact one_row (h.asc b mb))
  have z := of_decide_eq_true (List.mem_filter.mp mr).2
  have c : ∃ b ∈ m.bl, ∃ q ∈ b.L, q.2 = (d, r) := Classical.byContradiction fun y => z (phi_zero.mpr y)
  obtain ⟨b, mb, q, mq, e⟩ := c
  refine List.mem_flatMap.mpr ⟨b, mb, List.mem_map.mpr ⟨q, List.mem_filter.mpr ⟨mq, decide_eq_true (by rw [e])⟩, by rw [e]⟩⟩
/-- not all rows of a disk are used -/
theorem StorP.room {a : Ad} {H : Hp} {S : Addr} {m : SM} {ψ : Int → Int → Int} (h : StorP a H S m ψ) (hl : m.bl.length + 18 < m.rows) (d : Int) : ¬ ∀ r, InR 18 m.rows r → phiM m.bl d r ≠ 0 := fun z => by
  have e : pickL 18 m.rows (phiM m.bl d) (fun s => decide (s ≠ 0)) = rowsL 18 m.rows := List.filter_eq_self.mpr fun r mr => decide_eq_true (z r (rowsL_mem.mp mr))
  have := h.used d
  unfold usedM at this
  rw [e, rowsL_len] at this
  omega
/-- the blocks' rows and those of new places -/
def psiT (bl : List Blk) (PL : List (Addr × Int × Int)) (d : Int) : Int → Int := fun r => if PL.any (fun q => decide (q.2 = (d, r))) = true then 1 else phiM bl d r
theorem psi_add (bl : List Blk) (b : Blk) (d : Int) : psiT bl b.L d = phiM (bl ++ [b]) d := by
  funext r
  unfold psiT phiM
  rw [List.any_append]
  cases c : b.L.any fun q => decide (q.2 = (d, r)) with
  | true => simp [c]
  | false =>
    rw [List.any_cons, c, List.any_nil, Bool.or_false, Bool.or_false, if_neg Bool.false_ne_true]
/-! promises -/
def sp_Store_init (K : PySem.W.Frag) (a : Ad) : Sp := fun vs H Q _ => ∃ (S dx M : Addr) (d p r : Nat) (e : Int) (ms : List Int), vs = [.ref S, .int (d : Int), .int (p : Int), .int (r : Int), .ref M, .int e] ∧ H S = some (.ins a.c_Store dx []) ∧ H M = some (.lst (ms.map V.int)) ∧ ms.Pairwise (· < ·) ∧ (∀ x ∈ ms, 0 ≤ x ∧ x < 8) ∧ ms.length ≤ 8 ∧ 18 ≤ r ∧ r ≤ 100 ∧
  ∀ (m : SM) (H' : Hp), Stor a H' S m → m.data = d → m.par = p → m.rows = r → m.made = 0 → m.ep = e → m.ms = ms → m.bl = [] → (∀ b o, H b = some o → b ≠ S → H' b = some o) → (∀ b, StR S m b → b = S ∨ H b = none) → Q .non H'
theorem sp_Store_init_len {K : PySem.W.Frag} {a : Ad} {vs : List V} {H : Hp} {Q : VK} {E : XK} (h : sp_Store_init K a vs H Q E) : vs.length = 6 := by
  obtain ⟨S, dx, M, d, p, r, e, ms, rfl, _⟩ := h
  rfl
def sp_Store_look (K : PySem.W.Frag) (a : Ad) : Sp := fun vs H Q _ => ∃ (S I : Addr) (m : SM), vs = [.ref S, .ref I] ∧ Stor a H S m ∧
  ∀ H', Stor a H' S { m with I := I } → (∀ b o, H b = some o → b ≠ S → H' b = some o) → Q .non H'
theorem sp_Store_look_len {K : PySem.W.Frag} {a : Ad} {vs : List V} {H : Hp} {Q : VK} {E : XK} (h : sp_Store_look K a vs H Q E) : vs.length = 2 := by
  obtain ⟨S, I, m, rfl, _⟩ := h
  rfl
def sp_Store_free_counts (K : PySem.W.Frag) (a : Ad) : Sp := fun vs H Q _ => ∃ (S : Addr) (m : SM), vs = [.ref S] ∧ Stor a H S m ∧ m.ms.length ≤ 8 ∧
  ∀ (D : Addr) (L : List (Addr × Int × Int)) (H' : Hp), Same H H' → H D = none → H' D = some (.lst (L.map fun e => V.ref e.1)) → (∀ e ∈ L, H' e.1 = some (.tup [.int e.2.1, .int e.2.2])) → L.map (·.2) = m.ms.map (fun d => (d, (m.rows : Int) - (18 : Nat) - (usedM m d : Nat))) → Q (.ref D) H'
theorem sp_Store_free_counts_len {K : PySem.W.Frag} {a : Ad} {vs : List V} {H : Hp} {Q : VK} {E : XK} (h : sp_Store_free_counts K a vs H Q E) : vs.length = 1 := by
  obtain ⟨S, m, rfl, _⟩ := h
  rfl
def sp_Store_put (K : PySem.W.Frag) (a : Ad) : Sp := fun vs H Q E => ∃ (S W A : Addr) (m : SM) (ws av : List Int) (ims : List (Option Addr)), vs = [.ref S, .ref W, .ref A] ∧ Stor a H S m ∧ SqL K H W (ws.map V.int) ∧ ¬ StR S m W ∧ (SqL K H A (av.map V.int) ∨ SqT K H A (av.map V.int)) ∧ SqL K H m.I (ims.map refI) ∧ ims.length ≤ 100 ∧ ws.length ≤ 9000 ∧ m.rows ≤ 100 ∧ m.ms.length ≤ 8 ∧ 1 ≤ m.data ∧ m.data + m.par ≤ 8 ∧
  (1000 * m.data < ws.length → ∀ H', Same H H' → E (.ref a.c_InvalidArgument) none H') ∧
  (ws.length ≤ 1000 * m.data → m.data + m.par ≤ (m.ms.filter fun d => decide (d ∉ av)).length ∧ m.bl.length + 18 < m.rows ∧ m.bl.length ≤ 50 ∧
    ∀ (b : Blk) (H' : Hp), Stor a H' S (m.put b) → b.s = m.made → b.ws = ws → b.L.length = m.data + m.par → (∀ e ∈ b.L, e.2.1 ∉ av) → (∀ x o, H x = some o → ¬ StR S m x → H' x = some o) → (∀ x, StR S (m.put b) x → StR S m x ∨ H x = none) → Q (.ref b.T) H')
theorem sp_Store_put_len {K : PySem.W.Frag} {a : Ad} {vs : List V} {H : Hp} {Q : VK} {E : XK} (h : sp_Store_put K a vs H Q E) : vs.length = 3 := by
  obtain ⟨S, W, A, m, ws, av, ims, rfl, _⟩ := h
  rfl
def sp_Store_get (K : PySem.W.Frag) (a : Ad) : Sp := fun vs H Q _ => ∃ (S : Addr) (m : SM) (b : Blk), vs = [.ref S, .ref b.T] ∧ Stor a H S m ∧ b ∈ m.bl ∧
  ∀ (D : Addr) (H' : Hp), Same H H' → H D = none → H' D = some (.lst (b.ws.map V.int)) → Q (.ref D) H'
theorem sp_Store_get_len {K : PySem.W.Frag} {a : Ad} {vs : List V} {H : Hp} {Q : VK} {E : XK} (h : sp_Store_get K a vs H Q E) : vs.length = 2 := by
  obtain ⟨S, m, b, rfl, _⟩ := h
  rfl
/-- some of the blocks go -/
def sp_Store_forget (K : PySem.W.Frag) (a : Ad) : Sp := fun vs H Q _ => ∃ (S P : Addr) (m : SM) (gs : List Blk), vs = [.ref S, .ref P] ∧ Stor a H S m ∧ SqL K H P (gs.map fun b => V.ref b.T) ∧ ¬ StR S m P ∧ gs.Sublist m.bl ∧ m.bl.length ≤ 50 ∧ m.rows ≤ 1000 ∧
  ∀ (H' : Hp), Stor a H' S (m.with (m.bl.filter fun b => decide (b.s ∉ gs.map (·.s)))) → (∀ x o, H x = some o → ¬ StR S m x → H' x = some o) → Q .non H'
theorem sp_Store_forget_len {K : PySem.W.Frag} {a : Ad} {vs : List V} {H : Hp} {Q : VK} {E : XK} (h : sp_Store_forget K a vs H Q E) : vs.length = 2 := by
  obtain ⟨S, P, m, gs, rfl, _⟩ := h
  rfl
def sp_Store_trim (K : PySem.W.Frag) (a : Ad) : Sp := fun vs H Q _ => ∃ (S LV : Addr) (m : SM) (ls : List Blk), vs = [.ref S, .ref LV] ∧ Stor a H S m ∧ SqL K H LV (ls.map fun b => V.ref b.T) ∧ (∀ b ∈ ls, b ∈ m.bl) ∧ ls.length ≤ 100 ∧ m.bl.length ≤ 50 ∧ m.rows ≤ 1000 ∧
  ∀ (H' : Hp), Stor a H' S (m.with (m.bl.filter fun b => decide (b.s ∈ ls.map (·.s)))) → (∀ x o, H x = some o → ¬ StR S m x → H' x = some o) → Q .non H'
theorem sp_Store_trim_len {K : PySem.W.Frag} {a : Ad} {vs : List V} {H : Hp} {Q : VK} {E : XK} (h : sp_Store_trim K a vs H Q E) : vs.length = 2 := by
  obtain ⟨S, LV, m, ls, rfl, _⟩ := h
  rfl
/-! the law's own -/
theorem eqv_tints (xs ys : List Int) : PyData.eqv (.tuple (xs.map .int)) (.tuple (ys.map .int)) = decide (xs = ys) := by
  simp only [PyData.eqv]
  exact eqvAll_ints xs ys
theorem shaped_tints (xs : List Int) : SeqAt.shaped (.tuple (xs.map .int)) = true := by
  simp [SeqAt.shaped, PyData.canLay0, canLayAll_ints, PyData.depth, depthAll_ints]
theorem dp_tints {K : PySem.W.Frag} {H : Hp} {a : Addr} {xs : List Int} (h : SqT K H a (xs.map V.int)) : Dp K H (.ref a) (.tuple (xs.map .int)) := .tup h (dpAll_ints xs)
theorem str_I {S : Addr} {m : SM} {I b : Addr} (h : StR S { m with I := I } b) : StR S m b := by
  cases h with
  | s => exact .s
  | ml => exact .ml
  | spd => exact .spd
  | bd => exact .bd
  | md => exact .md
  | s1 d md => exact .s1 d md
  | s2 d md => exact .s2 d md
  | t c mc => exact .t c mc
  | pt c mc => exact .pt c mc
  | w c mc => exact .w c mc
  | q c e mc me => exact .q c e mc me
/-- the rows that are used, by the places -/
theorem StorP.used_eq {a : Ad} {H : Hp} {S : Addr} {m : SM} {ψ : Int → Int → Int} (h : StorP a H S m ψ) (d : Int) : ((m.bl.flatMap fun b => b.L.map (·.2)).filter fun q => decide (q.1 = d)).length = usedM m d := by
  have n1 : (pickL 18 m.rows (phiM m.bl d) fun s => decide (s ≠ 0)).Nodup := ((rowsL_lt 18 m.rows).imp fun h => Int.ne_of_lt h).sublist List.filter_sublist
  have n2 : (((m.bl.flatMap fun b => b.L.map (·.2)).filter fun q => decide (q.1 = d)).map (·.2)).Nodup := by
    have n0 := h.dis.sublist (List.filter_sublist (p := fun q => decide (q.1 = d)))
    unfold List.Nodup at n0 ⊢
    rw [List.pairwise_map]
    refine List.Pairwise.imp_of_mem (fun {x y} mx my ne e => ne ?_) n0
    have e1 := of_decide_eq_true (List.mem_filter.mp mx).2
    have e2 := of_decide_eq_true (List.mem_filter.mp my).2
    exact Prod.ext (e1.trans e2.symm) e
  have p := (List.perm_ext_iff_of_nodup n1 n2).mpr fun r => by
    unfold pickL
    rw [List.mem_filter, rowsL_mem, List.mem_map]
    constructor
    · rintro ⟨_, z⟩
      have z := of_decide_eq_true z
      have c : ∃ b ∈ m.bl, ∃ q ∈ b.L, q.2 = (d, r) := Classical.byContradiction fun y => z (phi_zero.mpr y)
      obtain ⟨b, mb, q, mq, e⟩ := c
      exact ⟨q.2, List.mem_filter.mpr ⟨List.mem_flatMap.mpr ⟨b, mb, List.mem_map.mpr ⟨q, mq, rfl⟩⟩, decide_eq_true (by rw [e])⟩, by rw [e]⟩
    · rintro ⟨x, mx, e⟩
      obtain ⟨mx, z⟩ := List.mem_filter.mp mx
      have z := of_decide_eq_true z
      obtain ⟨b, mb, mq⟩ := List.mem_flatMap.mp mx
      obtain ⟨q, mq, e2⟩ := List.mem_map.mp mq
      have eq : q.2 = (d, r) := by rw [e2]; exact Prod.ext z e
      have rw' := (h.row b mb q mq).2
      rw [eq] at rw'
      refine ⟨rw', decide_eq_true ?_⟩
      rw [phi_one.mpr ⟨b, mb, q, mq, eq⟩]
      decide
  have := p.length_eq
  rw [List.length_map] at this
  exact this.symm
theorem but_none {p : Addr} {H H' : Hp} {b : Addr} (s : But p H H') (nb : b ≠ p) (n : H' b = none) : H b = none := by
  cases q : H b with
  | none => rfl
  | some o => rw [s _ _ q nb] at n; cases n
def prD (q : Int × Int) : PyData := .tuple [.int q.1, .int q.2]
theorem prs_data : ∀ L : List (Int × Int), PyData.canLayAll0 (L.map prD) = true ∧ PyData.depthAll (L.map prD) ≤ 1 ∧ PyData.eqvAll (L.map prD) (L.map prD) = true
  | [] => ⟨rfl, Nat.zero_le _, by simp [PyData.eqvAll]⟩
  | q :: qs => by
    obtain ⟨h1, h2, h3⟩ := prs_data qs
    refine ⟨by simp [PyData.canLayAll0, PyData.canLay0, prD, h1], ?_, by simp [PyData.eqvAll, PyData.eqv, prD, h3]⟩
    simp only [List.map_cons, PyData.depthAll, prD, PyData.depth]
    omega
theorem prs_shaped (L : List (Int × Int)) : SeqAt.shaped (.list (L.map prD)) = true := by
  obtain ⟨h1, h2, _⟩ := prs_data L
  have e : PyData.depth (.list (L.map prD)) = PyData.depthAll (L.map prD) + 1 := by simp only [PyData.depth]
  unfold SeqAt.shaped
  rw [Bool.and_eq_true]
  exact ⟨by simp only [PyData.canLay0]; exact h1, decide_eq_true (by rw [e]; omega)⟩
theorem prs_eqv (L : List (Int × Int)) : PyData.eqv (.list (L.map prD)) (.list (L.map prD)) = true := by
  simp only [PyData.eqv]
  exact (prs_data L).2.2
theorem dp_prs {K : PySem.W.Frag} {H : Hp} {D : Addr} {L : List (Addr × Int × Int)} (h : H D = some (.lst (L.map fun e => V.ref e.1))) (hL : ∀ e ∈ L, H e.1 = some (.tup [.int e.2.1, .int e.2.2])) : Dp K H (.ref D) (.list ((L.map (·.2)).map prD)) := by
  refine .lst (SqL.of h) ?_
  rw [List.map_map]
  have : ∀ M : List (Addr × Int × Int), (∀ e ∈ M, H e.1 = some (.tup [.int e.2.1, .int e.2.2])) → DpAll K H (M.map fun e => V.ref e.1) (M.map (prD ∘ fun x => x.2)) := by
    intro M
    induction M with
    | nil => intro _; exact .nil
    | cons e M ih => exact fun g => .cons (.tup (SqT.of (g e (by simp))) (.cons (.int _) (.cons (.int _) .nil))) (ih fun u m => g u (List.mem_cons_of_mem _ m))
  exact this L hL
theorem all_blS (bs : List Bool) : bs.all id = bs.all id := rfl
def takK (ks : List (Int × Int)) : List (List Key × V) := ks.map fun q => ([(Sum.inl q.1 : Key), Sum.inl q.2], V.bl true)
/-! the state of the law's loop -/
structure Ln where
  t : Addr
  b : Blk
  k : Addr
inductive Ro (S BK TK ML p l : Addr) (m : SM) (bs : List Ln) : Addr → Prop
  | st (x : Addr) : StR S m x → Ro S BK TK ML p l m bs x
  | i : Ro S BK TK ML p l m bs m.I
  | ml : Ro S BK TK ML p l m bs ML
  | bk : Ro S BK TK ML p l m bs BK
  | tk : Ro S BK TK ML p l m bs TK
  | p : Ro S BK TK ML p l m bs p
  | l : Ro S BK TK ML p l m bs l
  | t (e : Ln) : e ∈ bs → Ro S BK TK ML p l m bs e.t
  | k (e : Ln) : e ∈ bs → Ro S BK TK ML p l m bs e.k
structure R26 (a : Ad) (H : Hp) (S BK TK ML p l : Addr) (m : SM) (ks : List (Int × Int)) (bs : List Ln) (ims : List (Option Addr)) : Prop where
  st : Stor a H S m
  P : Pot H p l
  im : H m.I = some (.lst (ims.map refI))
  ml : H ML = some (.lst (m.ms.map V.int))
  bk : H BK = some (.lst (bs.map fun e => V.ref e.t))
  tk : H TK = some (.dT (takK ks))
  pr : ∀ e ∈ bs, H e.t = some (.tup [.ref e.b.T, .ref e.k]) ∧ H e.k = some (.lst (e.b.ws.map V.int))
  nS : ∀ x, StR S m x → x ≠ p ∧ x ≠ l ∧ x ≠ m.I ∧ x ≠ ML ∧ x ≠ BK ∧ x ≠ TK ∧ ∀ e ∈ bs, x ≠ e.t ∧ x ≠ e.k
  np : m.I ≠ p ∧ ML ≠ p ∧ BK ≠ p ∧ ∀ e ∈ bs, e.k ≠ p
  nb : m.I ≠ BK ∧ ML ≠ BK ∧ l ≠ BK ∧ ∀ e ∈ bs, e.k ≠ BK
section
variable {a : Ad} {H H' : Hp} {S BK TK ML p l : Addr} {m : SM} {ks : List (Int × Int)} {bs : List Ln} {ims : List (Option Addr)}
theorem R26.there (r : R26 a H S BK TK ML p l m ks bs ims) {x : Addr} (h : Ro S BK TK ML p l m bs x) : ∃ o, H x = some o := by
  obtain ⟨_, _, _, _, h1, h2, _⟩ := r.P
  cases h with
  | st _ h => exact r.st.there h
  | i => exact ⟨_, r.im⟩
  | ml => exact ⟨_, r.ml⟩
  | bk => exact ⟨_, r.bk⟩
  | tk => exact ⟨_, r.tk⟩
  | p => exact ⟨_, h1⟩
  | l => exact ⟨_, h2⟩
  | t e me => exact ⟨_, (r.pr e me).1⟩
  | k e me => exact ⟨_, (r.pr e me).2⟩
theorem R26.off (r : R26 a H S BK TK ML p l m ks bs ims) {x : Addr} (n : H x = none) : ¬ Ro S BK TK ML p l m bs x := fun h => by
  obtain ⟨o, e⟩ := r.there h
  rw [n] at e
  cases e
theorem R26.keep (r : R26 a H S BK TK ML p l m ks bs ims) (P' : Pot H' p l) (k : ∀ b o, H b = some o → Ro S BK TK ML p l m bs b → b ≠ p → H' b = some o) : R26 a H' S BK TK ML p l m ks bs ims := by
  obtain ⟨i, acc, seed, hp⟩ := r.P.list
  exact ⟨r.st.keep fun b o e h => k b o e (.st _ h) (r.nS b h).1, P', k _ _ r.im .i r.np.1, k _ _ r.ml .ml r.np.2.1, k _ _ r.bk .bk r.np.2.2.1, k _ _ r.tk .tk (ne_of r.tk hp fun z => nomatch z),
    fun e me => ⟨k _ _ (r.pr e me).1 (.t e me) (ne_of (r.pr e me).1 hp fun z => nomatch z), k _ _ (r.pr e me).2 (.k e me) (r.np.2.2.2 e me)⟩, r.nS, r.np, r.nb⟩
theorem R26.same (r : R26 a H S BK TK ML p l m ks bs ims) (s : Same H H') : R26 a H' S BK TK ML p l m ks bs ims := r.keep (r.P.same s) fun b o e _ _ => s b o e
theorem R26.draw (r : R26 a H S BK TK ML p l m ks bs ims) (P' : Pot H' p l) (o : But p H H') : R26 a H' S BK TK ML p l m ks bs ims := r.keep P' fun b u e _ n => o b u e n
theorem R26.upd (r : R26 a H S BK TK ML p l m ks bs ims) {x : Addr} {o : HO} (n : ¬ Ro S BK TK ML p l m bs x) : R26 a (upd H x o) S BK TK ML p l m ks bs ims := r.keep (r.P.only Only.upd (fun z => n (by rw [← z]; exact .p)) fun z => n (by rw [← z]; exact .l)) fun b u e h _ => by
  rw [upd_ne fun z => n (by rw [← z]; exact h)]
  exact e
theorem R26.nR (r : R26 a H S BK TK ML p l m ks bs ims) {x : Addr} (h : x = p ∨ x = l ∨ x = m.I ∨ x = ML ∨ x = BK ∨ x = TK ∨ ∃ e ∈ bs, x = e.t ∨ x = e.k) : ¬ StR S m x := fun s => by
  obtain ⟨h1, h2, h3, h4, h5, h6, h7⟩ := r.nS x s
  rcases h with h | h | h | h | h | h | ⟨e, me, h | h⟩
  · exact h1 h
  · exact h2 h
  · exact h3 h
  · exact h4 h
  · exact h5 h
  · exact h6 h
  · exact (h7 e me).1 h
  · exact (h7 e me).2 h
/-- the store is another one now, with the same images and members -/
theorem R26.store (r : R26 a H S BK TK ML p l m ks bs ims) {m' : SM} (st : Stor a H' S m') (eI : m'.I = m.I) (eM : m'.ms = m.ms) (fr : ∀ x o, H x = some o → ¬ StR S m x → H' x = some o) (up : ∀ x, StR S m' x → StR S m x ∨ H x = none) : R26 a H' S BK TK ML p l m' ks bs ims := by
  obtain ⟨ns, i, acc, seed, h1, h2, h3⟩ := r.P
  have kp := fun x o e h => fr x o e (r.nR (x := x) h)
  have nx : ∀ x, StR S m' x → ∀ y o, H y = some o → (y = p ∨ y = l ∨ y = m.I ∨ y = ML ∨ y = BK ∨ y = TK ∨ ∃ e ∈ bs, y = e.t ∨ y = e.k) → x ≠ y := fun x hx y o e h z => by
    rcases up x hx with u | u
    · rw [z] at u
      exact r.nR h u
    · rw [z, e] at u
      cases u
  refine ⟨st, ⟨ns, i, acc, seed, kp _ _ h1 (.inl rfl), kp _ _ h2 (.inr (.inl rfl)), h3⟩, ?_, ?_, kp _ _ r.bk (by simp), kp _ _ r.tk (by simp), fun e me => ⟨kp _ _ (r.pr e me).1 (.inr (.inr (.inr (.inr (.inr (.inr ⟨e, me, .inl rfl⟩)))))), kp _ _ (r.pr e me).2 (.inr (.inr (.inr (.inr (.inr (.inr ⟨e, me, .inr rfl⟩))))))⟩, fun x hx => ?_, ?_, ?_⟩
  · rw [eI]
    exact kp _ _ r.im (by simp)
  · rw [eM]
    exact kp _ _ r.ml (by simp)
  · rw [eI]
    exact ⟨nx x hx _ _ h1 (by simp), nx x hx _ _ h2 (by simp), nx x hx _ _ r.im (by simp), nx x hx _ _ r.ml (by simp), nx x hx _ _ r.bk (by simp), nx x hx _ _ r.tk (by simp), fun e me => ⟨nx x hx _ _ (r.pr e me).1 (.inr (.inr (.inr (.inr (.inr (.inr ⟨e, me, .inl rfl⟩)))))), nx x hx _ _ (r.pr e me).2 (.inr (.inr (.inr (.inr (.inr (.inr ⟨e, me, .inr rfl⟩))))))⟩⟩
  · rw [eI]; exact r.np
  · rw [eI]; exact r.nb
/-- a place is taken down -/
theorem R26.take (r : R26 a H S BK TK ML p l m ks bs ims) (ks' : List (Int × Int)) : R26 a (L2.upd H TK (.dT (takK ks'))) S BK TK ML p l m ks' bs ims := by
  obtain ⟨i, acc, seed, hp⟩ := r.P.list
  obtain ⟨_, _, _, _, _, hl, _⟩ := r.P
  have k : ∀ x o, H x = some o → (∀ kv, o ≠ .dT kv) → L2.upd H TK (.dT (takK ks')) x = some o := fun x o e n => by
    rw [upd_ne (ne_of e r.tk (n _))]
    exact e
  refine ⟨r.st.put (r.nR (by simp)), r.P.only Only.upd (ne_of hp r.tk fun z => nomatch z) (ne_of hl r.tk fun z => nomatch z), k _ _ r.im (fun _ z => nomatch z), k _ _ r.ml (fun _ z => nomatch z), k _ _ r.bk (fun _ z => nomatch z), upd_same, fun e me => ⟨k _ _ (r.pr e me).1 (fun _ z => nomatch z), k _ _ (r.pr e me).2 (fun _ z => nomatch z)⟩, r.nS, r.np, r.nb⟩
/-- a new list of places -/
theorem R26.retake (r : R26 a H S BK TK ML p l m ks bs ims) {TK' : Addr} (n : H TK' = none) : R26 a (L2.upd H TK' (.dT (takK []))) S BK TK' ML p l m [] bs ims := by
  have s := Same.new (o := .dT (takK [])) n
  have r' := r.same s
  refine ⟨r'.st, r'.P, r'.im, r'.ml, r'.bk, upd_same, r'.pr, fun x hx => ?_, r'.np, r'.nb⟩
  obtain ⟨h1, h2, h3, h4, h5, _, h7⟩ := r.nS x hx
  exact ⟨h1, h2, h3, h4, h5, fun z => r.off n (by rw [← z]; exact .st _ hx), h7⟩
/-- one more block in the law's list -/
theorem R26.more (r : R26 a H S BK TK ML p l m ks bs ims) {e : Ln} (t : H e.t = some (.tup [.ref e.b.T, .ref e.k])) (k : H e.k = some (.lst (e.b.ws.map V.int))) (nt : ¬ Ro S BK TK ML p l m bs e.t) (nk : ¬ Ro S BK TK ML p l m bs e.k) : R26 a (L2.upd H BK (.lst ((bs.map fun e => V.ref e.t) ++ [.ref e.t]))) S BK TK ML p l m ks (bs ++ [e]) ims := by
  obtain ⟨i, acc, seed, hp⟩ := r.P.list
  have kp : ∀ x o, H x = some o → x ≠ BK → L2.upd H BK (.lst ((bs.map fun e => V.ref e.t) ++ [.ref e.t])) x = some o := fun x o e n => by
    rw [upd_ne n]
    exact e
  have mem : ∀ c ∈ bs ++ [e], c ∈ bs ∨ c = e := fun c mc => (List.mem_append.mp mc).imp_right List.mem_singleton.mp
  refine ⟨r.st.put (r.nR (by simp)), r.P.only Only.upd r.np.2.2.1.symm r.nb.2.2.1, kp _ _ r.im r.nb.1, kp _ _ r.ml r.nb.2.1, by rw [upd_same, List.map_append]; rfl, kp _ _ r.tk (ne_of r.tk r.bk fun z => nomatch z), fun c mc => ?_, fun x hx => ?_, ⟨r.np.1, r.np.2.1, r.np.2.2.1, fun c mc => ?_⟩, ⟨r.nb.1, r.nb.2.1, r.nb.2.2.1, fun c mc => ?_⟩⟩
  · rcases mem c mc with mc | rfl
    · exact ⟨kp _ _ (r.pr c mc).1 (ne_of (r.pr c mc).1 r.bk fun z => nomatch z), kp _ _ (r.pr c mc).2 (r.nb.2.2.2 c mc)⟩
    · exact ⟨kp _ _ t (ne_of t r.bk fun z => nomatch z), kp _ _ k fun z => nk (by rw [z]; exact .bk)⟩
  · obtain ⟨h1, h2, h3, h4, h5, h6, h7⟩ := r.nS x hx
    refine ⟨h1, h2, h3, h4, h5, h6, fun c mc => ?_⟩
    rcases mem c mc with mc | rfl
    · exact h7 c mc
    · exact ⟨fun z => nt (by rw [← z]; exact .st _ hx), fun z => nk (by rw [← z]; exact .st _ hx)⟩
  · rcases mem c mc with mc | rfl
    · exact r.np.2.2.2 c mc
    · exact fun z => nk (by rw [z]; exact .p)
  · rcases mem c mc with mc | rfl
    · exact r.nb.2.2.2 c mc
    · exact fun z => nk (by rw [z]; exact .bk)
end
theorem str_sub {S : Addr} {m : SM} {bl : List Blk} (h : ∀ b ∈ bl, b ∈ m.bl) {x : Addr} (r : StR S (m.with bl) x) : StR S m x := by
  cases r with
  | s => exact .s
  | ml => exact .ml
  | spd => exact .spd
  | bd => exact .bd
  | md => exact .md
  | s1 d md => exact .s1 d md
  | s2 d md => exact .s2 d md
  | t c mc => exact .t c (h c mc)
  | pt c mc => exact .pt c (h c mc)
  | w c mc => exact .w c (h c mc)
  | q c e mc me => exact .q c e (h c mc) me
def plcs (bl : List Blk) : List (Int × Int) := bl.flatMap fun b => b.L.map (·.2)
theorem filter_sub {α : Type} {f : α → Nat} : ∀ {l' l : List α}, l'.Sublist l → (l.map f).Nodup → (∀ q : α → Bool, (∀ x ∈ l, q x = decide (f x ∈ l'.map f)) → l.filter q = l')
  | _, _, .slnil, _, _, _ => rfl
  | l', x :: l, .cons _ s, nd, q, hq => by
    rw [List.map_cons, List.nodup_cons] at nd
    rw [List.filter_cons, hq x (by simp), if_neg, filter_sub s nd.2 q fun y my => hq y (List.mem_cons_of_mem _ my)]
    intro z
    have z := of_decide_eq_true z
    exact nd.1 ((s.map f).subset z)
  | x :: l', _ :: l, .cons₂ _ s, nd, q, hq => by
    rw [List.map_cons, List.nodup_cons] at nd
    rw [List.filter_cons, hq x (by simp), if_pos (by simp), filter_sub s nd.2 q fun y my => ?_]
    rw [hq y (List.mem_cons_of_mem _ my), List.map_cons]
    have : f y ≠ f x := fun z => nd.1 (by rw [← z]; exact List.mem_map.mpr ⟨y, my, rfl⟩)
    by_cases c : f y ∈ l'.map f
    · rw [decide_eq_true c, decide_eq_true (List.mem_cons_of_mem _ c)]
    · rw [decide_eq_false c, decide_eq_false fun z => (List.mem_cons.mp z).elim this c]
theorem R26.ro {a : Ad} {H : Hp} {S BK TK ML p l : Addr} {m m' : SM} {bs : List Ln} {x : Addr} {o : HO} (eI : m'.I = m.I) (up : ∀ x, StR S m' x → StR S m x ∨ H x = none) (ho : H x = some o) (n : ¬ Ro S BK TK ML p l m bs x) : ¬ Ro S BK TK ML p l m' bs x := fun h => by
  cases h with
  | st _ h =>
    rcases up x h with u | u
    · exact n (.st _ u)
    · rw [ho] at u; cases u
  | i => exact n (by rw [eI]; exact .i)
  | ml => exact n .ml
  | bk => exact n .bk
  | tk => exact n .tk
  | p => exact n .p
  | l => exact n .l
  | t e me => exact n (.t e me)
  | k e me => exact n (.k e me)
theorem avoid_len {x : Int} : ∀ {l : List Int}, l.Nodup → l.length ≤ (l.filter fun d => decide (d ∉ [x])).length + 1
  | [], _ => by simp
  | y :: l, nd => by
    rw [List.nodup_cons] at nd
    rw [List.filter_cons]
    split
    · have := avoid_len (x := x) nd.2
      rw [List.length_cons, List.length_cons]
      omega
    · next z =>
      have e : y = x := by simpa using z
      have : (l.filter fun d => decide (d ∉ [x])) = l := List.filter_eq_self.mpr fun u mu => decide_eq_true fun h => nd.1 (by rw [e, ← List.mem_singleton.mp h]; exact mu)
      rw [this, List.length_cons]
      exact Nat.le_refl _
theorem new_place {α : Type} {A B : List α} {x : α} {j : Nat} (nd : (A ++ B).Nodup) (h : B[j]? = some x) : x ∉ A ++ B.take j := by
  have s : (A ++ B.take (j + 1)).Nodup := nd.sublist ((List.Sublist.refl A).append (List.take_sublist _ _))
  rw [take_snoc h, ← List.append_assoc, List.nodup_append] at s
  exact fun m => s.2.2 x m x (by simp) rfl
theorem valV_takK {q : Int × Int} : ∀ {ks : List (Int × Int)}, q ∉ ks → valV (takK ks) [(Sum.inl q.1 : Key), Sum.inl q.2] = none
  | [], _ => rfl
  | u :: ks, h => by
    have n : ¬ ([(Sum.inl u.1 : Key), Sum.inl u.2] = [(Sum.inl q.1 : Key), Sum.inl q.2]) := fun z => by
      injection z with z1 z2
      injection z2 with z2 _
      exact h (by rw [show q = u from Prod.ext (Sum.inl.inj z1).symm (Sum.inl.inj z2).symm]; simp)
    show valV (([(Sum.inl u.1 : Key), Sum.inl u.2], V.bl true) :: takK ks) _ = none
    rw [valV_neg n]
    exact valV_takK fun m => h (List.mem_cons_of_mem _ m)
theorem putK_takK {q : Int × Int} {ks : List (Int × Int)} (h : q ∉ ks) : putK (takK ks) [(Sum.inl q.1 : Key), Sum.inl q.2] (.bl true) = takK (ks ++ [q]) := by
  rw [putK_new _ (valV_takK h)]
  unfold takK
  rw [List.map_append]
  rfl
theorem plcs_snoc (bl : List Blk) (b : Blk) : plcs (bl ++ [b]) = plcs bl ++ b.L.map (·.2) := by
  unfold plcs
  rw [List.flatMap_append, List.flatMap_cons, List.flatMap_nil, List.append_nil]
theorem plcs_len {n : Nat} : ∀ {bl : List Blk}, (∀ b ∈ bl, b.L.length ≤ n) → (plcs bl).length ≤ n * bl.length
  | [], _ => Nat.zero_le _
  | b :: bl, h => by
    have h1 := h b (by simp)
    have h2 := plcs_len (n := n) fun c mc => h c (List.mem_cons_of_mem _ mc)
    have e : (plcs (b :: bl)).length = b.L.length + (plcs bl).length := by
      unfold plcs
      rw [List.flatMap_cons, List.length_append, List.length_map]
    rw [e, List.length_cons, Nat.mul_succ]
    omega
theorem StorP.plcs_le {a : Ad} {H : Hp} {S : Addr} {m : SM} {ψ : Int → Int → Int} (h : StorP a H S m ψ) : (plcs m.bl).length ≤ m.ms.length * m.bl.length := plcs_len fun b mb => by
  have nd : (b.L.map fun e => e.2.1).Nodup := (h.asc b mb).imp fun z => Int.ne_of_lt z
  have := List.Nodup.length_le_of_subset nd (l₂ := m.ms) fun x mx => by
    obtain ⟨e, me, rfl⟩ := List.mem_map.mp mx
    exact (h.row b mb e me).1
  rw [List.length_map] at this
  exact this
theorem lns_item {bs : List Ln} {i : Nat} {y : V} (h : (bs.map fun e => V.ref e.t)[i]? = some y) : ∃ e, bs[i]? = some e ∧ y = V.ref e.t := by
  rw [List.getElem?_map] at h
  cases z : bs[i]? with
  | none => rw [z] at h; cases h
  | some e => rw [z] at h; exact ⟨e, rfl, (Option.some.inj h).symm⟩
theorem plcs_take (bl : List Blk) (n : Nat) : (plcs (bl.take n)).Sublist (plcs bl) := by
  have e : plcs bl = plcs (bl.take n) ++ plcs (bl.drop n) := by
    unfold plcs
    rw [← List.flatMap_append, List.take_append_drop]
  rw [e]
  exact List.sublist_append_left _ _
structure M26 (m : SM) (bs : List Ln) (d w : Nat) (ep : Int) (ms : List Int) (I : Addr) (i : Nat) : Prop where
  data : m.data = d
  par : m.par = w - d
  rows : m.rows = 64
  ep : m.ep = ep
  ms : m.ms = ms
  I : m.I = I
  made : m.made = i
  bl : m.bl = bs.map (·.b)
  len : bs.length = i
  ws : ∀ e ∈ bs, e.b.ws.length ≤ 40
def sp_law_is_pointer (K : PySem.W.Frag) (a : Ad) : Sp := fun vs H Q _ => ∃ (b : Blk) (ep : Int) (ML : Addr) (ms : List Int) (n rows : Nat), vs = [.ref b.T, .int ep, .int (b.s : Int), .int (b.ws.length : Int), .ref ML, .int (n : Int), .int (rows : Int)] ∧ BlkAt H ep b ∧ SqL K H ML (ms.map V.int) ∧ b.L.length = n ∧ n ≤ 8 ∧ (b.L.map fun e => e.2.1).Pairwise (· < ·) ∧ (∀ e ∈ b.L, e.2.1 ∈ ms ∧ 0 ≤ e.2.1 ∧ (18 ≤ e.2.2 ∧ e.2.2 < rows)) ∧
  ∀ H', Same H H' → Q (.bl true) H'
theorem sp_law_is_pointer_len {K : PySem.W.Frag} {a : Ad} {vs : List V} {H : Hp} {Q : VK} {E : XK} (h : sp_law_is_pointer K a vs H Q E) : vs.length = 7 := by
  obtain ⟨b, ep, ML, ms, n, rows, rfl, _⟩ := h
  rfl
def sp_law_refused (K : PySem.W.Frag) (a : Ad) : Sp := fun vs H Q _ => ∃ (S W : Addr) (m : SM) (ws : List Int) (ims : List (Option Addr)), vs = [.ref S, .ref W] ∧ Stor a H S m ∧ SqL K H W (ws.map V.int) ∧ ¬ StR S m W ∧ 1000 * m.data < ws.length ∧ ws.length ≤ 9000 ∧ SqL K H m.I (ims.map refI) ∧ ims.length ≤ 100 ∧ m.rows ≤ 100 ∧ m.ms.length ≤ 8 ∧ 1 ≤ m.data ∧ m.data + m.par ≤ 8 ∧ ∀ H', Same H H' → Q (.bl true) H'
theorem sp_law_refused_len {K : PySem.W.Frag} {a : Ad} {vs : List V} {H : Hp} {Q : VK} {E : XK} (h : sp_law_refused K a vs H Q E) : vs.length = 2 := by
  obtain ⟨S, W, m, ws, ims, rfl, _⟩ := h
  rfl
def sp_law_counts_right (K : PySem.W.Frag) (a : Ad) : Sp := fun vs H Q _ => ∃ (S ML TK : Addr) (m : SM) (ks : List (Int × Int)), vs = [.ref S, .ref ML, .ref TK] ∧ Stor a H S m ∧ SqL K H ML (m.ms.map V.int) ∧ m.ms.length ≤ 8 ∧ m.rows = 64 ∧ H TK = some (.dT (takK ks)) ∧ ks.length ≤ 1000 ∧ (∀ d ∈ m.ms, (ks.filter fun q => decide (q.1 = d)).length = usedM m d) ∧
  ∀ H', Same H H' → Q (.bl true) H'
theorem sp_law_counts_right_len {K : PySem.W.Frag} {a : Ad} {vs : List V} {H : Hp} {Q : VK} {E : XK} (h : sp_law_counts_right K a vs H Q E) : vs.length = 3 := by
  obtain ⟨S, ML, TK, m, ks, rfl, _⟩ := h
  rfl
def sp_sector_at (K : PySem.W.Frag) (a : Ad) : Sp := fun vs _ _ _ => vs.length = 3 ∧ False
theorem sp_sector_at_len {K : PySem.W.Frag} {a : Ad} {vs : List V} {H : Hp} {Q : VK} {E : XK} (h : sp_sector_at K a vs H Q E) : vs.length = 3 := h.1
def sp_inverse (K : PySem.W.Frag) (a : Ad) : Sp := fun vs _ _ _ => vs.length = 1 ∧ False
theorem sp_inverse_len {K : PySem.W.Frag} {a : Ad} {vs : List V} {H : Hp} {Q : VK} {E : XK} (h : sp_inverse K a vs H Q E) : vs.length = 1 := h.1
def sp_weight (K : PySem.W.Frag) (a : Ad) : Sp := fun vs _ _ _ => vs.length = 3 ∧ False
theorem sp_weight_len {K : PySem.W.Frag} {a : Ad} {vs : List V} {H : Hp} {Q : VK} {E : XK} (h : sp_weight K a vs H Q E) : vs.length = 3 := h.1
def sp_weights (K : PySem.W.Frag) (a : Ad) : Sp := fun vs _ _ _ => vs.length = 2 ∧ False
theorem sp_weights_len {K : PySem.W.Frag} {a : Ad} {vs : List V} {H : Hp} {Q : VK} {E : XK} (h : sp_weights K a vs H Q E) : vs.length = 2 := h.1
def sp_check_lengths (K : PySem.W.Frag) (a : Ad) : Sp := fun vs _ _ _ => vs.length = 1 ∧ False
theorem sp_check_lengths_len {K : PySem.W.Frag} {a : Ad} {vs : List V} {H : Hp} {Q : VK} {E : XK} (h : sp_check_lengths K a vs H Q E) : vs.length = 1 := h.1
def sp_piece_at (K : PySem.W.Frag) (a : Ad) : Sp := fun vs _ _ _ => vs.length = 3 ∧ False
theorem sp_piece_at_len {K : PySem.W.Frag} {a : Ad} {vs : List V} {H : Hp} {Q : VK} {E : XK} (h : sp_piece_at K a vs H Q E) : vs.length = 3 := h.1
def sp_present_numbers (K : PySem.W.Frag) (a : Ad) : Sp := fun vs _ _ _ => vs.length = 2 ∧ False
theorem sp_present_numbers_len {K : PySem.W.Frag} {a : Ad} {vs : List V} {H : Hp} {Q : VK} {E : XK} (h : sp_present_numbers K a vs H Q E) : vs.length = 2 := h.1
def sp_recover (K : PySem.W.Frag) (a : Ad) : Sp := fun vs _ _ _ => vs.length = 2 ∧ False
theorem sp_recover_len {K : PySem.W.Frag} {a : Ad} {vs : List V} {H : Hp} {Q : VK} {E : XK} (h : sp_recover K a vs H Q E) : vs.length = 2 := h.1
def sp_check_words (K : PySem.W.Frag) (a : Ad) : Sp := fun vs _ _ _ => vs.length = 1 ∧ False
theorem sp_check_words_len {K : PySem.W.Frag} {a : Ad} {vs : List V} {H : Hp} {Q : VK} {E : XK} (h : sp_check_words K a vs H Q E) : vs.length = 1 := h.1
def sp_is_place (K : PySem.W.Frag) (a : Ad) : Sp := fun vs _ _ _ => vs.length = 3 ∧ False
theorem sp_is_place_len {K : PySem.W.Frag} {a : Ad} {vs : List V} {H : Hp} {Q : VK} {E : XK} (h : sp_is_place K a vs H Q E) : vs.length = 3 := h.1
def sp_unseal (K : PySem.W.Frag) (a : Ad) : Sp := fun vs _ _ _ => vs.length = 4 ∧ False
theorem sp_unseal_len {K : PySem.W.Frag} {a : Ad} {vs : List V} {H : Hp} {Q : VK} {E : XK} (h : sp_unseal K a vs H Q E) : vs.length = 4 := h.1
def sp_is_whole (K : PySem.W.Frag) (a : Ad) : Sp := fun vs _ _ _ => vs.length = 1 ∧ False
theorem sp_is_whole_len {K : PySem.W.Frag} {a : Ad} {vs : List V} {H : Hp} {Q : VK} {E : XK} (h : sp_is_whole K a vs H Q E) : vs.length = 1 := h.1
def sp_piece_size (K : PySem.W.Frag) (a : Ad) : Sp := fun vs _ _ _ => vs.length = 2 ∧ False
theorem sp_piece_size_len {K : PySem.W.Frag} {a : Ad} {vs : List V} {H : Hp} {Q : VK} {E : XK} (h : sp_piece_size K a vs H Q E) : vs.length = 2 := h.1
def sp_good_piece (K : PySem.W.Frag) (a : Ad) : Sp := fun vs _ _ _ => vs.length = 4 ∧ False
theorem sp_good_piece_len {K : PySem.W.Frag} {a : Ad} {vs : List V} {H : Hp} {Q : VK} {E : XK} (h : sp_good_piece K a vs H Q E) : vs.length = 4 := h.1
def sp_read_stripe (K : PySem.W.Frag) (a : Ad) : Sp := fun vs _ _ _ => vs.length = 5 ∧ False
theorem sp_read_stripe_len {K : PySem.W.Frag} {a : Ad} {vs : List V} {H : Hp} {Q : VK} {E : XK} (h : sp_read_stripe K a vs H Q E) : vs.length = 5 := h.1
section
variable {P : Program} {w : World} {K : PySem.W.Frag} {mg : Str → Option Value} {base : Heap} {a : Ad}
theorem sc_is_present : FnScope ["images", "disk"] ["images", "disk"] (defScope s_is_present) := ⟨rfl, rfl, rfl, by decide +kernel, rfl, by decide +kernel, by decide +kernel⟩
theorem ok_is_present (T : Txt w K mg a) : FnOk P w K mg base CX0 1 a.f_is_present a.d_is_present ["images", "disk"] (sp_is_present K a) := by
  refine T.F_is_present.ok sc_is_present (fun vs H Q E h => ?len) (fun cdv A outer s H vs Q E hr h => ?body)
  case len =>
    exact sp_is_present_len h
  case body =>
    obtain ⟨I, ims, d, rfl, hI, hl, k⟩ := h
    refine ⟨_, (pss_one (ps_ret (pe_and (pe_chain op_le op_lt pe_int (pv 1) (pe_callB call_len_seq (by rfl) T.n_len PySem.boot_len (pa_cons (pv 0) pa_nil))) (pe_one (pe_cmpR op_notN (pe_ix ix_list (pv 0) (pv 1) (fun _ _ => rfl)) pe_non (nomark _)))))), ?_⟩
    refine ⟨_, rfl, _, _, rfl, rfl, _, rfl, ite2 (fun _ => ⟨_, rfl, I, _, rfl, .inl hI, _, _, rfl, rfl, _, rfl, ite2 (fun b => ?_) (fun b => ?_)⟩) (fun a => absurd (decide_eq_true (show (0 : Int) ≤ (d : Int) by omega)) a)⟩
    · have b := of_decide_eq_true b
      rw [List.length_map] at b
      have hd : d < ims.length := by omega
      have hg : ims[d]? = some ims[d] := List.getElem?_eq_getElem hd
      refine ⟨_, rfl, _, rfl, I, _, _, _, rfl, rfl, hI, at_of (j := d) rfl (imgs_get hg), ?_⟩
      have e : presentM ims d = ims[d].isSome := by unfold presentM; rw [getD_item hg]
      rw [e] at k
      cases q : ims[d] with
      | none => rw [q] at k; exact ⟨rfl, k⟩
      | some x => rw [q] at k; exact ⟨rfl, k⟩
    · have e : presentM ims d = false := by
        unfold presentM
        rw [List.getD_eq_getElem?_getD, List.getElem?_eq_none (by
          have : ¬ (d : Int) < ((ims.map refI).length : Int) := fun z => b (decide_eq_true z)
          rw [List.length_map] at this
          omega)]
        rfl
      rw [e] at k
      exact k
theorem sc_inverse : FnScope ["a", "number", "next_number", "factor", "next_factor", "quotient"] ["a"] (defScope s_inverse) := ⟨rfl, rfl, rfl, by decide +kernel, rfl, by decide +kernel, by decide +kernel⟩
theorem ok_inverse (T : Txt w K mg a) : FnOk P w K mg base CX0 1 a.f_inverse a.d_inverse ["a"] (sp_inverse K a) := by
  refine T.F_inverse.ok sc_inverse (fun vs H Q E h => ?len) (fun cdv A outer s H vs Q E hr h => ?body)
  case len =>
    exact sp_inverse_len h
  case body =>
    exact h.2.elim
theorem sc_check_lengths : FnScope ["pieces", "piece"] ["pieces"] (defScope s_check_lengths) := ⟨rfl, rfl, rfl, by decide +kernel, rfl, by decide +kernel, by decide +kernel⟩
theorem ok_check_lengths (T : Txt w K mg a) : FnOk P w K mg base CX0 1 a.f_check_lengths a.d_check_lengths ["pieces"] (sp_check_lengths K a) := by
  refine T.F_check_lengths.ok sc_check_lengths (fun vs H Q E h => ?len) (fun cdv A outer s H vs Q E hr h => ?body)
  case len =>
    exact sp_check_lengths_len h
  case body =>
    exact h.2.elim
theorem sc_check_words : FnScope ["words", "weighted", "at", "word"] ["words"] (defScope s_check_words) := ⟨rfl, rfl, rfl, by decide +kernel, rfl, by decide +kernel, by decide +kernel⟩
theorem ok_check_words (T : Txt w K mg a) : FnOk P w K mg base CX0 1 a.f_check_words a.d_check_words ["words"] (sp_check_words K a) := by
  refine T.F_check_words.ok sc_check_words (fun vs H Q E h => ?len) (fun cdv A outer s H vs Q E hr h => ?body)
  case len =>
    exact sp_check_words_len h
  case body =>
    exact h.2.elim
theorem sc_is_place : FnScope ["kind", "disk", "row"] ["kind", "disk", "row"] (defScope s_is_place) := ⟨rfl, rfl, rfl, by decide +kernel, rfl, by decide +kernel, by decide +kernel⟩
theorem ok_is_place (T : Txt w K mg a) : FnOk P w K mg base CX0 1 a.f_is_place a.d_is_place ["kind", "disk", "row"] (sp_is_place K a) := by
  refine T.F_is_place.ok sc_is_place (fun vs H Q E h => ?len) (fun cdv A outer s H vs Q E hr h => ?body)
  case len =>
    exact sp_is_place_len h
  case body =>
    exact h.2.elim
theorem sc_choose_disks : FnScope ["candidates", "width", "ranked", "disk", "present", "free", "_"] ["candidates", "width"] (defScope s_choose_disks) := ⟨rfl, rfl, rfl, by decide +kernel, rfl, by decide +kernel, by decide +kernel⟩
theorem ok_choose_disks (T : Txt w K mg a) : FnOk P w K mg base (L2.CX P w) 1 a.f_choose_disks a.d_choose_disks ["candidates", "width"] (sp_choose_disks K a) := by
  refine T.F_choose_disks.okX sc_choose_disks (fun vs H Q E h => ?len) (fun cdv A outer s H vs Q E hr h => ?body)
  case len =>
    exact sp_choose_disks_len h
  case body =>
    obtain ⟨C, L, w, rfl, hC, hl, hw, nd, kD, kS, kQ⟩ := h
    refine ⟨_, (pss_cons (ps_if (pt_cmpR op_lt (pe_callB call_len_seq (by rfl) T.n_len PySem.boot_len (pa_cons (pv 0) pa_nil)) (pv 1) (nomark _))
      (pss_one (ps_raise rfl (takes_of rfl rfl rfl rfl) (pmk_own PySem.F.excBase_ValueError T.x_NotEnoughDisks T.g_NotEnoughDisks T.k_NotEnoughDisks (raises_own T.b_NotEnoughDisks T.t_NotEnoughDisks) (by exact rfl))))
      pss_nil)
      (pss_cons (ps_set (i := 2) sc_choose_disks.nd rfl (Or.inl rfl) (pe_callB (cr_sortedD hr.units) (by rfl) T.n_sorted (by decide +kernel) (pa_cons (pe_lc (own := [("disk", 3), ("present", 4), ("free", 5)]) (g := (gTup K 3 (gCons (gName 3) (gCons (gName 4) (gCons (gName 5) gNil))))) (by rfl) sc_choose_disks.nd (pi_list (pv 0)) (blkOk_by (own := [("disk", 3), ("present", 4), ("free", 5)]) (N := ["candidates", "width", "ranked", "disk", "present", "free", "_"]) (sc := defScope s_choose_disks) (by decide +kernel))
      (fun _ _ _ _ _ => (pg_tup rfl (pgs_cons (pg_name (i := 3) sc_choose_disks.nd rfl (Or.inl rfl)) (pgs_cons (pg_name (i := 4) sc_choose_disks.nd rfl (Or.inl rfl)) (pgs_cons (pg_name (i := 5) sc_choose_disks.nd rfl (Or.inl rfl)) pgs_nil))))) (fun _ _ _ _ _ => (pts_one (pt_cmpR op_gt (pv 5) pe_int (nomark _)))) (fun _ _ _ _ _ => (pe_tup (pa_cons (pe_not (pv 4)) (pa_cons (pe_un un_neg (pv 5)) (pa_cons (pv 3) pa_nil)))))) pa_nil)))
      (pss_cons (ps_if (pt_cmpR op_lt (pe_callB call_len_seq (by rfl) T.n_len PySem.boot_len (pa_cons (pv 2) pa_nil)) (pv 1) (nomark _))
      (pss_one (ps_raise rfl (takes_of rfl rfl rfl rfl) (pmk_own PySem.F.excBase_ValueError T.x_NoSpace T.g_NoSpace T.k_NoSpace (raises_own T.b_NoSpace T.t_NoSpace) (by exact rfl))))
      pss_nil)
      (pss_one (ps_ret (pe_callB cr_sorted (by rfl) T.n_sorted (by decide +kernel) (pa_cons (pe_lc (own := [("_", 6), ("disk", 3)]) (g := (gTup K 3 (gCons (gName 6) (gCons (gName 6) (gCons (gName 3) gNil))))) (by rfl) sc_choose_disks.nd (pi_list (pe_slice sl_list (pv 2) po_none (po_some (pv 1)))) (blkOk_by (own := [("_", 6), ("disk", 3)]) (N := ["candidates", "width", "ranked", "disk", "present", "free", "_"]) (sc := defScope s_choose_disks) (by decide +kernel))
      (fun _ _ _ _ _ => (pg_tup rfl (pgs_cons (pg_name (i := 6) sc_choose_disks.nd rfl (Or.inl rfl)) (pgs_cons (pg_name (i := 6) sc_choose_disks.nd rfl (Or.inl rfl)) (pgs_cons (pg_name (i := 3) sc_choose_disks.nd rfl (Or.inl rfl)) pgs_nil))))) (fun _ _ _ _ _ => pts_nil) (fun _ _ _ _ _ => (pv 3))) pa_nil))))))), ?_⟩
    refine ⟨_, rfl, C, _, rfl, .inl hC.1, _, rfl, _, _, rfl, rfl, _, rfl, ite2 (fun b => kD (by have := of_decide_eq_true b; rw [List.length_map] at this; omega) _ (Same.refl _)) (fun b => ?_)⟩
    have nw : ¬ L.length < w := fun z => b (decide_eq_true (by rw [List.length_map]; omega))
    -- ranked = sorted([...])
    refine ⟨_, rfl, C, rfl, ⟨_, hC.1⟩, fun D nD => lc_list (K := K) (a := C) (xs := L.map cdV) (fun i H' => ∃ G : List (Addr × Cd), Same H H' ∧ H' D = some (.lst (G.map fun e => V.ref e.1)) ∧ G.map (·.2) = (L.take i).filter (fun e => decide (0 < e.f)) ∧ ∀ e ∈ G, H' e.1 = some (.tup [.bl (!e.2.b), .int (-e.2.f), .int e.2.d]))
      ⟨[], Same.new nD, upd_same, rfl, fun _ m => nomatch m⟩ (fun i H' _ ⟨_, s', _⟩ => s'.seq hC.1) ?_ ?_⟩
    · rintro i y H' hi ⟨G, s1, hD, eG, hG⟩
      obtain ⟨e, he, rfl⟩ := cd_item hi
      have me := List.mem_of_getElem? he
      refine ⟨e.t, _, rfl, SqT.of (s1 _ _ (hC.2 e me)), rfl, _, _, rfl, _, _, rfl, _, _, rfl, rfl, ?_⟩
      have fs := filter_snoc (fun e : Cd => decide (0 < e.f)) he
      have lG : G.length ≤ L.length := by
        have := congrArg List.length eG
        rw [List.length_map] at this
        rw [this]
        exact filter_len _ _ _
      refine ⟨rfl, _, rfl, _, _, rfl, rfl, _, rfl, ite2 (fun q => ?_) (fun q => ?_)⟩
      · have q := of_decide_eq_true q
        rw [decide_eq_true q] at fs
        refine ⟨_, rfl, _, rfl, _, rfl, _, rfl, _, rfl, (by show 3 ≤ sizeLine; decide), fun t nt => ?_⟩
        have st := Same.new (o := .tup [V.bl (!e.b), V.int (-e.f), V.int e.d]) nt
        have hD2 := st _ _ hD
        have hG2 : ∀ e' ∈ G, upd H' t (.tup [V.bl (!e.b), V.int (-e.f), V.int e.d]) e'.1 = some (.tup [.bl (!e'.2.b), .int (-e'.2.f), .int e'.2.d]) := fun e' m => st _ _ (hG e' m)
        have dt : upd H' t (.tup [V.bl (!e.b), V.int (-e.f), V.int e.d]) t = some (.tup [.bl (!e.b), .int (-e.f), .int e.d]) := upd_same
        have s2 := s1.trans st
        have ntD : t ≠ D := (ne_of_none hD nt).symm
        refine ⟨_, hD2, small _ (by rw [List.length_map]; omega), G ++ [(t, e)], same_put s2 nD, ?_, ?_, fun e' m => ?_⟩
        · rw [upd_same, List.map_append]
          rfl
        · rw [fs, List.map_append, eG]
          rfl
        · rcases List.mem_append.mp m with m | m
          · rw [upd_ne (ne_of (hG2 e' m) hD2 (by intro q; cases q))]
            exact hG2 e' m
          · have : e' = (t, e) := by simpa using m
            subst this
            rw [upd_ne ntD]
            exact dt
      · have q' : ¬ 0 < e.f := fun z => q (decide_eq_true z)
        rw [decide_eq_false q'] at fs
        refine ⟨G, s1, hD, ?_, hG⟩
        rw [fs, eG]
        simp
    rintro H1 ⟨G, s1, hD, eG, hG⟩
    rw [List.length_map, List.take_length] at eG
    replace eG : G.map (·.2) = usableM L := eG
    -- sorted
    have mU : ∀ e ∈ G, e.2 ∈ usableM L := fun e m => by rw [← eG]; exact List.mem_map.mpr ⟨e, m, rfl⟩
    have kG : ∀ e ∈ G, kH H1 (.ref e.1) = tripD e.2 := fun e m => kH_of (hG e m)
    have lG : G.length ≤ 20 := by
      have := congrArg List.length eG
      rw [List.length_map] at this
      have h2 : (usableM L).length ≤ L.length := List.length_filter_le _ _
      omega
    refine ⟨D, G.map fun e => V.ref e.1, kH H1, rfl, SqL.of hD, fun x m => ?_, fun x m y m' => ?_, .inl fun x m => ?_, fun x m => ?_, fun R nR => ?_⟩
    · obtain ⟨e, me, rfl⟩ := List.mem_map.mp m
      rw [kG e me]
      exact .tup (SqT.of (hG e me)) (.cons (.bl _) (.cons (.int _) (.cons (.int _) .nil)))
    · obtain ⟨x1, m1, rfl⟩ := List.mem_map.mp m
      obtain ⟨y1, m2, rfl⟩ := List.mem_map.mp m'
      obtain ⟨e, me, rfl⟩ := List.mem_map.mp m1
      obtain ⟨e', me', rfl⟩ := List.mem_map.mp m2
      rw [kG e me, kG e' me']
      exact trip_alike _ _
    · obtain ⟨y1, m1, rfl⟩ := List.mem_map.mp m
      obtain ⟨e, me, rfl⟩ := List.mem_map.mp m1
      rw [kG e me]
      exact ⟨_, _, rfl⟩
    · obtain ⟨e, me, rfl⟩ := List.mem_map.mp m
      rw [kG e me]
      simp [tripD, PyData.depth, PyData.depthAll]
    have eS : (G.map fun e => V.ref e.1).mergeSort (PySem.W.dataLe false (kH H1)) = (G.mergeSort fun x y => leM x.2 y.2).map fun e => V.ref e.1 := by
      refine (List.map_mergeSort fun x mx y my => ?_).symm
      rw [PySem.W.dataLe_eq]
      show leM x.2 y.2 = !PySem.W.dataLt (kH H1 (.ref y.1)) (kH H1 (.ref x.1))
      rw [kG x mx, kG y my, trip_lt]
      rfl
    rw [eS]
    have pS : (G.mergeSort fun x y => leM x.2 y.2).Perm G := List.mergeSort_perm _ _
    have oS : (G.mergeSort fun x y => leM x.2 y.2).Pairwise fun x y => leM x.2 y.2 = true := List.pairwise_mergeSort (fun a b c => leM_trans a.2 b.2 c.2) (fun a b => leM_total a.2 b.2) G
    generalize (G.mergeSort fun x y => leM x.2 y.2) = S at pS oS ⊢
    have lS : S.length = (usableM L).length := by rw [pS.length_eq, ← eG, List.length_map]
    have pS2 : (S.map (·.2)).Perm (usableM L) := by rw [← eG]; exact pS.map _
    have ndU : ((usableM L).map (·.d)).Nodup := List.Nodup.sublist (List.Sublist.map _ List.filter_sublist) nd
    have strict : (S.map (·.2)).Pairwise fun x y => beforeM x y = true := strict_of (List.pairwise_map.mpr oS) ((pS2.map _).nodup_iff.mpr ndU)
    have best := best_of (w := w) pS2 strict
    have sR := Same.new (o := .lst (S.map fun e => V.ref e.1)) nR
    have dR : upd H1 R (.lst (S.map fun e => V.ref e.1)) R = some (.lst (S.map fun e => V.ref e.1)) := upd_same
    have hS : ∀ e ∈ S, upd H1 R (.lst (S.map fun e => V.ref e.1)) e.1 = some (.tup [.bl (!e.2.b), .int (-e.2.f), .int e.2.d]) := fun e m => sR _ _ (hG e (pS.mem_iff.mp m))
    have s2 := s1.trans sR
    have nR0 := same_none s1 nR
    generalize upd H1 R (.lst (S.map fun e => V.ref e.1)) = H2 at dR hS s2 ⊢
    -- if len(ranked) < width
    refine ⟨_, rfl, R, _, rfl, .inl (SqL.of dR), _, rfl, _, _, rfl, rfl, _, rfl, ite2 (fun b => kS nw (by have := of_decide_eq_true b; rw [List.length_map] at this; omega) _ s2) (fun b => ?_)⟩
    have nu : ¬ (usableM L).length < w := fun z => b (decide_eq_true (by rw [List.length_map]; omega))
    -- sorted([disk for _, _, disk in ranked[:width]])
    refine ⟨_, rfl, _, rfl, _, rfl, R, _, rfl, SqL.of dR, fun T nT => ?_⟩
    rw [cut_take, ← List.map_take]
    have sT := Same.new (o := .lst ((S.take w).map fun e => V.ref e.1)) nT
    have dT : upd H2 T (.lst ((S.take w).map fun e => V.ref e.1)) T = some (.lst ((S.take w).map fun e => V.ref e.1)) := upd_same
    have hT : ∀ e ∈ S.take w, upd H2 T (.lst ((S.take w).map fun e => V.ref e.1)) e.1 = some (.tup [.bl (!e.2.b), .int (-e.2.f), .int e.2.d]) := fun e m => sT _ _ (hS e (List.mem_of_mem_take m))
    have s3 := s2.trans sT
    generalize upd H2 T (.lst ((S.take w).map fun e => V.ref e.1)) = H3 at dT hT s3 ⊢
    have lB : (S.take w).length ≤ 20 := by
      rw [List.length_take, lS, ← eG, List.length_map]
      omega
    rw [← List.map_take] at best
    generalize S.take w = B at dT hT best lB ⊢
    refine ⟨T, rfl, ⟨_, SqL.of dT⟩, fun N nN => lc_list (K := K) (a := T) (xs := B.map fun e => V.ref e.1) (fun i H' => Same H3 H' ∧ H' N = some (.lst (((B.take i).map fun e => e.2.d).map V.int))) ⟨Same.new nN, upd_same⟩ (fun i H' _ q => q.1.seq (SqL.of dT)) ?_ ?_⟩
    · rintro i y H' hi ⟨s4, hN⟩
      obtain ⟨e, he, rfl⟩ : ∃ e, B[i]? = some e ∧ y = V.ref e.1 := by
        rw [List.getElem?_map] at hi
        cases q : B[i]? with
        | none => rw [q] at hi; cases hi
        | some e => rw [q] at hi; exact ⟨e, rfl, (Option.some.inj hi).symm⟩
      have me := List.mem_of_getElem? he
      refine ⟨e.1, _, rfl, SqT.of (s4 _ _ (hT e me)), rfl, _, _, rfl, _, _, rfl, _, _, rfl, rfl, ?_⟩
      refine ⟨rfl, _, rfl, _, hN, small _ (by rw [List.length_map, List.length_map, List.length_take]; omega), same_put s4 nN, ?_⟩
      rw [upd_same, take_snoc he, List.map_append, List.map_append]
      rfl
    rintro H4 ⟨s4, hN⟩
    rw [List.take_of_length_le (by rw [List.length_map]; exact Nat.le_refl _)] at hN
    refine ⟨N, _, rfl, SqL.of hN, by rw [List.length_map]; omega, fun ns Z pm oz nZ => ?_⟩
    have s5 := (s3.trans s4).trans (Same.new (o := .lst (ns.map V.int)) nZ)
    rw [List.map_map] at best
    exact kQ nw nu Z ns _ s5 (same_none (s3.trans s4) nZ) upd_same (pm.trans best) oz
theorem sc_piece_size : FnScope ["length", "data"] ["length", "data"] (defScope s_piece_size) := ⟨rfl, rfl, rfl, by decide +kernel, rfl, by decide +kernel, by decide +kernel⟩
theorem ok_piece_size (T : Txt w K mg a) : FnOk P w K mg base CX0 1 a.f_piece_size a.d_piece_size ["length", "data"] (sp_piece_size K a) := by
  refine T.F_piece_size.ok sc_piece_size (fun vs H Q E h => ?len) (fun cdv A outer s H vs Q E hr h => ?body)
  case len =>
    exact sp_piece_size_len h
  case body =>
    exact h.2.elim
theorem sc_law_pot : FnScope ["script", "seed", "cell"] ["script"] (defScope s_law_pot) := ⟨rfl, rfl, rfl, by decide +kernel, rfl, by decide +kernel, by decide +kernel⟩
theorem ok_law_pot (T : Txt w K mg a) : FnOk P w K mg base CX0 1 a.f_law_pot a.d_law_pot ["script"] (sp_law_pot K a) := by
  refine T.F_law_pot.ok sc_law_pot (fun vs H Q E h => ?len) (fun cdv A outer s H vs Q E hr h => ?body)
  case len =>
    exact sp_law_pot_len h
  case body =>
    obtain ⟨s, ns, rfl, hS, hlen, k⟩ := h
    refine ⟨_, (pss_cons (ps_set (i := 1) sc_law_pot.nd rfl (Or.inl rfl) pe_int)
      (pss_cons (ps_for PassesOwn.never rfl (pi_list (pv 0)) (pg_name (i := 2) sc_law_pot.nd rfl (Or.inl rfl))
      (pss_one (ps_set (i := 1) sc_law_pot.nd rfl (Or.inl rfl) (pe_op op_mod (pe_callTy call_int1 (by rfl) T.n_int (by decide +kernel) (pa_cons (pe_op op_add (pe_op op_mul (pv 1) pe_int) (pv 2)) pa_nil)) pe_int))))
      (pss_one (ps_ret (pe_lst (pa_cons (pe_callTy call_list_of (by rfl) T.n_list (by decide +kernel) (pa_cons (pv 0) pa_nil)) (pa_cons pe_int (pa_cons pe_int (pa_cons (pv 1) pa_nil))))))))), ?_⟩
    refine ⟨_, rfl, s, rfl, ⟨_, hS⟩, for_list (K := K) (a := s) (xs := ns.map V.int) (fun i σ H' => ∃ (z : Int) (v : Option V), σ = [some (.ref s), some (.int z), v] ∧ 0 ≤ z ∧ z < 2147483647 ∧ H' = H)
      ⟨1, none, rfl, by decide, by decide, rfl⟩ (fun i σ H' _ ⟨_, _, _, _, _, e⟩ => by rw [e]; exact hS) ?_ ?_⟩
    · rintro i y σ H' hi ⟨z, v, rfl, z0, z1, rfl⟩
      obtain ⟨c, hc, rfl⟩ := int_item hi
      refine ⟨_, rfl, _, _, rfl, rfl, .inl ⟨by omega, by omega⟩, _, rfl, _, _, rfl, rfl, .inl ⟨_, rfl, _, _, rfl, rfl, (by show (0 : Int) < 2147483647; decide), ?_⟩⟩
      exact ⟨_, _, rfl, Int.emod_nonneg _ (by decide), Int.emod_lt_of_pos _ (by decide), rfl⟩
    · rintro σ H' ⟨z, v, rfl, z0, z1, rfl⟩
      refine ⟨_, rfl, s, _, rfl, .inl hS, fun l hl => ?_⟩
      refine ⟨_, rfl, (by show 4 ≤ sizeLine; decide), fun p hp => ?_⟩
      have npl : l ≠ p := fun e => by subst e; rw [upd_same] at hp; cases hp
      have hp0 : H' p = none := by rw [upd_ne npl.symm] at hp; exact hp
      refine k p l _ hp0 hl (fun b o e => ?_) ⟨ns, 0, 0, z, upd_same, by rw [upd_ne npl, upd_same], by decide, by decide, z0, z1⟩
      rw [upd_ne (ne_of_none e hp0), upd_ne (ne_of_none e hl)]
      exact e
theorem sc_law_next : FnScope ["pot", "limit", "cell", "found", "mixed"] ["pot", "limit"] (defScope s_law_next) := ⟨rfl, rfl, rfl, by decide +kernel, rfl, by decide +kernel, by decide +kernel⟩
theorem ok_law_next (T : Txt w K mg a) : FnOk P w K mg base CX0 1 a.f_law_next a.d_law_next ["pot", "limit"] (sp_law_next K a) := by
  refine T.F_law_next.ok sc_law_next (fun vs H Q E h => ?len) (fun cdv A outer s H vs Q E hr h => ?body)
  case len =>
    exact sp_law_next_len h
  case body =>
    obtain ⟨p, l, m, rfl, hP, m0, m1, k⟩ := h
    obtain ⟨ns, i, acc, seed, h1, h2, i0, acc0, s0, s1⟩ := id hP
    have nlp := hP.ne
    have mod0 : ∀ x : Int, 0 ≤ x % m := fun x => Int.emod_nonneg _ (by omega)
    have mod1 : ∀ x : Int, x % m < m := fun x => Int.emod_lt_of_pos _ m0
    have mW : m.natAbs < 2 ^ 41 := by
      have : m.natAbs < 2199023255552 := by omega
      exact this
    refine ⟨_, (Evl.pss_cut (ps_if (PW.pt (pw_and (pt_cmpR op_eq (pe_ix ix_list (pv 0) pe_int (fun _ _ => rfl)) pe_int (nomark _)) (pw_and1 (pt_cmpR op_lt (pe_ix ix_list (pv 0) pe_int (fun _ _ => rfl)) (pe_callB call_len_seq (by rfl) T.n_len PySem.boot_len (pa_cons (pe_ix ix_list (pv 0) pe_int (fun _ _ => rfl)) pa_nil)) (nomark _)))))
      (pss_cons (ps_set (i := 2) sc_law_next.nd rfl (Or.inl rfl) (pe_callB call_abs (by rfl) T.n_abs (by decide +kernel) (pa_cons (pe_callTy call_int1 (by rfl) T.n_int (by decide +kernel) (pa_cons (pe_ix ix_list (pe_ix ix_list (pv 0) pe_int (fun _ _ => rfl)) (pe_ix ix_list (pv 0) pe_int (fun _ _ => rfl)) (fun _ _ => rfl)) pa_nil)) pa_nil)))
      (pss_cons (ps_asg (pe_op op_add (pe_ix ix_list (pv 0) pe_int (fun _ _ => rfl)) pe_int) (pg_sub (pv 0) pe_int set_list))
      (pss_cons (ps_if (pt_cmpR op_lt (pv 2) (pe_op op_pow pe_int pe_int) (nomark _))
      (pss_one (ps_ret (pe_op op_mod (pe_callTy call_int1 (by rfl) T.n_int (by decide +kernel) (pa_cons (pv 2) pa_nil)) (pv 1))))
      pss_nil)
      (pss_one (ps_asg (pv 2) (pg_sub (pv 0) pe_int set_list))))))
      pss_nil)
      (pss_cons (ps_if (pt_cmpR op_gt (pe_ix ix_list (pv 0) pe_int (fun _ _ => rfl)) pe_int (nomark _))
      (pss_cons (ps_set (i := 3) sc_law_next.nd rfl (Or.inl rfl) (pe_op op_mod (pe_callTy call_int1 (by rfl) T.n_int (by decide +kernel) (pa_cons (pe_ix ix_list (pv 0) pe_int (fun _ _ => rfl)) pa_nil)) (pv 1)))
      (pss_cons (ps_asg (pe_op op_fdivW (pe_ix ix_list (pv 0) pe_int (fun _ _ => rfl)) (pv 1)) (pg_sub (pv 0) pe_int set_list))
      (pss_one (ps_ret (pv 3)))))
      pss_nil)
      (pss_cons (ps_asg (pe_op op_mod (pe_callTy call_int1 (by rfl) T.n_int (by decide +kernel) (pa_cons (pe_op op_add (pe_op op_mul (pe_ix ix_list (pv 0) pe_int (fun _ _ => rfl)) pe_int) pe_int) pa_nil)) pe_int) (pg_sub (pv 0) pe_int set_list))
      (pss_cons (ps_set (i := 4) sc_law_next.nd rfl (Or.inl rfl) (pe_op op_mod (pe_callTy call_int1 (by rfl) T.n_int (by decide +kernel) (pa_cons (pe_op op_add (pe_op op_mul (pe_ix ix_list (pv 0) pe_int (fun _ _ => rfl)) pe_int) (pe_op op_fdiv (pe_ix ix_list (pv 0) pe_int (fun _ _ => rfl)) pe_int)) pa_nil)) pe_int))
      (pss_one (ps_ret (pe_op op_mod (pe_callTy call_int1 (by rfl) T.n_int (by decide +kernel) (pa_cons (pv 4) pa_nil)) (pv 1)))))))), ?_⟩
    refine ⟨fun σ H' => ∃ (u : Option V) (i' acc' : Int), σ = [some (.ref p), some (.int m), u, none, none] ∧ H' p = some (.lst [.ref l, .int i', .int acc', .int seed]) ∧ 0 ≤ i' ∧ 0 ≤ acc' ∧ Only p H H', ?_, ?_⟩
    · -- if pot[2] == 0 and pot[1] < len(pot[0])
      refine ⟨_, rfl, p, _, _, _, rfl, rfl, SqL.of h1, at_of (j := 2) rfl rfl, rfl, _, rfl, ?_⟩
      refine ite2 (fun e2 => ?_) (fun e2 => iteF ⟨none, i, acc, rfl, h1, i0, acc0, Only.refl⟩)
      refine ⟨_, rfl, p, _, _, _, rfl, rfl, SqL.of h1, at_of (j := 1) rfl rfl, _, rfl, p, _, _, _, rfl, rfl, SqL.of h1, at_of (j := 0) rfl rfl, l, _, rfl, .inl (SqL.of h2), _, _, rfl, rfl, _, rfl, ?_⟩
      refine ite2 (fun e3 => ?_) (fun e3 => ⟨none, i, acc, rfl, h1, i0, acc0, Only.refl⟩)
      have i1 : i < (ns.length : Int) := by
        have := of_decide_eq_true e3
        rw [List.length_map] at this
        exact this
      obtain ⟨j, rfl⟩ : ∃ j : Nat, i = (j : Int) := ⟨i.toNat, by omega⟩
      have hj : j < ns.length := by omega
      have hit : (ns.map V.int)[j]? = some (V.int ns[j]) := by rw [List.getElem?_map, List.getElem?_eq_getElem hj]; rfl
      -- cell = abs(int(pot[0][pot[1]])); pot[1] = pot[1] + 1
      refine ⟨_, rfl, p, _, _, _, rfl, rfl, SqL.of h1, at_of (j := 0) rfl rfl, _, rfl, p, _, _, _, rfl, rfl, SqL.of h1, at_of (j := 1) rfl rfl, l, _, _, _, rfl, rfl, SqL.of h2, at_of (j := j) rfl hit, .inl ⟨_, rfl, _, rfl, ?_⟩⟩
      have abs0 : 0 ≤ (if ns[j] < 0 then -ns[j] else ns[j]) := by split <;> omega
      generalize (if ns[j] < 0 then -ns[j] else ns[j]) = c at abs0 ⊢
      refine ⟨_, rfl, p, _, _, _, rfl, rfl, SqL.of h1, at_of (j := 1) rfl rfl, _, _, rfl, rfl, _, rfl, p, _, _, 1, rfl, rfl, h1, rfl, ?_⟩
      have g1 : upd H p (.lst (List.set [V.ref l, V.int (j : Int), V.int acc, V.int seed] 1 (V.int ((j : Int) + 1)))) p = some (.lst [.ref l, .int ((j : Int) + 1), .int acc, .int seed]) := upd_same
      -- if cell < 10 ** 18: return int(cell) % limit
      refine ⟨_, rfl, _, _, rfl, rfl, ⟨by decide, by decide, by decide⟩, _, _, rfl, rfl, _, rfl, ?_⟩
      refine ite2 (fun e4 => ?_) (fun e4 => ?_)
      · refine ⟨_, rfl, .inl ⟨_, rfl, _, rfl, _, _, rfl, rfl, m0, ?_⟩⟩
        exact k _ _ (mod0 _) (mod1 _) ⟨ns, _, _, _, g1, by rw [upd_ne nlp]; exact h2, by omega, acc0, s0, s1⟩ Only.upd
      · -- pot[2] = cell
        refine ⟨_, rfl, _, rfl, p, _, _, 2, rfl, rfl, g1, rfl, ?_⟩
        exact ⟨_, (j : Int) + 1, c, rfl, upd_same, by omega, abs0, Only.upd.trans Only.upd⟩
    · rintro σ H' ⟨u, i', acc', rfl, g1, i0', acc0', oH⟩
      have g2 : H' l = some (.lst (ns.map V.int)) := by rw [oH _ nlp]; exact h2
      -- if pot[2] > 0
      refine ⟨_, rfl, p, _, _, _, rfl, rfl, SqL.of g1, at_of (j := 2) rfl rfl, _, _, rfl, rfl, _, rfl, ?_⟩
      refine ite2 (fun e2 => ?_) (fun e2 => ?_)
      · refine ⟨_, rfl, p, _, _, _, rfl, rfl, SqL.of g1, at_of (j := 2) rfl rfl, .inl ⟨_, rfl, _, rfl, _, _, rfl, rfl, m0, ?_⟩⟩
        refine ⟨_, rfl, p, _, _, _, rfl, rfl, SqL.of g1, at_of (j := 2) rfl rfl, _, rfl, _, _, rfl, rfl, wide_div m0 mW (by decide) (by decide), _, rfl, p, _, _, 2, rfl, rfl, g1, rfl, ?_⟩
        refine ⟨_, rfl, ?_⟩
        exact k _ _ (mod0 _) (mod1 _) ⟨ns, i', acc' / m, seed, upd_same, by rw [upd_ne nlp]; exact g2, i0', Int.ediv_nonneg acc0' (by omega), s0, s1⟩ (oH.trans Only.upd)
      · -- pot[3] = int(pot[3] * 48271 + 12345) % 2147483647
        refine ⟨_, rfl, p, _, _, _, rfl, rfl, SqL.of g1, at_of (j := 3) rfl rfl, _, _, rfl, rfl, .inl ⟨by omega, by omega⟩, _, _, rfl, rfl, .inl ⟨_, rfl, _, _, rfl, rfl, (by show (0 : Int) < 2147483647; decide), ?_⟩⟩
        have t0 := Int.emod_nonneg (seed * 48271 + 12345) (show (2147483647 : Int) ≠ 0 by decide)
        have t1 := Int.emod_lt_of_pos (seed * 48271 + 12345) (show (0 : Int) < 2147483647 by decide)
        refine ⟨_, rfl, p, _, _, 3, rfl, rfl, g1, rfl, ?_⟩
        have g3 : upd H' p (.lst (List.set [V.ref l, V.int i', V.int acc', V.int seed] 3 (V.int ((seed * 48271 + 12345) % 2147483647)))) p = some (.lst [.ref l, .int i', .int acc', .int ((seed * 48271 + 12345) % 2147483647)]) := upd_same
        refine ⟨_, rfl, p, _, _, _, rfl, rfl, SqL.of g3, at_of (j := 3) rfl rfl, _, _, rfl, rfl, .inl ⟨by omega, by omega⟩, _, rfl, p, _, _, _, rfl, rfl, SqL.of g3, at_of (j := 3) rfl rfl, _, _, rfl, rfl, ⟨by decide, by decide⟩, _, _, rfl, rfl, .inl ⟨_, rfl, _, _, rfl, rfl, (by show (0 : Int) < 2147483629; decide), ?_⟩⟩
        refine ⟨_, rfl, .inl ⟨_, rfl, _, rfl, _, _, rfl, rfl, m0, ?_⟩⟩
        exact k _ _ (mod0 _) (mod1 _) ⟨ns, _, _, _, g3, by rw [upd_ne nlp]; exact g2, i0', acc0', t0, t1⟩ (oH.trans Only.upd)
theorem sc_law_is_int : FnScope ["value"] ["value"] (defScope s_law_is_int) := ⟨rfl, rfl, rfl, by decide +kernel, rfl, by decide +kernel, by decide +kernel⟩
theorem ok_law_is_int (T : Txt w K mg a) : FnOk P w K mg base CX0 1 a.f_law_is_int a.d_law_is_int ["value"] (sp_law_is_int K a) := by
  refine T.F_law_is_int.ok sc_law_is_int (fun vs H Q E h => ?len) (fun cdv A outer s H vs Q E hr h => ?body)
  case len =>
    exact sp_law_is_int_len h
  case body =>
    obtain ⟨x, rfl, k⟩ := h
    refine ⟨_, (pss_one (ps_ret (pe_and (pe_callB call_isi (by rfl) T.n_isinstance (by decide +kernel) (pa_cons (pv 0) (pa_cons (pe_bltn (v := .ty "int") (by rfl) T.n_int (by decide +kernel) rfl) pa_nil))) (pe_one (pe_not (pe_callB call_isi (by rfl) T.n_isinstance (by decide +kernel) (pa_cons (pv 0) (pa_cons (pe_bltn (v := .ty "bool") (by rfl) T.n_bool (by decide +kernel) rfl) pa_nil)))))))), ?_⟩
    refine ⟨_, rfl, _, _, _, _, true, rfl, .ty "int", .base (.int x), kit_ty (by decide +kernel), _, rfl, ?_⟩
    refine iteT ?_
    exact ⟨_, rfl, _, _, _, _, false, rfl, .ty "bool", .base (.int x), kit_ty (by decide +kernel), _, rfl, k⟩
theorem sc_Space_init : FnScope ["self", "rows", "first"] ["self", "rows", "first"] (defScope s_Space_init) := ⟨rfl, rfl, rfl, by decide +kernel, rfl, by decide +kernel, by decide +kernel⟩
theorem ok_Space_init (T : Txt w K mg a) : FnOk P w K mg base CX0 1 a.f_Space_init a.d_Space_init ["self", "rows", "first"] (sp_Space_init K a) := by
  refine T.F_Space_init.ok sc_Space_init (fun vs H Q E h => ?len) (fun cdv A outer s H vs Q E hr h => ?body)
  case len =>
    exact sp_Space_init_len h
  case body =>
    obtain ⟨p, dx, first, rows, rfl, hp, hfr, k⟩ := h
    refine ⟨_, (pss_cons (ps_fld (pv 0) (pv 1) rfl)
      (pss_cons (ps_fld (pv 0) (pv 2) rfl)
      (pss_cons (ps_fld (pv 0) pe_dnewK rfl)
      (pss_one (ps_fld (pv 0) (pv 2) rfl))))), ?_⟩
    refine ⟨_, rfl, _, rfl, p, _, dx, _, rfl, hp, T.cl_Space, T.na_Space_rows, (by show 0 < 1000; decide), ?_⟩
    refine ⟨_, rfl, _, rfl, p, _, dx, _, rfl, upd_same, T.cl_Space, T.na_Space_first, (by show 1 < 1000; decide), ?_⟩
    intro d hd
    have npd : p ≠ d := ne_of_none (upd_same) hd
    have hd0 : H d = none := by rw [upd_ne npd.symm, upd_ne npd.symm] at hd; exact hd
    refine ⟨_, rfl, p, _, dx, _, rfl, (by rw [upd_ne npd]; exact upd_same), T.cl_Space, T.na_Space_states, (by show 2 < 1000; decide), ?_⟩
    refine ⟨_, rfl, _, rfl, p, _, dx, _, rfl, upd_same, T.cl_Space, T.na_Space_lowest, (by show 3 < 1000; decide), ?_⟩
    refine k d _ hd0 ⟨dx, first, [], ?_, ?_, ⟨List.nodup_nil, fun _ => rfl, fun _ m => nomatch m⟩, Int.le_refl _, fun r a1 a2 => by omega, by omega⟩ fun b o e nb => ?_
    · rw [upd_same]
      exact congrArg (fun l => some (HO.ins a.c_Space dx l)) (flds_init (rows : Int) (first : Int) d)
    · rw [upd_ne npd.symm, upd_ne npd.symm, upd_same]
      rfl
    · rw [upd_ne nb, upd_ne nb, upd_ne (ne_of_none e hd0), upd_ne nb, upd_ne nb]
      exact e
theorem sc_Space_take : FnScope ["self", "row"] ["self"] (defScope s_Space_take) := ⟨rfl, rfl, rfl, by decide +kernel, rfl, by decide +kernel, by decide +kernel⟩
theorem ok_Space_take (T : Txt w K mg a) : FnOk P w K mg base (L2.CX P w) 1 a.f_Space_take a.d_Space_take ["self"] (sp_Space_take K a) := by
  refine T.F_Space_take.okX sc_Space_take (fun vs H Q E h => ?len) (fun cdv A outer s H vs Q E hr h => ?body)
  case len =>
    exact sp_Space_take_len h
  case body =>
    obtain ⟨p, d, first, rows, φ, rfl, hs, hr1, kE, kQ⟩ := h
    obtain ⟨dx, low, M, h1, h2, ok, l1, l2, l3⟩ := hs
    have npd : p ≠ d := ne_of h1 h2 (by intro z; cases z)
    refine ⟨_, (pss_cons (ps_set (i := 1) sc_Space_take.nd rfl (Or.inl rfl) (pe_fld (pv 0) rfl))
      (pss_cons (ps_while (passes_of rfl) (pt_cmp (pc_din (hu_of hr) (pv 1) (pe_fld (pv 0) rfl)))
      (pss_one (ps_aug (i := 1) sc_Space_take.nd rfl (Or.inl rfl) pe_int ip_add)))
      (pss_cons (ps_if (pt_cmpR op_ge (pv 1) (pe_fld (pv 0) rfl) (nomark _))
      (pss_one (ps_raise rfl (takes_of rfl rfl rfl rfl) (pmk_own PySem.F.excBase_ValueError T.x_NoSpace T.g_NoSpace T.k_NoSpace (raises_own T.b_NoSpace T.t_NoSpace) (by exact rfl))))
      pss_nil)
      (pss_cons (ps_dput (hu_of hr) (pe_fld (pv 0) rfl) (pv 1) (pe_const T.g_NEW) rfl)
      (pss_cons (ps_fld (pv 0) (pe_op op_add (pv 1) pe_int) rfl)
      (pss_one (ps_ret (pv 1)))))))), ?_⟩
    refine ⟨_, rfl, p, _, dx, _, _, rfl, h1, T.cl_Space, T.na_Space_lowest, flds_lowest _ _ _ _, ?_⟩
    -- while row in self._states
    refine ⟨fun n σ H' => ∃ row : Int, σ = [some (.ref p), some (.int row)] ∧ n = ((rows : Int) + 2 - row).toNat ∧ low ≤ row ∧ row ≤ rows + 1 ∧ (∀ r, (first : Int) ≤ r → r < row → φ r ≠ 0) ∧ H' = H, ⟨_, low, rfl, rfl, Int.le_refl _, l3, l2, rfl⟩, ?_⟩
    rintro n σ H' ⟨row, rfl, rfl, a1, a2, a3, rfl⟩
    refine ⟨_, rfl, _, rfl, p, _, dx, _, _, rfl, h1, T.cl_Space, T.na_Space_states, flds_states _ _ _ _, d, _, rfl, DGet.k (k := Sum.inl row) h2, _, rfl, ?_⟩
    rw [ok.val]
    by_cases e : φ row = 0
    · rw [if_pos e]
      refine iteF ?_
      refine ⟨_, rfl, _, rfl, p, _, dx, _, _, rfl, h1, T.cl_Space, T.na_Space_rows, flds_rows _ _ _ _, _, _, rfl, rfl, _, rfl, ite2 (fun b => kE (fun r hr => a3 r hr.1 (by have := of_decide_eq_true b; have := hr.2; omega)) _ (Same.refl _)) (fun b => ?_)⟩
      have b' : row < rows := Int.not_le.mp fun z => b (decide_eq_true z)
      have vn : valV (kvM M) (Sum.inl row) = none := by rw [ok.val, if_pos e]
      have lM : M.length ≤ rows := by rw [ok.len]; exact Nat.le_trans (pick_le _ _ _ _) (Nat.sub_le _ _)
      refine ⟨_, rfl, p, _, dx, _, _, rfl, h1, T.cl_Space, T.na_Space_states, flds_states _ _ _ _, _, rfl, d, _, rfl, DPut.k (k := Sum.inl row) h2 (small _ (by simp [kvM]; omega)), ?_⟩
      rw [kv_new vn]
      refine ⟨_, rfl, _, _, rfl, rfl, _, rfl, p, _, dx, _, rfl, by rw [upd_ne npd]; exact h1, T.cl_Space, T.na_Space_lowest, (by show 4 < 1000; decide), ?_⟩
      refine ⟨_, rfl, kQ row ⟨by omega, b'⟩ e a3 _ ⟨dx, row + 1, M ++ [(row, 1)], ?_, ?_, ok.put e ⟨by omega, b'⟩ ⟨by decide, by decide⟩, by omega, fun r r1 r2 => ?_, by omega⟩ fun b o eb n1 n2 => ?_⟩
      · rw [upd_same]
        exact congrArg (fun l => some (HO.ins a.c_Space dx l)) (flds_low (rows : Int) (first : Int) d low (row + 1))
      · rw [upd_ne npd.symm, upd_same]
      · unfold upF
        split
        · decide
        · exact a3 r r1 (by omega)
      · rw [upd_ne n1, upd_ne n2]
        exact eb
    · rw [if_neg e]
      refine iteT ?_
      have rg := (ok.range e).1
      refine ⟨fun σ' H'' => ∃ m', m' < ((rows : Int) + 2 - row).toNat ∧ _, fun _ _ q => q, ?_⟩
      refine ⟨_, rfl, _, _, rfl, rfl, _, ?_, row + 1, rfl, rfl, by omega, by omega, fun r r1 r2 => ?_, rfl⟩
      · omega
      · by_cases z : r = row
        · rw [z]
          exact e
        · exact a3 r r1 (by omega)
theorem sc_Space_free_count : FnScope ["self"] ["self"] (defScope s_Space_free_count) := ⟨rfl, rfl, rfl, by decide +kernel, rfl, by decide +kernel, by decide +kernel⟩
theorem ok_Space_free_count (T : Txt w K mg a) : FnOk P w K mg base CX0 1 a.f_Space_free_count a.d_Space_free_count ["self"] (sp_Space_free_count K a) := by
  refine T.F_Space_free_count.ok sc_Space_free_count (fun vs H Q E h => ?len) (fun cdv A outer s H vs Q E hr h => ?body)
  case len =>
    exact sp_Space_free_count_len h
  case body =>
    obtain ⟨p, d, first, rows, φ, rfl, hs, k⟩ := h
    obtain ⟨dx, low, M, h1, h2, ok, l1, l2, l3⟩ := id hs
    refine ⟨_, (pss_one (ps_ret (pe_op op_sub (pe_op op_sub (pe_fld (pv 0) rfl) (pe_fld (pv 0) rfl)) (pe_callB call_lenD (by rfl) T.n_len PySem.boot_len (pa_cons (pe_fld (pv 0) rfl) pa_nil))))), ?_⟩
    refine ⟨_, rfl, p, _, dx, _, _, rfl, h1, T.cl_Space, T.na_Space_rows, flds_rows _ _ _ _, _, rfl, p, _, dx, _, _, rfl, h1, T.cl_Space, T.na_Space_first, flds_first _ _ _ _, _, _, rfl, rfl, _, rfl, p, _, dx, _, _, rfl, h1, T.cl_Space, T.na_Space_states, flds_states _ _ _ _, d, _, rfl, h2, _, _, rfl, rfl, ?_⟩
    have e : ((kvM M).length : Int) = ((pickL first rows φ fun s => decide (s ≠ 0)).length : Nat) := by rw [← ok.len]; simp [kvM]
    show Q (.int ((rows : Int) - first - ((kvM M).length : Int))) H
    rw [e]
    exact k
theorem sc_Store_look : FnScope ["self", "images"] ["self", "images"] (defScope s_Store_look) := ⟨rfl, rfl, rfl, by decide +kernel, rfl, by decide +kernel, by decide +kernel⟩
theorem ok_Store_look (T : Txt w K mg a) : FnOk P w K mg base CX0 1 a.f_Store_look a.d_Store_look ["self", "images"] (sp_Store_look K a) := by
  refine T.F_Store_look.ok sc_Store_look (fun vs H Q E h => ?len) (fun cdv A outer s H vs Q E hr h => ?body)
  case len =>
    exact sp_Store_look_len h
  case body =>
    obtain ⟨S, I, m, rfl, h, k⟩ := h
    refine ⟨_, (pss_one (ps_fld (pv 0) (pv 1) rfl)), ?_⟩
    refine ⟨_, rfl, _, rfl, S, _, m.dx, _, rfl, h.hS, T.cl_Store, T.na_Store_images, (by show 10 < 1000; decide), ?_⟩
    have e : HO.ins a.c_Store m.dx (putF "_images" (.ref I) (sflds m)) = HO.ins a.c_Store m.dx (sflds { m with I := I }) := congrArg _ (sf_set_images m I)
    show Q .non (upd H S (HO.ins a.c_Store m.dx (putF "_images" (.ref I) (sflds m))))
    rw [e]
    have ne : ∀ {b o}, H b = some o → o ≠ .ins a.c_Store m.dx (sflds m) → b ≠ S := fun h1 n => ne_of h1 h.hS n
    refine k _ ⟨upd_same, ?_, ?_, fun d md => ?_, h.su, ?_, ?_, h.bm, fun b mb => ?_, h.nd, h.m0, h.ser, h.un, h.row, h.dis, h.asc⟩ fun b o e n => by rw [upd_ne n]; exact e
    · show upd H S _ m.mL = _
      rw [upd_ne (ne h.hm (by intro z; cases z))]
      exact h.hm
    · show upd H S _ m.spd = _
      rw [upd_ne (ne h.hs (by intro z; cases z))]
      exact h.hs
    · exact (h.sp d md).keep (fun o e => by
        obtain ⟨_, _, _, e1, _⟩ := h.sp d md
        show upd H S _ (m.sp d).1 = _
        rw [upd_ne (ne e1 fun z => ?_)]
        · exact e
        · injection z with _ _ z
          exact absurd (congrArg List.length z) (by show ¬ (4 = 10); decide)) fun o e => by
        obtain ⟨_, _, _, _, e1, _⟩ := h.sp d md
        show upd H S _ (m.sp d).2 = _
        rw [upd_ne (ne e1 (by intro z; cases z))]
        exact e
    · show upd H S _ m.bD = _
      rw [upd_ne (ne h.hb (by intro z; cases z))]
      exact h.hb
    · show upd H S _ m.mD = _
      rw [upd_ne (ne h.hM (by intro z; cases z))]
      exact h.hM
    · have hb := h.blk b mb
      exact ⟨by rw [upd_ne (ne hb.t (by intro z; cases z))]; exact hb.t, by rw [upd_ne (ne hb.pt (by intro z; cases z))]; exact hb.pt, fun e me => by rw [upd_ne (ne (hb.q e me) (by intro z; cases z))]; exact hb.q e me, by rw [upd_ne (ne hb.w (by intro z; cases z))]; exact hb.w⟩
theorem sc_sector_at : FnScope ["images", "disk", "row"] ["images", "disk", "row"] (defScope s_sector_at) := ⟨rfl, rfl, rfl, by decide +kernel, rfl, by decide +kernel, by decide +kernel⟩
theorem ok_sector_at (T : Txt w K mg a) : FnOk P w K mg base CX0 2 a.f_sector_at a.d_sector_at ["images", "disk", "row"] (sp_sector_at K a) := by
  refine T.F_sector_at.ok sc_sector_at (fun vs H Q E h => ?len) (fun cdv A outer s H vs Q E hr h => ?body)
  case len =>
    exact sp_sector_at_len h
  case body =>
    exact h.2.elim
theorem sc_weight : FnScope ["place", "others", "x", "above", "below", "other"] ["place", "others", "x"] (defScope s_weight) := ⟨rfl, rfl, rfl, by decide +kernel, rfl, by decide +kernel, by decide +kernel⟩
theorem ok_weight (T : Txt w K mg a) : FnOk P w K mg base CX0 2 a.f_weight a.d_weight ["place", "others", "x"] (sp_weight K a) := by
  refine T.F_weight.ok sc_weight (fun vs H Q E h => ?len) (fun cdv A outer s H vs Q E hr h => ?body)
  case len =>
    exact sp_weight_len h
  case body =>
    exact h.2.elim
theorem sc_present_numbers : FnScope ["pieces", "data", "present", "number", "piece"] ["pieces", "data"] (defScope s_present_numbers) := ⟨rfl, rfl, rfl, by decide +kernel, rfl, by decide +kernel, by decide +kernel⟩
theorem ok_present_numbers (T : Txt w K mg a) : FnOk P w K mg base CX0 2 a.f_present_numbers a.d_present_numbers ["pieces", "data"] (sp_present_numbers K a) := by
  refine T.F_present_numbers.ok sc_present_numbers (fun vs H Q E h => ?len) (fun cdv A outer s H vs Q E hr h => ?body)
  case len =>
    exact sp_present_numbers_len h
  case body =>
    exact h.2.elim
theorem sc_is_whole : FnScope ["sector"] ["sector"] (defScope s_is_whole) := ⟨rfl, rfl, rfl, by decide +kernel, rfl, by decide +kernel, by decide +kernel⟩
theorem ok_is_whole (T : Txt w K mg a) : FnOk P w K mg base CX0 2 a.f_is_whole a.d_is_whole ["sector"] (sp_is_whole K a) := by
  refine T.F_is_whole.ok sc_is_whole (fun vs H Q E h => ?len) (fun cdv A outer s H vs Q E hr h => ?body)
  case len =>
    exact sp_is_whole_len h
  case body =>
    exact h.2.elim
theorem sc_law_word : FnScope ["pot", "kind"] ["pot"] (defScope s_law_word) := ⟨rfl, rfl, rfl, by decide +kernel, rfl, by decide +kernel, by decide +kernel⟩
theorem ok_law_word (T : Txt w K mg a) : FnOk P w K mg base CX0 2 a.f_law_word a.d_law_word ["pot"] (sp_law_word K a) := by
  refine T.F_law_word.ok sc_law_word (fun vs H Q E h => ?len) (fun cdv A outer s H vs Q E hr h => ?body)
  case len =>
    exact sp_law_word_len h
  case body =>
    obtain ⟨p, l, rfl, hP, k⟩ := h
    refine ⟨_, (pss_cons (ps_set (i := 1) sc_law_word.nd rfl (Or.inl rfl) (pe_call (ok_law_next T) (hr.mono (by decide)) rfl T.g_law_next T.F_law_next.kp T.d_law_next .nil pass0 (pa_cons (pv 0) (pa_cons pe_int pa_nil))))
      (pss_cons (ps_if (pt_cmpR op_eq (pv 1) pe_int (nomark _))
      (pss_one (ps_ret pe_int))
      pss_nil)
      (pss_cons (ps_if (pt_cmpR op_eq (pv 1) pe_int (nomark _))
      (pss_one (ps_ret (pe_op op_sub pe_int (pe_call (ok_law_next T) (hr.mono (by decide)) rfl T.g_law_next T.F_law_next.kp T.d_law_next .nil pass0 (pa_cons (pv 0) (pa_cons pe_int pa_nil))))))
      pss_nil)
      (pss_cons (ps_if (pt_cmpR op_lt (pv 1) pe_int (nomark _))
      (pss_one (ps_ret (pe_call (ok_law_next T) (hr.mono (by decide)) rfl T.g_law_next T.F_law_next.kp T.d_law_next .nil pass0 (pa_cons (pv 0) (pa_cons pe_int pa_nil)))))
      pss_nil)
      (pss_one (ps_ret (pe_call (ok_law_next T) (hr.mono (by decide)) rfl T.g_law_next T.F_law_next.kp T.d_law_next .nil pass0 (pa_cons (pv 0) (pa_cons pe_int pa_nil))))))))), ?_⟩
    refine ⟨_, rfl, p, l, 8, rfl, hP, by decide, by decide, fun c H1 c0 c1 P1 o1 => ?_⟩
    refine ⟨_, rfl, rfl, _, rfl, ?_⟩
    refine ite2 (fun _ => k _ _ ⟨by decide, by decide⟩ P1 o1) (fun _ => ?_)
    refine ⟨_, rfl, rfl, _, rfl, ?_⟩
    refine ite2 (fun _ => ?_) (fun _ => ?_)
    · exact ⟨_, rfl, p, l, 3, rfl, P1, by decide, by decide, fun v H2 v0 v1 P2 o2 => ⟨_, _, rfl, rfl, k _ _ ⟨by omega, by omega⟩ P2 (o1.trans o2)⟩⟩
    · refine ⟨_, rfl, _, _, rfl, rfl, _, rfl, ?_⟩
      refine ite2 (fun _ => ?_) (fun _ => ?_)
      · exact ⟨_, rfl, p, l, 9, rfl, P1, by decide, by decide, fun v H2 v0 v1 P2 o2 => k _ _ ⟨by omega, by omega⟩ P2 (o1.trans o2)⟩
      · exact ⟨_, rfl, p, l, 65521, rfl, P1, by decide, by decide, fun v H2 v0 v1 P2 o2 => k _ _ ⟨by omega, by omega⟩ P2 (o1.trans o2)⟩
theorem sc_law_is_pointer : FnScope ["pointer", "epoch", "serial", "length", "members", "count", "rows", "last", "place", "k"] ["pointer", "epoch", "serial", "length", "members", "count", "rows"] (defScope s_law_is_pointer) := ⟨rfl, rfl, rfl, by decide +kernel, rfl, by decide +kernel, by decide +kernel⟩
theorem ok_law_is_pointer (T : Txt w K mg a) : FnOk P w K mg base CX0 2 a.f_law_is_pointer a.d_law_is_pointer ["pointer", "epoch", "serial", "length", "members", "count", "rows"] (sp_law_is_pointer K a) := by
  refine T.F_law_is_pointer.ok sc_law_is_pointer (fun vs H Q E h => ?len) (fun cdv A outer s H vs Q E hr h => ?body)
  case len =>
    exact sp_law_is_pointer_len h
  case body =>
    obtain ⟨b, ep, ML, ms, n, rows, rfl, hb, hM, ln, n8, asc, hL, k⟩ := h
    refine ⟨_, (pss_cons (ps_if (PW.pt (pw_or (pt_not (pt_val (pe_callB call_isi (by rfl) T.n_isinstance (by decide +kernel) (pa_cons (pv 0) (pa_cons (pe_bltn (v := .ty "tuple") (by rfl) T.n_tuple (by decide +kernel) rfl) pa_nil))))) (pw_or (pt_cmpR op_ne (pe_callB call_len_seq (by rfl) T.n_len PySem.boot_len (pa_cons (pv 0) pa_nil)) pe_int (nomark _)) (pw_or1 (pt_not (pt_val (pe_callB (cr_all rfl) (by rfl) T.n_all (by decide +kernel) (pa_cons (pe_lc (own := [("k", 9)]) (g := (gName 9)) (by rfl) sc_law_is_pointer.nd (pi_range1 (by rfl) T.n_range (pa_cons pe_int pa_nil)) (blkOk_by (own := [("k", 9)]) (N := ["pointer", "epoch", "serial", "length", "members", "count", "rows", "last", "place", "k"]) (sc := defScope s_law_is_pointer) (by decide +kernel))
      (fun _ _ _ _ _ => (pg_name (i := 9) sc_law_is_pointer.nd rfl (Or.inl rfl))) (fun _ _ _ _ _ => pts_nil) (fun _ _ _ _ _ => (pe_call (ok_law_is_int T) (hr.mono (by decide)) rfl T.g_law_is_int T.F_law_is_int.kp T.d_law_is_int .nil pass0 (pa_cons (pe_ix (by exact ix_tup : IxR _ (rIxT K)) (pv 0) (pv 9) (fun _ _ => rfl)) pa_nil)))) pa_nil))))))))
      (pss_one (ps_ret pe_bl))
      pss_nil)
      (pss_cons (ps_if (PW.pt (pw_or (pt_cmpR (op_neD hr.units) (pe_slice sl_tup (pv 0) po_none (po_some pe_int)) (pe_tup (pa_cons (pv 1) (pa_cons (pv 2) (pa_cons (pv 3) pa_nil)))) (nomark _)) (pw_or (pt_not (pt_val (pe_callB call_isi (by rfl) T.n_isinstance (by decide +kernel) (pa_cons (pe_ix ix_tup (pv 0) pe_int (fun _ _ => rfl)) (pa_cons (pe_bltn (v := .ty "tuple") (by rfl) T.n_tuple (by decide +kernel) rfl) pa_nil))))) (pw_or1 (pt_cmpR op_ne (pe_callB call_len_seq (by rfl) T.n_len PySem.boot_len (pa_cons (pe_ix ix_tup (pv 0) pe_int (fun _ _ => rfl)) pa_nil)) (pv 5) (nomark _))))))
      (pss_one (ps_ret pe_bl))
      pss_nil)
      (pss_cons (ps_set (i := 7) sc_law_is_pointer.nd rfl (Or.inl rfl) (pe_un un_neg pe_int))
      (pss_cons (ps_for PassesOwn.never rfl (pi_tup (pe_ix ix_tup (pv 0) pe_int (fun _ _ => rfl))) (pg_name (i := 8) sc_law_is_pointer.nd rfl (Or.inl rfl))
      (pss_cons (ps_if (PW.pt (pw_or (pt_not (pt_val (pe_callB call_isi (by rfl) T.n_isinstance (by decide +kernel) (pa_cons (pv 8) (pa_cons (pe_bltn (v := .ty "tuple") (by rfl) T.n_tuple (by decide +kernel) rfl) pa_nil))))) (pw_or (pt_cmpR op_ne (pe_callB call_len_seq (by rfl) T.n_len PySem.boot_len (pa_cons (pv 8) pa_nil)) pe_int (nomark _)) (pw_or (pt_not (pt_val (pe_call (ok_law_is_int T) (hr.mono (by decide)) rfl T.g_law_is_int T.F_law_is_int.kp T.d_law_is_int .nil pass0 (pa_cons (pe_ix ix_tup (pv 8) pe_int (fun _ _ => rfl)) pa_nil)))) (pw_or1 (pt_not (pt_val (pe_call (ok_law_is_int T) (hr.mono (by decide)) rfl T.g_law_is_int T.F_law_is_int.kp T.d_law_is_int .nil pass0 (pa_cons (pe_ix ix_tup (pv 8) pe_int (fun _ _ => rfl)) pa_nil)))))))))
      (pss_one (ps_ret pe_bl))
      pss_nil)
      (pss_cons (ps_if (PW.pt (pw_or (pt_cmpR op_le (pe_ix ix_tup (pv 8) pe_int (fun _ _ => rfl)) (pv 7) (nomark _)) (pw_or (pt_cmpR op_notIn_seq (pe_ix ix_tup (pv 8) pe_int (fun _ _ => rfl)) (pv 4) (by rfl)) (pw_or1 (pt_not (pt_chain op_le op_lt pe_int (pe_ix ix_tup (pv 8) pe_int (fun _ _ => rfl)) (pv 6)))))))
      (pss_one (ps_ret pe_bl))
      pss_nil)
      (pss_one (ps_set (i := 7) sc_law_is_pointer.nd rfl (Or.inl rfl) (pe_ix ix_tup (pv 8) pe_int (fun _ _ => rfl)))))))
      (pss_one (ps_ret pe_bl)))))), ?_⟩
    refine ⟨_, rfl, _, _, _, _, true, rfl, .ty "tuple", .base (.tup hb.t), kit_ty (by decide +kernel), true, rfl, iteF ?_⟩
    refine ⟨_, rfl, b.T, _, rfl, .inr (SqT.of hb.t), rfl, _, rfl, iteF ?_⟩
    refine ⟨3, rfl, by decide, by decide, fun Al nAl => ?_⟩
    refine lc_it walk_range (n := 3) (fun i H' => Same H H' ∧ H' Al = some (.lst ((List.replicate i true).map V.bl))) ⟨Same.new nAl, upd_same⟩ (fun _ _ _ _ => True.intro) ?_ ?_
    · rintro i y H1 H2 hi ⟨s1, d1⟩ ⟨rfl, rfl⟩
      obtain ⟨x, hx⟩ : ∃ x : Int, [V.int ep, .int (b.s : Int), .int (b.ws.length : Int), .ref b.PT][i]? = some (.int x) := match i, hi with
        | 0, _ => ⟨_, rfl⟩
        | 1, _ => ⟨_, rfl⟩
        | 2, _ => ⟨_, rfl⟩
      refine ⟨rfl, _, rfl, _, rfl, b.T, _, _, _, rfl, rfl, SqT.of (s1 _ _ hb.t), at_of (j := i) (by omega) hx, x, rfl, _, d1, small _ (by rw [List.length_map, List.length_replicate]; omega), same_put s1 nAl, ?_⟩
      rw [upd_same, List.replicate_succ', List.map_append]
      rfl
    rintro H1 ⟨s1, d1⟩
    refine ⟨Al, _, rfl, SqL.of d1, true, rfl, iteF ?_⟩
    have hb1 := s1 _ _ hb.t
    have e3 : cutV [V.int ep, .int (b.s : Int), .int (b.ws.length : Int), .ref b.PT] none (some 3) = ([ep, (b.s : Int), (b.ws.length : Int)] : List Int).map V.int := by
      rw [show (3 : Int) = ((3 : Nat) : Int) from rfl, cut_take]
      rfl
    refine ⟨_, rfl, _, rfl, b.T, _, rfl, SqT.of hb1, ?_, fun p np => ?_⟩
    · exact fun z => absurd z.2 (by show ¬ HT.sIx 4 4 (some 3) = 4; rw [show (3 : Int) = ((3 : Nat) : Int) from rfl, HT.sIx_nat]; decide)
    rw [e3]
    have sp := Same.new (o := .tup (([ep, (b.s : Int), (b.ws.length : Int)] : List Int).map V.int)) np
    have dp : upd H1 p (.tup (([ep, (b.s : Int), (b.ws.length : Int)] : List Int).map V.int)) p = some (.tup (([ep, (b.s : Int), (b.ws.length : Int)] : List Int).map V.int)) := upd_same
    generalize upd H1 p (.tup (([ep, (b.s : Int), (b.ws.length : Int)] : List Int).map V.int)) = H2 at sp dp ⊢
    refine ⟨_, rfl, _, rfl, _, rfl, by show 3 ≤ sizeLine; decide, fun q nq => ?_⟩
    have sq := Same.new (o := .tup (([ep, (b.s : Int), (b.ws.length : Int)] : List Int).map V.int)) nq
    have dq : upd H2 q (.tup [V.int ep, V.int (b.s : Int), V.int (b.ws.length : Int)]) q = some (.tup (([ep, (b.s : Int), (b.ws.length : Int)] : List Int).map V.int)) := upd_same
    have z1 : SqT K (upd H2 q (.tup [V.int ep, V.int (b.s : Int), V.int (b.ws.length : Int)])) p (([ep, (b.s : Int), (b.ws.length : Int)] : List Int).map V.int) := SqT.of (sq _ _ dp)
    have z2 : SqT K (upd H2 q (.tup [V.int ep, V.int (b.s : Int), V.int (b.ws.length : Int)])) q (([ep, (b.s : Int), (b.ws.length : Int)] : List Int).map V.int) := SqT.of dq
    refine ⟨_, _, dp_tints z1, dp_tints z2, shaped_tints _, shaped_tints _, _, rfl, ?_⟩
    rw [eqv_tints, decide_eq_true rfl]
    refine iteF ?_
    have s3 : Same H (upd H2 q (.tup [V.int ep, V.int (b.s : Int), V.int (b.ws.length : Int)])) := (s1.trans sp).trans sq
    generalize upd H2 q (.tup [V.int ep, V.int (b.s : Int), V.int (b.ws.length : Int)]) = H3 at s3 ⊢
    clear z1 z2 dq sq dp sp np nq e3 hb1 d1 s1
    have hb3 := s3 _ _ hb.t
    have hp3 := s3 _ _ hb.pt
    refine ⟨_, rfl, b.T, _, _, _, rfl, rfl, SqT.of hb3, at_of (j := 3) rfl rfl, _, _, _, _, true, rfl, .ty "tuple", .base (.tup hp3), kit_ty (by decide +kernel), true, rfl, iteF ?_⟩
    refine ⟨_, rfl, b.T, _, _, _, rfl, rfl, SqT.of hb3, at_of (j := 3) rfl rfl, b.PT, _, rfl, .inr (SqT.of hp3), _, rfl, rfl, _, rfl, iteNS (congrArg V.int (by rw [List.length_map, ln])) ?_⟩
    refine ⟨_, rfl, _, rfl, b.T, _, _, _, rfl, rfl, SqT.of hb3, at_of (j := 3) rfl rfl, b.PT, rfl, ⟨_, SqT.of hp3⟩, for_tup (K := K) (a := b.PT) (xs := b.L.map fun q => V.ref q.1) (fun i σ H' => ∃ (l : Int) (v8 : Option V), σ = [some (.ref b.T), some (.int ep), some (.int (b.s : Int)), some (.int (b.ws.length : Int)), some (.ref ML), some (.int (n : Int)), some (.int (rows : Int)), some (.int l), v8, none] ∧ Same H H' ∧ ∀ e ∈ b.L.drop i, l < e.2.1) ⟨-1, none, rfl, s3, fun e me => by have := (hL e me).2.1; omega⟩ (fun i σ H' _ ⟨_, _, _, s, _⟩ => SqT.of (s _ _ hb.pt)) ?_ ?_⟩
    · rintro i y σ H4 hy ⟨l, v8, rfl, s4, hl⟩
      obtain ⟨e, he, rfl⟩ : ∃ e, b.L[i]? = some e ∧ y = V.ref e.1 := by
        rw [List.getElem?_map] at hy
        cases z : b.L[i]? with
        | none => rw [z] at hy; cases hy
        | some e => rw [z] at hy; exact ⟨e, rfl, (Option.some.inj hy).symm⟩
      have me := List.mem_of_getElem? he
      have ht := s4 _ _ (hb.q e me)
      obtain ⟨m1, m2, m3, m4⟩ := hL e me
      have li := item_lt he
      have ed : b.L.drop i = e :: b.L.drop (i + 1) := by
        rw [List.drop_eq_getElem_cons li, show b.L[i] = e from Option.some.inj ((List.getElem?_eq_getElem li).symm.trans he)]
      have l1 := hl e (by rw [ed]; simp)
      refine ⟨_, rfl, _, _, _, _, true, rfl, .ty "tuple", .base (.tup ht), kit_ty (by decide +kernel), true, rfl, iteF ?_⟩
      refine ⟨_, rfl, e.1, _, rfl, .inr (SqT.of ht), rfl, _, rfl, iteF ?_⟩
      refine ⟨_, rfl, e.1, _, _, _, rfl, rfl, SqT.of ht, at_of (j := 0) rfl rfl, e.2.1, rfl, true, rfl, iteF ?_⟩
      refine ⟨_, rfl, e.1, _, _, _, rfl, rfl, SqT.of ht, at_of (j := 1) rfl rfl, e.2.2, rfl, true, rfl, iteF ?_⟩
      refine ⟨_, rfl, e.1, _, _, _, rfl, rfl, SqT.of ht, at_of (j := 0) rfl rfl, _, rfl, _, _, rfl, rfl, _, rfl, ite2 (fun z => absurd (of_decide_eq_true z) (by omega)) (fun _ => ?_)⟩
      refine ⟨_, rfl, e.1, _, _, _, rfl, rfl, SqT.of ht, at_of (j := 0) rfl rfl, _, rfl, ML, _, rfl, .inl (s4.seq hM), rfl, flat_intsS _, _, rfl, ?_⟩
      rw [inV_intsS, decide_eq_true m1]
      refine iteF ?_
      refine ⟨_, rfl, e.1, _, _, _, rfl, rfl, SqT.of ht, at_of (j := 1) rfl rfl, ?_⟩
      refine ⟨_, _, rfl, rfl, _, rfl, ite2 (fun _ => ?_) (fun z => absurd (decide_eq_true m3) z)⟩
      refine ⟨_, rfl, _, _, rfl, rfl, _, rfl, ?_⟩
      rw [decide_eq_true m4]
      refine iteF ?_
      refine ⟨_, rfl, e.1, _, _, _, rfl, rfl, SqT.of ht, at_of (j := 0) rfl rfl, ?_⟩
      refine ⟨e.2.1, _, rfl, s4, fun x mx => ?_⟩
      have p := asc.sublist (List.drop_sublist i _ : ((b.L.map fun e => e.2.1).drop i).Sublist _)
      rw [← List.map_drop, ed, List.map_cons, List.pairwise_cons] at p
      exact p.1 _ (List.mem_map.mpr ⟨x, mx, rfl⟩)
    rintro σ H4 ⟨l, v8, rfl, s4, _⟩
    exact k _ s4
theorem sc_Store_free_counts : FnScope ["self", "disk"] ["self"] (defScope s_Store_free_counts) := ⟨rfl, rfl, rfl, by decide +kernel, rfl, by decide +kernel, by decide +kernel⟩
theorem ok_Store_free_counts (T : Txt w K mg a) : FnOk P w K mg base CX0 2 a.f_Store_free_counts a.d_Store_free_counts ["self"] (sp_Store_free_counts K a) := by
  refine T.F_Store_free_counts.ok sc_Store_free_counts (fun vs H Q E h => ?len) (fun cdv A outer s H vs Q E hr h => ?body)
  case len =>
    exact sp_Store_free_counts_len h
  case body =>
    obtain ⟨S, m, rfl, h, l8, k⟩ := h
    refine ⟨_, (pss_one (ps_ret (pe_lc (own := [("disk", 1)]) (g := (gName 1)) (by rfl) sc_Store_free_counts.nd (pi_list (pe_fld (pv 0) rfl)) (blkOk_by (own := [("disk", 1)]) (N := ["self", "disk"]) (sc := defScope s_Store_free_counts) (by decide +kernel))
      (fun _ _ _ _ _ => (pg_name (i := 1) sc_Store_free_counts.nd rfl (Or.inl rfl))) (fun _ _ _ _ _ => pts_nil) (fun _ _ _ _ _ => (pe_tup (pa_cons (pv 1) (pa_cons (pe_meth0 (pe_dget (hu_of hr) (by exact (pe_fld (pv 0) rfl) : PE _ _ (tFld K _ _)) (pv 1) (fun _ _ => rfl)) T.cl_Space T.m_Space_free_count (ok_Space_free_count T) (hr.mono (by decide)) T.d_Space_free_count .nil pass0) pa_nil))))))), ?_⟩
    refine ⟨_, rfl, S, _, m.dx, _, _, rfl, h.hS, T.cl_Store, T.na_Store_members, sf_members m, m.mL, rfl, ⟨_, SqL.of h.hm⟩, fun D nD => lc_list (K := K) (a := m.mL) (xs := m.ms.map V.int) (fun i H' => Same H H' ∧ ∃ L : List (Addr × Int × Int), H' D = some (.lst (L.map fun e => V.ref e.1)) ∧ L.length = i ∧ (∀ e ∈ L, H' e.1 = some (.tup [.int e.2.1, .int e.2.2])) ∧ L.map (·.2) = (m.ms.take i).map (fun d => (d, (m.rows : Int) - (18 : Nat) - (usedM m d : Nat)))) ⟨Same.new nD, [], upd_same, rfl, fun _ m => (nomatch m), rfl⟩ (fun i H' _ q => q.1.seq (SqL.of h.hm)) ?_ ?_⟩
    · rintro i y H1 hy ⟨s1, L, d1, lL, hL, eL⟩
      obtain ⟨d, hd, rfl⟩ := int_item hy
      have md := List.mem_of_getElem? hd
      have st := h.same s1
      obtain ⟨dx, low, M, e1, _⟩ := id (st.sp d md)
      have lM : i ≤ 8 := by have := item_lt hd; omega
      refine ⟨rfl, _, rfl, _, rfl, S, _, m.dx, _, _, rfl, st.hS, T.cl_Store, T.na_Store_spaces, sf_spaces m, _, rfl, m.spd, _, rfl, st.spget md, (m.sp d).1, dx, _, rfl, e1, rfl, (m.sp d).1, (m.sp d).2, 18, m.rows, phiM m.bl d, rfl, st.sp d md, by show 2 ≤ sizeLine; decide, fun t nt => ?_⟩
      have eu : (pickL 18 m.rows (phiM m.bl d) fun s => decide (s ≠ 0)).length = usedM m d := rfl
      rw [eu]
      have sT := Same.new (o := .tup [V.int d, V.int ((m.rows : Int) - (18 : Nat) - (usedM m d : Nat))]) nt
      have dT : upd H1 t (.tup [V.int d, V.int ((m.rows : Int) - (18 : Nat) - (usedM m d : Nat))]) t = some (.tup [.int d, .int ((m.rows : Int) - (18 : Nat) - (usedM m d : Nat))]) := upd_same
      generalize upd H1 t (.tup [V.int d, V.int ((m.rows : Int) - (18 : Nat) - (usedM m d : Nat))]) = H2 at sT dT ⊢
      have tD : t ≠ D := (ne_of_none d1 nt).symm
      refine ⟨_, sT _ _ d1, small _ (by rw [List.length_map, lL]; omega), same_put (s1.trans sT) nD, L ++ [(t, d, (m.rows : Int) - (18 : Nat) - (usedM m d : Nat))], by rw [upd_same, List.map_append]; rfl, by rw [List.length_append, lL]; rfl, fun e me => ?_, by rw [List.map_append, eL, take_snoc hd, List.map_append]; rfl⟩
      rcases List.mem_append.mp me with me | me
      · rw [upd_ne (ne_of (hL e me) d1 (by intro z; cases z))]
        exact sT _ _ (hL e me)
      · rw [List.mem_singleton.mp me, upd_ne tD]
        exact dT
    rintro H1 ⟨s1, L, d1, lL, hL, eL⟩
    rw [List.length_map, List.take_length] at eL
    exact k D L H1 s1 nD d1 hL eL
theorem sc_weights : FnScope ["places", "x", "at", "place"] ["places", "x"] (defScope s_weights) := ⟨rfl, rfl, rfl, by decide +kernel, rfl, by decide +kernel, by decide +kernel⟩
theorem ok_weights (T : Txt w K mg a) : FnOk P w K mg base CX0 3 a.f_weights a.d_weights ["places", "x"] (sp_weights K a) := by
  refine T.F_weights.ok sc_weights (fun vs H Q E h => ?len) (fun cdv A outer s H vs Q E hr h => ?body)
  case len =>
    exact sp_weights_len h
  case body =>
    exact h.2.elim
theorem sc_unseal : FnScope ["sector", "kind", "disk", "row", "epoch", "high", "low"] ["sector", "kind", "disk", "row"] (defScope s_unseal) := ⟨rfl, rfl, rfl, by decide +kernel, rfl, by decide +kernel, by decide +kernel⟩
theorem ok_unseal (T : Txt w K mg a) : FnOk P w K mg base CX0 3 a.f_unseal a.d_unseal ["sector", "kind", "disk", "row"] (sp_unseal K a) := by
  refine T.F_unseal.ok sc_unseal (fun vs H Q E h => ?len) (fun cdv A outer s H vs Q E hr h => ?body)
  case len =>
    exact sp_unseal_len h
  case body =>
    exact h.2.elim
theorem sc_law_words : FnScope ["pot", "count", "k"] ["pot", "count"] (defScope s_law_words) := ⟨rfl, rfl, rfl, by decide +kernel, rfl, by decide +kernel, by decide +kernel⟩
theorem ok_law_words (T : Txt w K mg a) : FnOk P w K mg base CX0 3 a.f_law_words a.d_law_words ["pot", "count"] (sp_law_words K a) := by
  refine T.F_law_words.ok sc_law_words (fun vs H Q E h => ?len) (fun cdv A outer s H vs Q E hr h => ?body)
  case len =>
    exact sp_law_words_len h
  case body =>
    obtain ⟨p, l, n, rfl, hP, n0, n5, k⟩ := h
    refine ⟨_, (pss_one (ps_ret (pe_lc (own := [("k", 2)]) (g := (gName 2)) (by rfl) sc_law_words.nd (pi_range1 (by rfl) T.n_range (pa_cons (pv 1) pa_nil)) (blkOk_by (own := [("k", 2)]) (N := ["pot", "count", "k"]) (sc := defScope s_law_words) (by decide +kernel))
      (fun _ _ _ _ _ => (pg_name (i := 2) sc_law_words.nd rfl (Or.inl rfl))) (fun _ _ _ _ _ => pts_nil) (fun _ _ _ _ _ => (pe_call (ok_law_word T) (hr.mono (by decide)) rfl T.g_law_word T.F_law_word.kp T.d_law_word .nil pass0 (pa_cons (pv 0) pa_nil)))))), ?_⟩
    refine ⟨_, rfl, n, rfl, by omega, by omega, fun D new => lc_it walk_range (fun i H' => ∃ ws : List Int, But p H H' ∧ Pot H' p l ∧ H' D = some (.lst (ws.map V.int)) ∧ ws.length = i ∧ ∀ w ∈ ws, Wd w)
      ⟨[], (Same.new new).but, hP.new new, upd_same, rfl, fun _ m => nomatch m⟩ (fun _ _ _ _ => True.intro) ?_ ?_⟩
    · rintro i y H1 H2 hi ⟨ws, b1, P1, d1, hl, hw⟩ ⟨rfl, rfl⟩
      have off := hP.off new
      refine ⟨rfl, _, rfl, p, l, rfl, P1, fun v H3 wv P3 o3 => ?_⟩
      refine ⟨_, by rw [o3 _ off.1.symm]; exact d1, small _ (by simp; omega), ws ++ [v], ?_, P3.only Only.upd off.1 off.2, ?_, by simp [hl], ?_⟩
      · intro b o e nb
        rw [upd_ne (ne_of_none e new), o3 _ nb]
        exact b1 b o e nb
      · rw [upd_same, List.map_append]
        rfl
      · intro w m
        rcases List.mem_append.mp m with m | m
        · exact hw w m
        · have : w = v := by simpa using m
          rw [this]
          exact wv
    · rintro H' ⟨ws, b1, P1, d1, hl, hw⟩
      exact k D ws H' hl hw new d1 b1 P1
theorem sc_law_counts_right : FnScope ["store", "members", "taken", "due", "disk", "found", "place"] ["store", "members", "taken"] (defScope s_law_counts_right) := ⟨rfl, rfl, rfl, by decide +kernel, rfl, by decide +kernel, by decide +kernel⟩
theorem ok_law_counts_right (T : Txt w K mg a) : FnOk P w K mg base CX0 3 a.f_law_counts_right a.d_law_counts_right ["store", "members", "taken"] (sp_law_counts_right K a) := by
  refine T.F_law_counts_right.ok sc_law_counts_right (fun vs H Q E h => ?len) (fun cdv A outer s H vs Q E hr h => ?body)
  case len =>
    exact sp_law_counts_right_len h
  case body =>
    obtain ⟨S, ML, TK, m, ks, rfl, h, hM, l8, r64, hT, lk, cnt, k⟩ := h
    refine ⟨_, (pss_cons (ps_set (i := 3) sc_law_counts_right.nd rfl (Or.inl rfl) (pe_lst pa_nil))
      (pss_cons (ps_for PassesOwn.never rfl (pi_list (pv 1)) (pg_name (i := 4) sc_law_counts_right.nd rfl (Or.inr rfl))
      (pss_one (ps_expr (pe_bm PySem.F.plainAttrs_list PySem.F.slot_list_append PySem.F.type_list_append mt_append (pv 3) (pa_cons (pe_tup (pa_cons (pv 4) (pa_cons (pe_op op_sub pe_int (pe_callB call_len_seq (by rfl) T.n_len PySem.boot_len (pa_cons (pe_lock (pe_lc (own := [("place", 6)]) (g := (gName 6)) (by rfl) sc_law_counts_right.nd (pi_keys (pv 2)) (blkOk_by (own := [("place", 6)]) (N := ["store", "members", "taken", "due", "disk", "found", "place"]) (sc := defScope s_law_counts_right) (by decide +kernel))
      (fun _ _ _ _ _ => (pg_name (i := 6) sc_law_counts_right.nd rfl (Or.inl rfl))) (fun _ _ _ _ _ => (pts_one (pt_cmpR op_eq (pe_ix (by exact ix_tup : IxR _ (rIxT K)) (pv 6) pe_int (fun _ _ => rfl)) (pv 4) (nomark _)))) (fun _ _ _ _ _ => (pv 6)))) pa_nil))) pa_nil))) pa_nil)))))
      (pss_cons (ps_set (i := 5) sc_law_counts_right.nd rfl (Or.inl rfl) (pe_meth0 (pv 0) T.cl_Store T.m_Store_free_counts (ok_Store_free_counts T) (hr.mono (by decide)) T.d_Store_free_counts .nil pass0))
      (pss_one (ps_ret (pe_and (pe_callB call_isi (by rfl) T.n_isinstance (by decide +kernel) (pa_cons (pv 5) (pa_cons (pe_bltn (v := .ty "list") (by rfl) T.n_list (by decide +kernel) rfl) pa_nil))) (pe_one (pe_cmpR (op_eqD hr.units) (pv 5) (pv 3) (nomark _))))))))), ?_⟩
    refine ⟨Nat.zero_le _, fun Du nDu => ?_⟩
    refine ⟨_, rfl, ML, rfl, ⟨_, (Same.new nDu).seq hM⟩, for_list (K := K) (a := ML) (xs := m.ms.map V.int) (fun i σ H' => ∃ (v4 : Option V) (L : List (Addr × Int × Int)), σ = [some (.ref S), some (.ref ML), some (.ref TK), some (.ref Du), v4, none, none] ∧ Same H H' ∧ H' Du = some (.lst (L.map fun e => V.ref e.1)) ∧ (∀ e ∈ L, H' e.1 = some (.tup [.int e.2.1, .int e.2.2])) ∧ L.map (·.2) = (m.ms.take i).map fun d => (d, (m.rows : Int) - (18 : Nat) - (usedM m d : Nat))) ⟨none, [], rfl, Same.new nDu, upd_same, fun _ m => (nomatch m), rfl⟩ (fun i σ H' _ ⟨_, _, _, s, _⟩ => s.seq hM) ?_ ?_⟩
    · rintro i y σ H1 hy ⟨v4, L, rfl, s1, dDu, hL, eL⟩
      obtain ⟨d, hd, rfl⟩ := int_item hy
      have md := List.mem_of_getElem? hd
      have hT1 := s1 _ _ hT
      refine ⟨_, rfl, .inl ⟨rfl, _, SqL.of dDu⟩, _, rfl, TK, _, hT1, True.intro, fun od => ?_⟩
      obtain ⟨HL, hHL⟩ : ∃ HL, HL = upd H1 TK (.frz od (.dT (takK ks))) := ⟨_, rfl⟩
      have fL : HL TK = some (.frz od (.dT (takK ks))) := by rw [hHL]; exact upd_same
      have eLL : ∀ x, x ≠ TK → HL x = H1 x := fun x n => by rw [hHL, upd_ne n]
      rw [← hHL]
      have DT : Du ≠ TK := ne_of dDu hT1 (by intro z; cases z)
      refine ⟨_, rfl, TK, od, rfl, .inr ⟨takK ks, fL, fun D nD => lc_it (walk_keysT (d := TK) (o := od) (kvs := takK ks)) (fun j H' => Same HL H' ∧ ∃ vs : List V, H' D = some (.lst vs) ∧ vs.length = ((ks.take j).filter fun q => decide (q.1 = d)).length) ⟨Same.new nD, [], upd_same, rfl⟩ (fun j H' _ q => q.1 _ _ fL) ?_ ?_⟩⟩
      · rintro j y H2 H3 hj ⟨s2, vs, dD, lv⟩ ⟨rfl, kk, v, q, hk, rfl, hq⟩
        obtain ⟨u, hu, rfl⟩ : ∃ u, ks[j]? = some u ∧ kk = [(Sum.inl u.1 : Key), Sum.inl u.2] := by
          unfold takK at hk
          rw [List.getElem?_map] at hk
          cases z : ks[j]? with
          | none => rw [z] at hk; cases hk
          | some u => rw [z] at hk; cases hk; exact ⟨u, rfl, rfl⟩
        have ft : ((ks.take (j + 1)).filter fun q => decide (q.1 = d)).length = ((ks.take j).filter fun q => decide (q.1 = d)).length + if u.1 = d then 1 else 0 := by
          rw [take_snoc hu, List.filter_append, List.length_append]
          congr 1
          by_cases c : u.1 = d <;> simp [c]
        have lf := List.length_filter_le (fun q : Int × Int => decide (q.1 = d)) (ks.take j)
        rw [List.length_take] at lf
        refine ⟨rfl, _, rfl, q, _, _, _, rfl, rfl, SqT.of hq, at_of (j := 0) rfl rfl, _, rfl, rfl, _, rfl, ite2 (fun c => ?_) (fun c => ?_)⟩
        · have c : u.1 = d := V.int.inj (of_decide_eq_true c)
          rw [if_pos c] at ft
          exact ⟨_, rfl, _, dD, small _ (by omega), same_put s2 nD, _, upd_same, by rw [List.length_append, lv, ft]; rfl⟩
        · have c : ¬ u.1 = d := fun z => c (decide_eq_true (by show V.int u.1 = V.int d; rw [z]))
          rw [if_neg c] at ft
          exact ⟨s2, vs, dD, by rw [lv, ft]; rfl⟩
      rintro H2 ⟨s2, vs, dD, lv⟩
      have lt : (takK ks).length = ks.length := List.length_map _
      rw [lt, List.take_length, cnt d md] at lv
      refine ⟨s2 _ _ fL, ?_⟩
      have s3 : Same H1 (upd H2 TK (.dT (takK ks))) := fun x o e => by
        by_cases c : x = TK
        · rw [c, upd_same]
          rw [c, hT1] at e
          exact e
        · rw [upd_ne c]
          exact s2 _ _ (by rw [eLL x c]; exact e)
      have DTK : D ≠ TK := (ne_of_none fL nD).symm
      have dD3 : upd H2 TK (.dT (takK ks)) D = some (.lst vs) := by rw [upd_ne DTK]; exact dD
      generalize upd H2 TK (.dT (takK ks)) = H3 at s3 dD3 ⊢
      refine ⟨D, vs, rfl, .inl (SqL.of dD3), _, _, rfl, rfl, by show 2 ≤ sizeLine; decide, fun t nt => ?_⟩
      rw [lv]
      have ev : (46 : Int) - ((usedM m d : Nat) : Int) = (m.rows : Int) - (18 : Nat) - (usedM m d : Nat) := by rw [r64]; omega
      dsimp only
      rw [ev]
      have sT := Same.new (o := .tup [V.int d, V.int ((m.rows : Int) - (18 : Nat) - (usedM m d : Nat))]) nt
      have dT : upd H3 t (.tup [V.int d, V.int ((m.rows : Int) - (18 : Nat) - (usedM m d : Nat))]) t = some (.tup [.int d, .int ((m.rows : Int) - (18 : Nat) - (usedM m d : Nat))]) := upd_same
      generalize upd H3 t (.tup [V.int d, V.int ((m.rows : Int) - (18 : Nat) - (usedM m d : Nat))]) = H4 at sT dT ⊢
      have s4 := s3.trans sT
      have tDu : t ≠ Du := (ne_of_none (s3 _ _ dDu) nt).symm
      have lL : L.length ≤ 8 := by
        have := congrArg List.length eL
        rw [List.length_map, List.length_map, List.length_take] at this
        omega
      refine ⟨Du, _, _, rfl, rfl, s4 _ _ dDu, small _ (by rw [List.length_map]; omega), ?_⟩
      refine ⟨_, L ++ [(t, d, (m.rows : Int) - (18 : Nat) - (usedM m d : Nat))], rfl, same_put (s1.trans s4) nDu, by rw [upd_same, List.map_append]; rfl, fun e me => ?_, by rw [List.map_append, eL, take_snoc hd, List.map_append]; rfl⟩
      rcases List.mem_append.mp me with me | me
      · rw [upd_ne (ne_of (hL e me) dDu (by intro z; cases z))]
        exact s4 _ _ (hL e me)
      · rw [List.mem_singleton.mp me, upd_ne tDu]
        exact dT
    rintro σ H1 ⟨v4, L, rfl, s1, dDu, hL, eL⟩
    rw [List.length_map, List.take_length] at eL
    refine ⟨_, rfl, S, m.dx, _, rfl, (s1 _ _ h.hS), by kernel_rfl, S, m, rfl, h.same s1, l8, fun Fo FL H2 s2 nFo dFo hFo eFo => ?_⟩
    refine ⟨_, rfl, _, _, _, _, true, rfl, .ty "list", .base (.lst dFo), kit_ty (by decide +kernel), true, rfl, iteT ?_⟩
    refine ⟨_, rfl, _, rfl, _, _, dp_prs dFo hFo, dp_prs (s2 _ _ dDu) (fun e me => s2 _ _ (hL e me)), prs_shaped _, prs_shaped _, ?_⟩
    rw [eFo, eL, prs_eqv]
    exact k _ (s1.trans s2)
theorem sc_Store_init : FnScope ["self", "data", "parity", "rows", "members", "epoch", "disk"] ["self", "data", "parity", "rows", "members", "epoch"] (defScope s_Store_init) := ⟨rfl, rfl, rfl, by decide +kernel, rfl, by decide +kernel, by decide +kernel⟩
theorem ok_Store_init (T : Txt w K mg a) : FnOk P w K mg base CX0 3 a.f_Store_init a.d_Store_init ["self", "data", "parity", "rows", "members", "epoch"] (sp_Store_init K a) := by
  refine T.F_Store_init.ok sc_Store_init (fun vs H Q E h => ?len) (fun cdv A outer s H vs Q E hr h => ?body)
  case len =>
    exact sp_Store_init_len h
  case body =>
    obtain ⟨S, dx, M, d, p, r, e, ms, rfl, hS, hM, nd, h08, l8, r18, r100, k⟩ := h
    have hw := T.hw
    subst hw
    refine ⟨_, (pss_cons (ps_fld (pv 0) (pv 1) rfl)
      (pss_cons (ps_fld (pv 0) (pv 2) rfl)
      (pss_cons (ps_fld (pv 0) (pv 3) rfl)
      (pss_cons (ps_fld (pv 0) (pe_callTy call_list_of (by rfl) T.n_list (by decide +kernel) (pa_cons (pv 4) pa_nil)) rfl)
      (pss_cons (ps_fld (pv 0) (pv 5) rfl)
      (pss_cons (ps_fld (pv 0) (pe_lst pa_nil) rfl)
      (pss_cons (ps_fld (pv 0) pe_int rfl)
      (pss_cons (ps_fld (pv 0) (pe_dc (own := [("disk", 6)]) (g := (gName 6)) (by rfl) sc_Store_init.nd (pi_list (pv 4)) (blkOk_by (own := [("disk", 6)]) (N := ["self", "data", "parity", "rows", "members", "epoch", "disk"]) (sc := defScope s_Store_init) (by decide +kernel))
      (fun _ _ _ _ _ => (pg_name (i := 6) sc_Store_init.nd rfl (Or.inl rfl))) (fun _ _ _ _ _ => pts_nil) (fun _ _ _ _ _ => (pv 6)) (fun _ _ _ _ _ => (pe_make T.mk_Space (ok_Space_init T) (hr.mono (by decide)) rfl T.g_Space T.d_Space_init .nil pass0 (pa_cons (pv 3) (pa_cons (pe_const T.g_FIRST_ROW) pa_nil))))) rfl)
      (pss_cons (ps_fld (pv 0) pe_nnew rfl)
      (pss_one (ps_fld (pv 0) pe_nnew rfl))))))))))), ?_⟩
    refine ⟨_, rfl, _, rfl, S, _, dx, _, rfl, hS, T.cl_Store, T.na_Store_data, (by show 0 < 1000; decide), ?_⟩
    refine ⟨_, rfl, _, rfl, S, _, dx, _, rfl, upd_same, T.cl_Store, T.na_Store_parity, (by show 1 < 1000; decide), ?_⟩
    refine ⟨_, rfl, _, rfl, S, _, dx, _, rfl, upd_same, T.cl_Store, T.na_Store_rows, (by show 2 < 1000; decide), ?_⟩
    have f1 : upd (upd (upd H S (.ins a.c_Store dx (putF "data" (.int (d : Int)) []))) S (.ins a.c_Store dx (putF "parity" (.int (p : Int)) (putF "data" (.int (d : Int)) [])))) S (.ins a.c_Store dx (putF "rows" (.int (r : Int)) (putF "parity" (.int (p : Int)) (putF "data" (.int (d : Int)) [])))) S = some (.ins a.c_Store dx (putF "rows" (.int (r : Int)) (putF "parity" (.int (p : Int)) (putF "data" (.int (d : Int)) [])))) := upd_same
    have k1 : ∀ b, b ≠ S → upd (upd (upd H S (.ins a.c_Store dx (putF "data" (.int (d : Int)) []))) S (.ins a.c_Store dx (putF "parity" (.int (p : Int)) (putF "data" (.int (d : Int)) [])))) S (.ins a.c_Store dx (putF "rows" (.int (r : Int)) (putF "parity" (.int (p : Int)) (putF "data" (.int (d : Int)) [])))) b = H b := fun b n => by rw [upd_ne n, upd_ne n, upd_ne n]
    generalize upd (upd (upd H S (.ins a.c_Store dx (putF "data" (.int (d : Int)) []))) S (.ins a.c_Store dx (putF "parity" (.int (p : Int)) (putF "data" (.int (d : Int)) [])))) S (.ins a.c_Store dx (putF "rows" (.int (r : Int)) (putF "parity" (.int (p : Int)) (putF "data" (.int (d : Int)) [])))) = H1 at f1 k1 ⊢
    have MS : M ≠ S := ne_of hM hS (by intro z; cases z)
    refine ⟨_, rfl, M, _, rfl, .inl (SqL.of (by rw [k1 _ MS]; exact hM)), fun mL nL => ?_⟩
    have LS : mL ≠ S := (ne_of_none f1 nL).symm
    refine ⟨_, rfl, S, _, dx, _, rfl, by rw [upd_ne LS.symm]; exact f1, T.cl_Store, T.na_Store_members, (by show 3 < 1000; decide), ?_⟩
    refine ⟨_, rfl, _, rfl, S, _, dx, _, rfl, upd_same, T.cl_Store, T.na_Store_epoch, (by show 4 < 1000; decide), ?_⟩
    obtain ⟨H2, hH2⟩ : ∃ H2, H2 = upd (upd (upd H1 mL (.lst (ms.map V.int))) S (.ins a.c_Store dx (putF "members" (.ref mL) (putF "rows" (.int (r : Int)) (putF "parity" (.int (p : Int)) (putF "data" (.int (d : Int)) [])))))) S (.ins a.c_Store dx (putF "epoch" (.int e) (putF "members" (.ref mL) (putF "rows" (.int (r : Int)) (putF "parity" (.int (p : Int)) (putF "data" (.int (d : Int)) [])))))) := ⟨_, rfl⟩
    have f2 : H2 S = some (.ins a.c_Store dx (putF "epoch" (.int e) (putF "members" (.ref mL) (putF "rows" (.int (r : Int)) (putF "parity" (.int (p : Int)) (putF "data" (.int (d : Int)) [])))))) := by rw [hH2]; exact upd_same
    have m2 : H2 mL = some (.lst (ms.map V.int)) := by rw [hH2, upd_ne LS, upd_ne LS]; exact upd_same
    have nL0 : H mL = none := by rw [← k1 _ LS]; exact nL
    have k2 : ∀ b o, H b = some o → b ≠ S → H2 b = some o := fun b o e n => by
      rw [hH2, upd_ne n, upd_ne n, upd_ne (ne_of_none e nL0), k1 _ n]
      exact e
    rw [← hH2]
    clear hH2 k1 f1 nL
    -- _images = []
    refine ⟨Nat.zero_le _, fun Im nIm => ?_⟩
    have IS : Im ≠ S := (ne_of_none f2 nIm).symm
    refine ⟨_, rfl, S, _, dx, _, rfl, by rw [upd_ne IS.symm]; exact f2, T.cl_Store, T.na_Store_images, (by show 5 < 1000; decide), ?_⟩
    refine ⟨_, rfl, S, _, dx, _, rfl, upd_same, T.cl_Store, T.na_Store_made, (by show 6 < 1000; decide), ?_⟩
    obtain ⟨F7, hF7⟩ : ∃ F7, F7 = putF "_made" (.int (0 : Int)) (putF "_images" (.ref Im) (putF "epoch" (.int e) (putF "members" (.ref mL) (putF "rows" (.int (r : Int)) (putF "parity" (.int (p : Int)) (putF "data" (.int (d : Int)) [])))))) := ⟨_, rfl⟩
    obtain ⟨H3, hH3⟩ : ∃ H3, H3 = upd (upd (upd H2 Im (.lst [])) S (.ins a.c_Store dx (putF "_images" (.ref Im) (putF "epoch" (.int e) (putF "members" (.ref mL) (putF "rows" (.int (r : Int)) (putF "parity" (.int (p : Int)) (putF "data" (.int (d : Int)) [])))))))) S (.ins a.c_Store dx F7) := ⟨_, rfl⟩
    have f3 : H3 S = some (.ins a.c_Store dx F7) := by rw [hH3]; exact upd_same
    have k23 : ∀ b o, H2 b = some o → b ≠ S → H3 b = some o := fun b o e n => by
      rw [hH3, upd_ne n, upd_ne n, upd_ne (ne_of_none e nIm)]
      exact e
    have m3 := k23 _ _ m2 LS
    have k3 : ∀ b o, H b = some o → b ≠ S → H3 b = some o := fun b o e n => k23 b o (k2 b o e n) n
    rw [← hF7, ← hH3]
    clear hH3 k23 k2 f2 m2 nIm
    have M3 := k3 _ _ hM MS
    have msl : ms.length ≤ 8 := l8
    refine ⟨_, rfl, M, rfl, ⟨_, SqL.of M3⟩, fun D nD => dc_it (walk_list (K := K) (a := M) (xs := ms.map V.int)) (fun i H' => ∃ f : Int → Addr × Addr, Same H3 H' ∧ H' D = some (.dK ((ms.take i).map fun d => ((Sum.inl d : Key), V.ref (f d).1))) ∧ (∀ x ∈ ms.take i, SpD a H' (f x).1 (f x).2 18 r (fun _ => 0) ∧ H3 (f x).1 = none ∧ H3 (f x).2 = none ∧ (f x).2 ≠ D) ∧ ∀ x ∈ ms.take i, ∀ y ∈ ms.take i, (f x).1 = (f y).1 ∨ (f x).2 = (f y).2 → x = y) ⟨fun _ => (0, 0), Same.new nD, upd_same, fun _ m => (nomatch m), fun _ m => (nomatch m)⟩ (fun i H' _ q => by obtain ⟨_, s, _⟩ := q; exact SqL.of (s _ _ M3)) ?_ ?_⟩
    · rintro i y H4 H5 hi ⟨f, s4, d4, sp4, u4⟩ ⟨rfl, hy⟩
      obtain ⟨x, hx, rfl⟩ := int_item hy
      have mx := List.mem_of_getElem? hx
      have il := item_lt hx
      have xn : x ∉ ms.take i := fun z => by
        obtain ⟨j, hj⟩ := List.mem_iff_getElem?.mp z
        rw [List.getElem?_take] at hj
        split at hj
        · next lt =>
          rw [List.pairwise_iff_getElem] at nd
          have lj := item_lt hj
          have := nd j i lj il lt
          rw [show ms[j] = x from Option.some.inj ((List.getElem?_eq_getElem lj).symm.trans hj), show ms[i] = x from Option.some.inj ((List.getElem?_eq_getElem il).symm.trans hx)] at this
          omega
        · cases hj
      refine ⟨rfl, _, rfl, _, rfl, fun po qo npo nqo npq => ⟨po, qo, 18, r, rfl, upd_same, r18, fun do' H6 ndo sp6 fr6 => ⟨rfl, ?_⟩⟩⟩
      have s6 : ∀ b o, H5 b = some o → H6 b = some o := fun b o e => fr6 b o (by rw [upd_ne (ne_of_none e npo), upd_ne (ne_of_none e nqo)]; exact e) (ne_of_none e npo)
      have dp : do' ≠ po := fun z => by rw [z, upd_same] at ndo; cases ndo
      have nd5 : H5 do' = none := by
        by_cases z : do' = qo
        · rw [z]; exact nqo
        · rw [upd_ne dp, upd_ne z] at ndo
          exact ndo
      have poD : po ≠ D := (ne_of_none d4 npo).symm
      have doD : do' ≠ D := (ne_of_none d4 nd5).symm
      obtain ⟨fx, hfx⟩ : ∃ fx : Int → Addr × Addr, fx = fun z => if z = x then (po, do') else f z := ⟨_, rfl⟩
      have fxx : fx x = (po, do') := by rw [hfx]; exact if_pos rfl
      have fxo : ∀ z ∈ ms.take i, fx z = f z := fun z mz => by rw [hfx]; exact if_neg fun e => xn (by rw [← e]; exact mz)
      have emap : (ms.take i).map (fun d => ((Sum.inl d : Key), V.ref (f d).1)) = (ms.take i).map fun d => ((Sum.inl d : Key), V.ref (fx d).1) := List.map_congr_left fun z mz => by rw [fxo z mz]
      refine ⟨_, Sum.inl x, rfl, s6 _ _ d4, small _ (by rw [List.length_map, List.length_take]; omega), fx, ?_, ?_, ?_, ?_⟩
      · exact same_put (fun b o e => s6 _ _ (s4 _ _ e)) nD
      · rw [upd_same, take_snoc hx, List.map_append, emap, putK_new _ (val_no (f := fun d => (fx d).1) xn)]
        show some (HO.dK (_ ++ [((Sum.inl x : Key), V.ref po)])) = some (HO.dK (_ ++ [((Sum.inl x : Key), V.ref (fx x).1)]))
        rw [fxx]
      · intro z mz
        rw [take_snoc hx] at mz
        rcases List.mem_append.mp mz with mz | mz
        · obtain ⟨a1, a2, a3, a4⟩ := sp4 z mz
          rw [fxo z mz]
          refine ⟨a1.keep (fun o e => ?_) (fun o e => ?_), a2, a3, a4⟩
          · obtain ⟨_, _, _, e1, _⟩ := a1
            rw [upd_ne (ne_of e1 d4 (by intro z; cases z))]
            exact s6 _ _ e
          · rw [upd_ne a4]
            exact s6 _ _ e
        · rw [List.mem_singleton.mp mz, fxx]
          refine ⟨sp6.keep (fun o e => by rw [upd_ne poD]; exact e) (fun o e => by rw [upd_ne doD]; exact e), same_none s4 npo, same_none s4 nd5, doD⟩
      · have cross : ∀ z ∈ ms.take i, (f z).1 ≠ po ∧ (f z).2 ≠ do' := fun z mz => by
          obtain ⟨⟨_, _, _, e1, e2, _⟩, _⟩ := sp4 z mz
          exact ⟨ne_of_none e1 npo, ne_of_none e2 nd5⟩
        intro z mz w mw h
        rw [take_snoc hx] at mz mw
        rcases List.mem_append.mp mz with mz | mz
        · rcases List.mem_append.mp mw with mw | mw
          · rw [fxo z mz, fxo w mw] at h
            exact u4 z mz w mw h
          · rw [List.mem_singleton.mp mw, fxo z mz, fxx] at h
            exact absurd h fun q => q.elim (cross z mz).1 (cross z mz).2
        · rcases List.mem_append.mp mw with mw | mw
          · rw [List.mem_singleton.mp mz, fxo w mw, fxx] at h
            exact absurd h fun q => q.elim (fun e => (cross w mw).1 e.symm) fun e => (cross w mw).2 e.symm
          · rw [List.mem_singleton.mp mz, List.mem_singleton.mp mw]
    rintro H4 ⟨f, s4, d4, sp4, u4⟩
    rw [List.length_map, List.take_length] at d4 sp4 u4
    have f4 := s4 _ _ f3
    have DS : D ≠ S := (ne_of_none f3 nD).symm
    refine ⟨_, rfl, S, _, dx, _, rfl, f4, T.cl_Store, T.na_Store_spaces, (by rw [hF7]; show 7 < 1000; decide), ?_⟩
    intro bD nbD
    have bS : bD ≠ S := fun z => by rw [z, upd_same] at nbD; cases nbD
    have nb4 : H4 bD = none := by rw [upd_ne bS] at nbD; exact nbD
    refine ⟨_, rfl, S, _, dx, _, rfl, by rw [upd_ne bS.symm]; exact upd_same, T.cl_Store, T.na_Store_blocks, (by rw [hF7]; show 8 < 1000; decide), ?_⟩
    intro mD nmD
    have mS : mD ≠ S := fun z => by rw [z, upd_same] at nmD; cases nmD
    have mb : mD ≠ bD := fun z => by rw [z, upd_ne bS, upd_same] at nmD; cases nmD
    have nm4 : H4 mD = none := by rw [upd_ne mS, upd_ne mb, upd_ne mS] at nmD; exact nmD
    refine ⟨_, rfl, S, _, dx, _, rfl, by rw [upd_ne mS.symm]; exact upd_same, T.cl_Store, T.na_Store_memory, (by rw [hF7]; show 9 < 1000; decide), ?_⟩
    have m0 : SM := ⟨dx, mL, D, bD, mD, Im, f, d, p, r, 0, e, ms, []⟩
    obtain ⟨m, hm⟩ : ∃ m : SM, m = ⟨dx, mL, D, bD, mD, Im, f, d, p, r, 0, e, ms, []⟩ := ⟨_, rfl⟩
    have ef : putF "_memory" (.ref mD) (putF "_blocks" (.ref bD) (putF "_spaces" (.ref D) F7)) = sflds m := by rw [hF7, hm]; kernel_rfl
    have keep : ∀ x o, H4 x = some o → x ≠ S → upd (upd (upd (upd (upd H4 S (.ins a.c_Store dx (putF "_spaces" (.ref D) F7))) bD (L2.NO a.wd bD [])) S (.ins a.c_Store dx (putF "_blocks" (.ref bD) (putF "_spaces" (.ref D) F7)))) mD (L2.NO a.wd mD [])) S (.ins a.c_Store dx (putF "_memory" (.ref mD) (putF "_blocks" (.ref bD) (putF "_spaces" (.ref D) F7)))) x = some o := fun x o ex n => by
      rw [upd_ne n, upd_ne (ne_of_none ex nm4), upd_ne n, upd_ne (ne_of_none ex nb4), upd_ne n]
      exact ex
    have frH : ∀ b o, H b = some o → b ≠ S → H4 b = some o := fun b o ex n => s4 _ _ (k3 b o ex n)
    have freshH : ∀ b, H3 b = none → b ≠ S → H b = none := fun b n ne => by
      cases z : H b with
      | none => rfl
      | some o => rw [k3 b o z ne] at n; cases n
    refine k m _ ⟨?_, ?_, ?_, fun x mx => ?_, ?_, ?_, ?_, ?_, ?_, ?_, ?_, ?_, ?_, ?_, ?_, ?_⟩ (by rw [hm]) (by rw [hm]) (by rw [hm]) (by rw [hm]) (by rw [hm]) (by rw [hm]) (by rw [hm]) (fun b o ex n => keep b o (frH b o ex n) n) fun b r => ?_
    · rw [upd_same, ← ef, hm]
    · rw [hm]
      exact keep _ _ (s4 _ _ m3) LS
    · rw [hm]
      exact keep _ _ d4 DS
    · rw [hm] at mx ⊢
      obtain ⟨a1, a2, a3, a4⟩ := sp4 x mx
      have e0 : phiM ([] : List Blk) x = fun _ => 0 := by funext y; rfl
      show SpD a _ (f x).1 (f x).2 18 r (phiM ([] : List Blk) x)
      rw [e0]
      refine a1.keep (fun o e => keep _ _ e fun z => ?_) (fun o e => keep _ _ e fun z => ?_)
      · rw [z, f3] at a2; cases a2
      · rw [z, f3] at a3; cases a3
    · rw [hm]; exact u4
    · rw [hm]
      show upd _ S _ bD = _
      rw [upd_ne bS, upd_ne mb.symm, upd_ne bS, upd_same]
      rfl
    · rw [hm]
      show upd _ S _ mD = _
      rw [upd_ne mS, upd_same]
      rfl
    · rw [hm]; exact mb.symm
    · rw [hm]; exact fun _ m => (nomatch m)
    · rw [hm]; exact nd
    · rw [hm]; exact h08
    · rw [hm]; exact fun _ m => (nomatch m)
    · rw [hm]; exact List.nodup_nil
    · rw [hm]; exact fun _ m => (nomatch m)
    · rw [hm]; exact List.nodup_nil
    · rw [hm]; exact fun _ m => (nomatch m)
    · rw [hm] at r
      cases r with
      | s => exact .inl rfl
      | ml => exact .inr nL0
      | spd => exact .inr (freshH _ nD DS)
      | bd => exact .inr (freshH _ (same_none s4 nb4) bS)
      | md => exact .inr (freshH _ (same_none s4 nm4) mS)
      | s1 x mx =>
        by_cases z : (f x).1 = S
        · exact .inl z
        · exact .inr (freshH _ (sp4 x mx).2.1 z)
      | s2 x mx =>
        by_cases z : (f x).2 = S
        · exact .inl z
        · exact .inr (freshH _ (sp4 x mx).2.2.1 z)
      | t b mb => exact nomatch mb
      | pt b mb => exact nomatch mb
      | w b mb => exact nomatch mb
      | q b e mb me => exact nomatch mb
theorem sc_Store_put : FnScope ["self", "words", "avoid", "candidates", "disks", "places", "pointer", "disk", "free"] ["self", "words", "avoid"] (defScope s_Store_put) := ⟨rfl, rfl, rfl, by decide +kernel, rfl, by decide +kernel, by decide +kernel⟩
theorem ok_Store_put (T : Txt w K mg a) : FnOk P w K mg base (L2.CX P w) 3 a.f_Store_put a.d_Store_put ["self", "words", "avoid"] (sp_Store_put K a) := by
  refine T.F_Store_put.okX sc_Store_put (fun vs H Q E h => ?len) (fun cdv A outer s H vs Q E hr h => ?body)
  case len =>
    exact sp_Store_put_len h
  case body =>
    obtain ⟨S, W, A', m, ws, av, ims, rfl, h, hW, nWR, hA, hI, l100, l9, r100, l8, d1, w8, kE, kQ⟩ := h
    have hw := T.hw
    subst hw
    refine ⟨_, (pss_cons (ps_if (pt_cmpR op_gt (pe_callB call_len_seq (by rfl) T.n_len PySem.boot_len (pa_cons (pv 1) pa_nil)) (pe_op op_mul (pe_const T.g_MAX_PAYLOAD) (pe_fld (pv 0) rfl)) (nomark _))
      (pss_one (ps_raise rfl (takes_of rfl rfl rfl rfl) (pmk_own PySem.F.excBase_ValueError T.x_InvalidArgument T.g_InvalidArgument T.k_InvalidArgument (raises_own T.b_InvalidArgument T.t_InvalidArgument) (by exact rfl))))
      pss_nil)
      (Evl.pss_cut (ps_setLc (i := 3) (own := [("disk", 7), ("free", 8)]) (g := (gTup K 2 (gCons (gName 7) (gCons (gName 8) gNil)))) (by rfl) sc_Store_put.nd rfl rfl (sw_true rfl rfl rfl (by decide +kernel)) (pi_list (pe_meth0 (pv 0) T.cl_Store T.m_Store_free_counts (ok_Store_free_counts T) (hr.mono (by decide)) T.d_Store_free_counts .nil pass0)) (blkOk_by (own := [("disk", 7), ("free", 8)]) (N := ["self", "words", "avoid", "candidates", "disks", "places", "pointer", "disk", "free"]) (sc := defScope s_Store_put) (by decide +kernel))
      (fun _ _ _ _ _ => (pg_tup rfl (pgs_cons (pg_name (i := 7) sc_Store_put.nd rfl (Or.inl rfl)) (pgs_cons (pg_name (i := 8) sc_Store_put.nd rfl (Or.inl rfl)) pgs_nil)))) (fun _ _ _ _ _ => (pts_one (pt_cmpR (by exact op_notIn_seq : OpR _ _ (rIn K true)) (pv 7) (pv 2) (by rfl)))) (fun _ _ _ _ _ => (pe_tup (pa_cons (pv 7) (pa_cons (pe_call (ok_is_present T) (hr.mono (by decide)) rfl T.g_is_present T.F_is_present.kp T.d_is_present .nil pass0 (pa_cons (by exact (pe_fld (pv 0) rfl) : PE _ _ (tFld K _ _)) (pa_cons (pv 7) pa_nil))) (pa_cons (pv 8) pa_nil))))))
      (Evl.pss_cut (ps_set (i := 4) sc_Store_put.nd rfl (Or.inl rfl) (pe_call (ok_choose_disks T) (hr.mono (by decide)) rfl T.g_choose_disks T.F_choose_disks.kp T.d_choose_disks .nil (passes_call (takes_of rfl rfl rfl rfl) (fun _ _ _ _ z => z)) (pa_cons (pv 3) (pa_cons (pe_op op_add (pe_fld (pv 0) rfl) (pe_fld (pv 0) rfl)) pa_nil))))
      (Evl.pss_cut (ps_set (i := 5) sc_Store_put.nd rfl (Or.inl rfl) (pe_callTy call_tuple_of (by rfl) T.n_tuple (by decide +kernel) (pa_cons (pe_lc (own := [("disk", 7)]) (g := (gName 7)) (by rfl) sc_Store_put.nd (pi_list (pv 4)) (blkOk_by (own := [("disk", 7)]) (N := ["self", "words", "avoid", "candidates", "disks", "places", "pointer", "disk", "free"]) (sc := defScope s_Store_put) (by decide +kernel))
      (fun _ _ _ _ _ => (pg_name (i := 7) sc_Store_put.nd rfl (Or.inl rfl))) (fun _ _ _ _ _ => pts_nil) (fun _ _ _ _ _ => (pe_tup (pa_cons (pv 7) (pa_cons (pe_meth0 (pe_dget (hu_of hr) (by exact (pe_fld (pv 0) rfl) : PE _ _ (tFld K _ _)) (pv 7) (fun _ _ => rfl)) T.cl_Space T.m_Space_take (ok_Space_take T) (hr.mono (by decide)) T.d_Space_take .nil passL) pa_nil))))) pa_nil)))
      (pss_cons (ps_set (i := 6) sc_Store_put.nd rfl (Or.inl rfl) (pe_tup (pa_cons (pe_fld (pv 0) rfl) (pa_cons (pe_fld (pv 0) rfl) (pa_cons (pe_callB call_len_seq (by rfl) T.n_len PySem.boot_len (pa_cons (pv 1) pa_nil)) (pa_cons (pv 5) pa_nil))))))
      (pss_cons (ps_fldaug (pv 0) pe_int ip_add)
      (pss_cons (ps_nput hr.units (pe_fld (pv 0) rfl) (pv 6) pe_bl rfl)
      (pss_cons (ps_nput hr.units (pe_fld (pv 0) rfl) (pv 6) (pe_callTy call_list_of (by rfl) T.n_list (by decide +kernel) (pa_cons (pv 1) pa_nil)) rfl)
      (pss_one (ps_ret (pv 6))))))))))), ?_⟩
    refine ⟨_, rfl, W, _, rfl, .inl hW, _, rfl, S, _, m.dx, _, _, rfl, h.hS, T.cl_Store, T.na_Store_data, sf_data m, _, _, rfl, rfl, .inl ⟨by decide, by decide⟩, _, _, rfl, rfl, _, rfl, ite2 (fun z => ?_) (fun z => ?_)⟩
    · refine kE ?_ _ (Same.refl _)
      have z := of_decide_eq_true z
      rw [List.length_map] at z
      omega
    have lw : ws.length ≤ 1000 * m.data := by
      have : ¬ (1000 : Int) * (m.data : Int) < ((ws.map V.int).length : Nat) := fun y => z (decide_eq_true y)
      rw [List.length_map] at this
      omega
    obtain ⟨c1, c2, c3, kQ⟩ := kQ lw
    clear kE z
    -- candidates
    obtain ⟨cs, hcs⟩ : ∃ cs, cs = m.ms.filter fun d => decide (d ∉ av) := ⟨_, rfl⟩
    rw [← hcs] at c1
    have csub : ∀ d ∈ cs, d ∈ m.ms ∧ d ∉ av := fun d md => by
      rw [hcs] at md
      exact ⟨(List.mem_filter.mp md).1, of_decide_eq_true (List.mem_filter.mp md).2⟩
    have cnd : cs.Nodup := by
      rw [hcs]
      exact (h.nd.imp fun h => Int.ne_of_lt h).sublist List.filter_sublist
    refine ⟨fun σ H' => ∃ (C : Addr) (L : List Cd), σ = [some (.ref S), some (.ref W), some (.ref A'), some (.ref C), none, none, none, none, none] ∧ Same H H' ∧ CdL K H' C L ∧ L.map (fun c => (c.d, c.f)) = cs.map fun d => (d, (m.rows : Int) - (18 : Nat) - (usedM m d : Nat)), ?_, ?_⟩
    · refine ⟨_, rfl, S, m.dx, _, rfl, h.hS, by kernel_rfl, S, m, rfl, h, l8, fun FC FL H1 s1 nFC dFC hFC eFC => ⟨FC, rfl, ⟨_, SqL.of dFC⟩, fun C nC => lc_list (K := K) (a := FC) (xs := FL.map fun e => V.ref e.1) (fun i H' => Same H1 H' ∧ ∃ L : List Cd, H' C = some (.lst (L.map cdV)) ∧ (∀ e ∈ L, H' e.t = some (.tup [.int e.d, .bl e.b, .int e.f])) ∧ L.map (fun c => (c.d, c.f)) = ((FL.take i).map (·.2)).filter fun q => decide (q.1 ∉ av)) ⟨Same.new nC, [], upd_same, fun _ m => (nomatch m), rfl⟩ (fun i H' _ q => q.1.seq (SqL.of dFC)) ?_ ?_⟩⟩
      · rintro i y H2 hy ⟨s2, L, dL, hL, eL⟩
        obtain ⟨e, he, rfl⟩ : ∃ e, FL[i]? = some e ∧ y = V.ref e.1 := by
          rw [List.getElem?_map] at hy
          cases z : FL[i]? with
          | none => rw [z] at hy; cases hy
          | some e => rw [z] at hy; exact ⟨e, rfl, (Option.some.inj hy).symm⟩
        have me := List.mem_of_getElem? he
        have md : e.2.1 ∈ m.ms := by
          have : e.2 ∈ FL.map (·.2) := List.mem_map.mpr ⟨e, me, rfl⟩
          rw [eFC] at this
          obtain ⟨d, hd, z⟩ := List.mem_map.mp this
          rw [← z]
          exact hd
        have s02 := s1.trans s2
        have lL : L.length ≤ 8 := by
          have l1 := congrArg List.length eL
          have l2 := congrArg List.length eFC
          have l3 := List.length_filter_le (fun q : Int × Int => decide (q.1 ∉ av)) ((FL.take i).map (·.2))
          rw [List.length_map] at l1 l3
          rw [List.length_map, List.length_map] at l2
          rw [List.length_take] at l3
          omega
        have hA2 : SqL K H2 A' (av.map V.int) ∨ SqT K H2 A' (av.map V.int) := hA.imp s02.seq s02.tup
        refine ⟨e.1, _, rfl, SqT.of (s2 _ _ (hFC e me)), rfl, _, _, rfl, _, _, rfl, rfl, ?_⟩
        refine ⟨rfl, _, rfl, _, rfl, A', _, rfl, hA2, rfl, flat_intsS _, _, rfl, ?_⟩
        rw [inV_intsS]
        have ft : ((FL.take (i + 1)).map (·.2)).filter (fun q => decide (q.1 ∉ av)) = ((FL.take i).map (·.2)).filter (fun q => decide (q.1 ∉ av)) ++ if e.2.1 ∉ av then [e.2] else [] := by
          rw [take_snoc he, List.map_append, List.filter_append]
          congr 1
          simp only [List.map_cons, List.map_nil, List.filter_cons, List.filter_nil, decide_eq_true_eq]
        by_cases c : e.2.1 ∈ av
        · rw [decide_eq_true c]
          refine iteF ⟨s2, L, dL, hL, ?_⟩
          rw [ft, if_neg (fun z => z c), List.append_nil]
          exact eL
        · rw [decide_eq_false c]
          have st2 := h.same s02
          refine iteT ⟨_, rfl, _, rfl, S, _, m.dx, _, _, rfl, st2.hS, T.cl_Store, T.na_Store_images, sf_images m, _, rfl, m.I, ims, e.2.1.toNat, by rw [Int.toNat_of_nonneg (h.m0 _ md).1]; rfl, s02.seq hI, l100, _, rfl, by show 3 ≤ sizeLine; decide, fun t nt => ?_⟩
          have sT := Same.new (o := .tup [V.int e.2.1, V.bl (presentM ims e.2.1.toNat), V.int e.2.2]) nt
          have dT : upd H2 t (.tup [V.int e.2.1, V.bl (presentM ims e.2.1.toNat), V.int e.2.2]) t = some (.tup [.int e.2.1, .bl (presentM ims e.2.1.toNat), .int e.2.2]) := upd_same
          generalize upd H2 t (.tup [V.int e.2.1, V.bl (presentM ims e.2.1.toNat), V.int e.2.2]) = H3 at sT dT ⊢
          have tC : t ≠ C := (ne_of_none dL nt).symm
          refine ⟨_, sT _ _ dL, small _ (by rw [List.length_map]; omega), same_put (s2.trans sT) nC, L ++ [⟨t, e.2.1, presentM ims e.2.1.toNat, e.2.2⟩], by rw [upd_same, List.map_append]; rfl, fun x mx => ?_, by rw [ft, if_pos c, List.map_append, eL]; rfl⟩
          rcases List.mem_append.mp mx with mx | mx
          · rw [upd_ne (ne_of (hL x mx) dL (by intro z; cases z))]
            exact sT _ _ (hL x mx)
          · rw [List.mem_singleton.mp mx, upd_ne tC]
            exact dT
      rintro H2 ⟨s2, L, dL, hL, eL⟩
      rw [List.length_map, List.take_length, eFC] at eL
      refine ⟨C, L, rfl, s1.trans s2, ⟨SqL.of dL, hL⟩, ?_⟩
      rw [eL, hcs, List.filter_map]
      rfl
    rintro σ H1 ⟨C, L, rfl, s1, hC, eL⟩
    have h1 := h.same s1
    -- disks
    have lL : L.length = cs.length := by
      have := congrArg List.length eL
      rwa [List.length_map, List.length_map] at this
    have cs8 : cs.length ≤ 8 := by
      rw [hcs]
      exact Nat.le_trans (List.length_filter_le _ _) l8
    have eD : L.map (·.d) = cs := by
      have := congrArg (List.map Prod.fst) eL
      rw [List.map_map, List.map_map] at this
      have e2 : cs.map (Prod.fst ∘ fun d => (d, (m.rows : Int) - (18 : Nat) - (usedM m d : Nat))) = cs := by
        conv => rhs; rw [← List.map_id cs]
        rfl
      rw [e2] at this
      exact this
    have eU : usableM L = L := List.filter_eq_self.mpr fun c mc => decide_eq_true (by
      have : (c.d, c.f) ∈ L.map (fun c => (c.d, c.f)) := List.mem_map.mpr ⟨c, mc, rfl⟩
      rw [eL] at this
      obtain ⟨d, md, z⟩ := List.mem_map.mp this
      have u := h.used d
      have z2 : (m.rows : Int) - (18 : Nat) - (usedM m d : Nat) = c.f := congrArg Prod.snd z
      omega)
    refine ⟨fun σ H' => ∃ (DK : Addr) (ns : List Int), σ = [some (.ref S), some (.ref W), some (.ref A'), some (.ref C), some (.ref DK), none, none, none, none] ∧ Same H H' ∧ ¬ StR S m DK ∧ H' DK = some (.lst (ns.map V.int)) ∧ ns.Pairwise (· < ·) ∧ ns.length = m.data + m.par ∧ ∀ d ∈ ns, d ∈ m.ms ∧ d ∉ av, ?_, ?_⟩
    · refine ⟨_, rfl, _, rfl, S, _, m.dx, _, _, rfl, h1.hS, T.cl_Store, T.na_Store_data, sf_data m, _, rfl, S, _, m.dx, _, _, rfl, h1.hS, T.cl_Store, T.na_Store_parity, sf_parity m, _, _, rfl, rfl, C, L, m.data + m.par, rfl, hC, by omega, by omega, by rw [eD]; exact cnd, fun b => absurd b (by omega), fun _ b => absurd b (by rw [eU]; omega), fun _ _ DK ns H2 s2 nDK dDK perm asc => ?_⟩
      rw [eU] at perm
      obtain ⟨b1, b2, b3⟩ := best_facts (U := L) (w := m.data + m.par) (by rw [eD]; exact cnd) (by omega)
      have nn : ns.Nodup := perm.nodup_iff.mpr b2
      refine ⟨DK, ns, rfl, s1.trans s2, h1.fresh nDK, dDK, (asc.and nn).imp fun h => by omega, by rw [perm.length_eq, b1], fun d md => ?_⟩
      obtain ⟨e, me, z⟩ := b3 d (perm.mem_iff.mp md)
      refine csub d ?_
      rw [← eD, ← z]
      exact List.mem_map.mpr ⟨e, me, rfl⟩
    rintro σ H2 ⟨DK, ns, rfl, s2, dkR, dDK, asc, ln, hns⟩
    clear eU eD lL cs8 hC eL h1 s1 csub cnd
    -- places
    have h2 := h.same s2
    refine ⟨fun σ H' => ∃ (PT : Addr) (PL : List (Addr × Int × Int)), σ = [some (.ref S), some (.ref W), some (.ref A'), some (.ref C), some (.ref DK), some (.ref PT), none, none, none] ∧ (∀ x o, H x = some o → ¬ StR S m x → H' x = some o) ∧ StorP a H' S m (psiT m.bl PL) ∧ H' PT = some (.tup (PL.map fun q => V.ref q.1)) ∧ (∀ e ∈ PL, H' e.1 = some (.tup [.int e.2.1, .int e.2.2]) ∧ H e.1 = none) ∧ PL.map (fun e => e.2.1) = ns ∧ (∀ e ∈ PL, (18 ≤ e.2.2 ∧ e.2.2 < m.rows) ∧ phiM m.bl e.2.1 e.2.2 = 0) ∧ H PT = none, ?_, ?_⟩
    · refine ⟨_, rfl, DK, rfl, ⟨_, SqL.of dDK⟩, fun R nR => lc_list (K := K) (a := DK) (xs := ns.map V.int) (fun j H' => ∃ PL : List (Addr × Int × Int), (∀ x o, H2 x = some o → ¬ StR S m x → H' x = some o) ∧ StorP a H' S m (psiT m.bl PL) ∧ H' R = some (.lst (PL.map fun q => V.ref q.1)) ∧ (∀ e ∈ PL, H' e.1 = some (.tup [.int e.2.1, .int e.2.2]) ∧ H2 e.1 = none) ∧ PL.map (fun e => e.2.1) = ns.take j ∧ ∀ e ∈ PL, (18 ≤ e.2.2 ∧ e.2.2 < m.rows) ∧ phiM m.bl e.2.1 e.2.2 = 0) ⟨[], fun x o e _ => Same.new nR _ _ e, ?_, upd_same, fun _ m => (nomatch m), rfl, fun _ m => (nomatch m)⟩ (fun j H' _ q => by obtain ⟨_, q, _⟩ := q; exact SqL.of (q _ _ dDK dkR)) ?_ ?_⟩
      · refine (h2.put (h2.fresh nR)).psi fun d _ => ?_
        funext r
        rfl
      · rintro j y H3 hy ⟨PL, fr, st, dR, hPL, ePL, rPL⟩
        obtain ⟨d, hd, rfl⟩ := int_item hy
        have mdn := List.mem_of_getElem? hd
        obtain ⟨md, nav⟩ := hns d mdn
        have lPL : PL.length = j := by
          have := congrArg List.length ePL
          have := item_lt hd
          rw [List.length_map, List.length_take] at *
          omega
        have dn : d ∉ ns.take j := fun z => by
          obtain ⟨j', hj'⟩ := List.mem_iff_getElem?.mp z
          rw [List.getElem?_take] at hj'
          split at hj'
          · next lt =>
            rw [List.pairwise_iff_getElem] at asc
            have l1 := item_lt hj'
            have l2 := item_lt hd
            have := asc j' j l1 l2 lt
            rw [show ns[j'] = d from Option.some.inj ((List.getElem?_eq_getElem l1).symm.trans hj'), show ns[j] = d from Option.some.inj ((List.getElem?_eq_getElem l2).symm.trans hd)] at this
            omega
          · cases hj'
        have eps : psiT m.bl PL d = phiM m.bl d := by
          funext r
          unfold psiT
          rw [if_neg fun z => ?_]
          obtain ⟨q, mq, z⟩ := List.any_eq_true.mp z
          have z := of_decide_eq_true z
          refine dn ?_
          rw [← ePL]
          exact List.mem_map.mpr ⟨q, mq, by rw [z]⟩
        obtain ⟨dx', low, M, e1, _⟩ := id (st.sp d md)
        refine ⟨rfl, _, rfl, _, rfl, S, _, m.dx, _, _, rfl, st.hS, T.cl_Store, T.na_Store_spaces, sf_spaces m, _, rfl, m.spd, _, rfl, st.spget md, (m.sp d).1, dx', _, rfl, e1, rfl, (m.sp d).1, (m.sp d).2, 18, m.rows, psiT m.bl PL d, rfl, st.sp d md, by omega, fun z => absurd z (by rw [eps]; exact h.room c2 d), fun r hr hz _ H4 sp4 fr4 => ⟨by show 2 ≤ sizeLine; decide, fun t nt => ?_⟩⟩
        rw [eps] at hz sp4
        have st4 := st.space md sp4 fr4
        have nRs : R ≠ (m.sp d).1 ∧ R ≠ (m.sp d).2 := by
          obtain ⟨_, _, _, g1, g2, _⟩ := h2.sp d md
          exact ⟨(ne_of_none g1 nR).symm, (ne_of_none g2 nR).symm⟩
        have dR4 := fr4 _ _ dR nRs.1 nRs.2
        have sT := Same.new (o := .tup [V.int d, V.int r]) nt
        have dT : upd H4 t (.tup [V.int d, V.int r]) t = some (.tup [.int d, .int r]) := upd_same
        have st5 := st4.same sT
        generalize upd H4 t (.tup [V.int d, V.int r]) = H5 at sT dT st5 ⊢
        have tR : t ≠ R := (ne_of_none dR4 nt).symm
        have nt2 : H2 t = none := by
          cases z : H2 t with
          | none => rfl
          | some o =>
            by_cases c : StR S m t
            · have := st4.there c
              obtain ⟨o', e⟩ := this
              rw [nt] at e
              cases e
            · have e := fr _ _ z c
              have e := fr4 _ _ e (fun y => c (by rw [y]; exact .s1 d md)) (fun y => c (by rw [y]; exact .s2 d md))
              rw [nt] at e
              cases e
        refine ⟨_, sT _ _ dR4, small _ (by rw [List.length_map]; have := item_lt hd; omega), PL ++ [(t, d, r)], fun x o ex n => ?_, ?_, ?_, fun e me => ?_, ?_, fun e me => ?_⟩
        · rw [upd_ne (ne_of_none ex nR)]
          exact sT _ _ (fr4 _ _ (fr x o ex n) (fun y => n (by rw [y]; exact .s1 d md)) fun y => n (by rw [y]; exact .s2 d md))
        · refine (st5.put (h2.fresh nR)).psi fun x mx => ?_
          funext y
          show (if x = d then upF (phiM m.bl d) r 1 else psiT m.bl PL x) y = psiT m.bl (PL ++ [(t, d, r)]) x y
          unfold psiT
          rw [List.any_append]
          by_cases c : x = d
          · subst c
            rw [if_pos rfl]
            have n0 : (PL.any fun q => decide (q.2 = (x, y))) = false := by
              rw [Bool.eq_false_iff]
              intro z
              obtain ⟨q, mq, z⟩ := List.any_eq_true.mp z
              have z := of_decide_eq_true z
              refine dn ?_
              rw [← ePL]
              exact List.mem_map.mpr ⟨q, mq, by rw [z]⟩
            rw [n0, Bool.false_or]
            unfold upF
            by_cases c2 : y = r
            · subst c2
              rw [if_pos rfl]
              simp
            · rw [if_neg c2, if_neg]
              intro z
              have z := of_decide_eq_true (by simpa using z : decide ((x, r) = (x, y)) = true)
              exact c2 (congrArg Prod.snd z).symm
          · rw [if_neg c]
            have n0 : ([(t, d, r)].any fun q => decide (q.2 = (x, y))) = false := by
              rw [Bool.eq_false_iff]
              intro z
              have z := of_decide_eq_true (by simpa using z : decide ((d, r) = (x, y)) = true)
              exact c (congrArg Prod.fst z).symm
            rw [n0, Bool.or_false]
        · rw [upd_same, List.map_append]
          rfl
        · rcases List.mem_append.mp me with me | me
          · obtain ⟨g1, g2⟩ := hPL e me
            refine ⟨?_, g2⟩
            rw [upd_ne (ne_of g1 dR (by intro z; cases z))]
            refine sT _ _ (fr4 _ _ g1 ?_ ?_)
            · exact ne_of g1 e1 (by intro z; cases z)
            · obtain ⟨_, _, _, _, g3, _⟩ := st.sp d md
              exact ne_of g1 g3 (by intro z; cases z)
          · rw [List.mem_singleton.mp me]
            exact ⟨by rw [upd_ne tR]; exact dT, nt2⟩
        · rw [List.map_append, ePL, take_snoc hd]
          rfl
        · rcases List.mem_append.mp me with me | me
          · exact rPL e me
          · rw [List.mem_singleton.mp me]
            exact ⟨hr, hz⟩
      rintro H3 ⟨PL, fr, st, dR, hPL, ePL, rPL⟩
      rw [List.length_map, List.take_length] at ePL
      refine ⟨R, _, rfl, .inl ⟨SqL.of dR, fun PT nPT => ?_⟩⟩
      have sP := Same.new (o := .tup (PL.map fun q => V.ref q.1)) nPT
      have nP2 : H PT = none := by
        cases z : H PT with
        | none => rfl
        | some o =>
          by_cases c : StR S m PT
          · obtain ⟨o', e⟩ := st.there c
            rw [nPT] at e
            cases e
          · have e := fr _ _ (s2 _ _ z) c
            rw [nPT] at e
            cases e
      exact ⟨PT, PL, rfl, fun x o ex n => sP _ _ (fr _ _ (s2 _ _ ex) n), st.same sP, upd_same, fun e me => ⟨sP _ _ (hPL e me).1, same_none s2 (hPL e me).2⟩, ePL, rPL, nP2⟩
    rintro σ H3 ⟨PT, PL, rfl, fr, st, dPT, hPL, ePL, rPL, nPT⟩
    clear h2 dkR dDK
    have hW3 : SqL K H3 W (ws.map V.int) := seq_keep hW fun o e => fr _ _ e nWR
    refine ⟨_, rfl, S, _, m.dx, _, _, rfl, st.hS, T.cl_Store, T.na_Store_epoch, sf_epoch m, _, rfl, S, _, m.dx, _, _, rfl, st.hS, T.cl_Store, T.na_Store_made, sf_made m, _, rfl, W, _, rfl, .inl hW3, _, rfl, by show 4 ≤ sizeLine; decide, fun T' nT => ?_⟩
    rw [List.length_map]
    have sT := Same.new (o := .tup [V.int m.ep, V.int (m.made : Int), V.int (ws.length : Nat), V.ref PT]) nT
    have dT : upd H3 T' (.tup [V.int m.ep, V.int (m.made : Int), V.int (ws.length : Nat), V.ref PT]) T' = some (.tup [.int m.ep, .int (m.made : Int), .int (ws.length : Int), .ref PT]) := upd_same
    have st4 := st.same sT
    have nT0 : H T' = none := by
      cases z : H T' with
      | none => rfl
      | some o =>
        by_cases c : StR S m T'
        · obtain ⟨o', e⟩ := st.there c
          rw [nT] at e
          cases e
        · have e := fr _ _ z c
          rw [nT] at e
          cases e
    have hW4 := sT.seq hW3
    have dPT4 := sT _ _ dPT
    have hPL4 : ∀ e ∈ PL, _ := fun e me => sT _ _ (hPL e me).1
    have fr4 : ∀ x o, H x = some o → ¬ StR S m x → upd H3 T' (.tup [V.int m.ep, V.int (m.made : Int), V.int (ws.length : Nat), V.ref PT]) x = some o := fun x o ex n => sT _ _ (fr x o ex n)
    have nTR := st.fresh nT
    generalize upd H3 T' (.tup [V.int m.ep, V.int (m.made : Int), V.int (ws.length : Nat), V.ref PT]) = H4 at sT dT st4 hW4 dPT4 hPL4 fr4 ⊢
    refine ⟨_, rfl, S, _, m.dx, _, _, rfl, st4.hS, T.cl_Store, T.na_Store_made, sf_made m, _, _, rfl, rfl, m.dx, _, st4.hS, (by show 10 < 1000; decide), ?_⟩
    obtain ⟨m', hm'⟩ : ∃ m' : SM, m' = { m with made := m.made + 1 } := ⟨_, rfl⟩
    have e5 : putF "_made" (.int ((m.made : Int) + 1)) (sflds m) = sflds m' := by
      rw [hm']
      exact sf_set_made m (m.made + 1)
    show tSeq _ _ _ _ (upd H4 S (.ins a.c_Store m.dx (putF "_made" (.int ((m.made : Int) + 1)) (sflds m))))
    rw [e5]
    have hS5 : upd H4 S (.ins a.c_Store m.dx (sflds m')) S = some (.ins a.c_Store m.dx (sflds m')) := upd_same
    have k5 : ∀ x o, H4 x = some o → x ≠ S → upd H4 S (.ins a.c_Store m.dx (sflds m')) x = some o := fun x o e n => by rw [upd_ne n]; exact e
    have bS : m.bD ≠ S := (ne_of st4.hS st4.hb (by intro z; cases z)).symm
    have mS : m.mD ≠ S := (ne_of st4.hS st4.hM (by intro z; cases z)).symm
    generalize upd H4 S (.ins a.c_Store m.dx (sflds m')) = H5 at hS5 k5 ⊢
    obtain ⟨b, hb⟩ : ∃ b : Blk, b = ⟨T', PT, 0, m.made, PL, ws⟩ := ⟨_, rfl⟩
    have tup5 : ∀ c ys, H4 c = some (.tup ys) → H5 c = some (.tup ys) := fun c ys e => k5 _ _ e (ne_of e st4.hS (by intro z; cases z))
    have nk4 : NK H4 (keyB m.ep b) (.ref T') := by
      rw [hb]
      exact .tup dT (.cons (.num _) (.cons (.num _) (.cons (.num _) (.cons (.tup dPT4 (nk_places hPL4)) .nil))))
    have nk5 := NK.at tup5 _ _ nk4
    have kd := keyB_depth m.ep b
    have newk : ∀ c ∈ m.bl, keyB m.ep c ≠ keyB m.ep b := fun c mc z => by
      have := keyB_inj z
      have h2 := st4.ser c mc
      rw [this, hb] at h2
      exact Nat.lt_irrefl _ h2
    have lb : (bxs m.ep m.bl).length ≤ 50 := by unfold bxs; rw [List.length_map]; exact c3
    have lm : (mxs m.ep m.bl).length ≤ 50 := by unfold mxs; rw [List.length_map]; exact c3
    have hb5 := k5 _ _ st4.hb bS
    refine ⟨_, rfl, S, _, m.dx, _, _, rfl, hS5, T.cl_Store, T.na_Store_blocks, by rw [sf_blocks m', hm'], _, rfl, m.bD, T', _, keyB m.ep b, rfl, hb5, st4.bkeys.at tup5, rfl, nk5, kd, fix_bl _, small _ (by omega), ?_⟩
    have tup6 : ∀ c ys, H5 c = some (.tup ys) → upd H5 m.bD (L2.NO a.wd m.bD (L2.putN (bxs m.ep m.bl) (keyB m.ep b) T' (.bl true))) c = some (.tup ys) := fun c ys e => by
      rw [upd_ne (ne_of e hb5 (by intro z; cases z))]
      exact e
    have nWS : W ≠ S := fun z => nWR (by rw [z]; exact .s)
    have nWb : W ≠ m.bD := fun z => nWR (by rw [z]; exact .bd)
    have hW6 : SqL K (upd H5 m.bD (L2.NO a.wd m.bD (L2.putN (bxs m.ep m.bl) (keyB m.ep b) T' (.bl true)))) W (ws.map V.int) := seq_off (seq_keep hW4 fun o e => k5 _ _ e nWS) nWb
    refine ⟨_, rfl, W, _, rfl, .inl hW6, fun W2 nW2 => ?_⟩
    obtain ⟨H6, hH6⟩ : ∃ H6, H6 = upd H5 m.bD (L2.NO a.wd m.bD (L2.putN (bxs m.ep m.bl) (keyB m.ep b) T' (.bl true))) := ⟨_, rfl⟩
    have k6 : ∀ x o, H5 x = some o → x ≠ m.bD → H6 x = some o := fun x o e n => by rw [hH6, upd_ne n]; exact e
    have b6 : H6 m.bD = some (L2.NO a.wd m.bD (L2.putN (bxs m.ep m.bl) (keyB m.ep b) T' (.bl true))) := by rw [hH6]; exact upd_same
    replace tup6 : ∀ c ys, H5 c = some (.tup ys) → H6 c = some (.tup ys) := fun c ys e => by rw [hH6]; exact tup6 c ys e
    have nW2' : H6 W2 = none := by rw [hH6]; exact nW2
    have s7 : Same H6 (upd H6 W2 (.lst (ws.map V.int))) := Same.new nW2'
    have d7 : upd H6 W2 (.lst (ws.map V.int)) W2 = some (.lst (ws.map V.int)) := upd_same
    show tFld _ _ _ _ (upd (upd H5 m.bD (L2.NO a.wd m.bD (L2.putN (bxs m.ep m.bl) (keyB m.ep b) T' (.bl true)))) W2 (.lst (ws.map V.int))) _
    rw [← hH6]
    obtain ⟨H7, hH7⟩ : ∃ H7, H7 = upd H6 W2 (.lst (ws.map V.int)) := ⟨_, rfl⟩
    rw [← hH7] at s7 d7 ⊢
    have mb : m.mD ≠ m.bD := st4.bm.symm
    have hS7 : H7 S = some (.ins a.c_Store m.dx (sflds m')) := s7 _ _ (k6 _ _ hS5 (fun z => bS z.symm))
    have hM7 := s7 _ _ (k6 _ _ (k5 _ _ st4.hM mS) mb)
    have tup7 : ∀ c ys, H4 c = some (.tup ys) → H7 c = some (.tup ys) := fun c ys e => s7 _ _ (tup6 _ _ (tup5 _ _ e))
    refine ⟨_, rfl, S, _, m.dx, _, _, rfl, hS7, T.cl_Store, T.na_Store_memory, by rw [sf_memory m', hm'], _, rfl, m.mD, T', _, keyB m.ep b, rfl, hM7, st4.mkeys.at tup7, rfl, NK.at tup7 _ _ nk4, kd, fix_ref _, small _ (by omega), ?_⟩
    have pb : L2.putN (bxs m.ep m.bl) (keyB m.ep b) T' (.bl true) = bxs m.ep m.bl ++ [(keyB m.ep b, T', V.bl true)] := putN_new (fun x mx => by
      obtain ⟨c, mc, rfl⟩ := List.mem_map.mp mx
      exact newk c mc) _ _
    have pm : L2.putN (mxs m.ep m.bl) (keyB m.ep b) T' (.ref W2) = mxs m.ep m.bl ++ [(keyB m.ep b, T', V.ref W2)] := putN_new (fun x mx => by
      obtain ⟨c, mc, rfl⟩ := List.mem_map.mp mx
      exact newk c mc) _ _
    obtain ⟨HF, hHF⟩ : ∃ HF, HF = upd H7 m.mD (L2.NO a.wd m.mD (L2.putN (mxs m.ep m.bl) (keyB m.ep b) T' (.ref W2))) := ⟨_, rfl⟩
    have kF : ∀ x o, H4 x = some o → x ≠ S → x ≠ m.bD → x ≠ m.mD → HF x = some o := fun x o e n1 n2 n3 => by
      rw [hHF, upd_ne n3]
      exact s7 _ _ (k6 _ _ (k5 _ _ e n1) n2)
    have kX : ∀ x o, H4 x = some o → (∀ q fs, o ≠ .ins a.c_Store q fs) → (∀ f, o ≠ .ext f) → HF x = some o := fun x o e n1 n2 => kF x o e (ne_of e st4.hS (n1 _ _)) (ne_of e st4.hb (n2 _)) (ne_of e st4.hM (n2 _))
    have FS : HF S = some (.ins a.c_Store m.dx (sflds m')) := by rw [hHF, upd_ne mS.symm]; exact hS7
    have FB : HF m.bD = some (L2.NO a.wd m.bD (bxs m.ep m.bl ++ [(keyB m.ep b, T', V.bl true)])) := by
      rw [hHF, upd_ne mb.symm, ← pb]
      exact s7 _ _ b6
    have FM : HF m.mD = some (L2.NO a.wd m.mD (mxs m.ep m.bl ++ [(keyB m.ep b, T', V.ref W2)])) := by rw [hHF, upd_same, pm]
    have W2m : W2 ≠ m.mD := (ne_of_none (k6 _ _ (k5 _ _ st4.hM mS) mb) nW2').symm
    have FW : HF W2 = some (.lst (ws.map V.int)) := by rw [hHF, upd_ne W2m]; exact d7
    have nW20 : H W2 = none := by
      cases z : H W2 with
      | none => rfl
      | some o =>
        by_cases c : StR S m W2
        · obtain ⟨o', e⟩ := st4.there c
          by_cases c1 : W2 = S
          · rw [c1] at nW2'
            rw [k6 _ _ hS5 (fun z => bS z.symm)] at nW2'
            cases nW2'
          · by_cases c2 : W2 = m.bD
            · rw [c2, b6] at nW2'
              cases nW2'
            · rw [k6 _ _ (k5 _ _ e c1) c2] at nW2'
              cases nW2'
        · have e := fr4 _ _ z c
          have c1 : W2 ≠ S := fun y => c (by rw [y]; exact .s)
          have c2 : W2 ≠ m.bD := fun y => c (by rw [y]; exact .bd)
          rw [k6 _ _ (k5 _ _ e c1) c2] at nW2'
          cases nW2'
    have fin : Stor a HF S (m.put ⟨T', PT, W2, m.made, PL, ws⟩) := by
      have kb : keyB m.ep b = keyB m.ep ⟨T', PT, W2, m.made, PL, ws⟩ := by rw [hb]; rfl
      rw [kb] at FB FM
      refine ⟨?_, kX _ _ st4.hm (fun q fs z => nomatch z) (fun f z => nomatch z), kX _ _ st4.hs (fun q fs z => nomatch z) (fun f z => nomatch z), fun d md => ?_, st4.su, ?_, ?_, st4.bm, fun c mc => ?_, st4.nd, st4.m0, fun c mc => ?_, ?_, fun c mc => ?_, ?_, fun c mc => ?_⟩
      · rw [FS, hm']
        rfl
      · have e := psi_add m.bl ⟨T', PT, W2, m.made, PL, ws⟩ d
        show SpD a HF (m.sp d).1 (m.sp d).2 18 m.rows (phiM (m.bl ++ [⟨T', PT, W2, m.made, PL, ws⟩]) d)
        rw [← e]
        obtain ⟨dx', low, M, e1, e2, r⟩ := st4.sp d md
        refine ⟨dx', low, M, kF _ _ e1 (ne_of e1 st4.hS fun z => ?_) (ne_of e1 st4.hb (by intro z; cases z)) (ne_of e1 st4.hM (by intro z; cases z)), kX _ _ e2 (fun q fs z => nomatch z) (fun f z => nomatch z), r⟩
        injection z with _ _ z
        exact absurd (congrArg List.length z) (by show ¬ 4 = 10; decide)
      · show HF m.bD = some (L2.NO a.wd m.bD (bxs m.ep (m.bl ++ [⟨T', PT, W2, m.made, PL, ws⟩])))
        unfold bxs at FB ⊢
        rw [List.map_append]
        exact FB
      · show HF m.mD = some (L2.NO a.wd m.mD (mxs m.ep (m.bl ++ [⟨T', PT, W2, m.made, PL, ws⟩])))
        unfold mxs at FM ⊢
        rw [List.map_append]
        exact FM
      · rcases List.mem_append.mp mc with mc | mc
        · have h1 := st4.blk c mc
          exact ⟨kX _ _ h1.t (fun q fs z => nomatch z) (fun f z => nomatch z), kX _ _ h1.pt (fun q fs z => nomatch z) (fun f z => nomatch z), fun e me => kX _ _ (h1.q e me) (fun q fs z => nomatch z) (fun f z => nomatch z), kX _ _ h1.w (fun q fs z => nomatch z) (fun f z => nomatch z)⟩
        · rw [List.mem_singleton.mp mc]
          exact ⟨kX _ _ dT (fun q fs z => nomatch z) (fun f z => nomatch z), kX _ _ dPT4 (fun q fs z => nomatch z) (fun f z => nomatch z), fun e me => kX _ _ (hPL4 e me) (fun q fs z => nomatch z) (fun f z => nomatch z), FW⟩
      · rcases List.mem_append.mp mc with mc | mc
        · have := st4.ser c mc
          show c.s < m.made + 1
          omega
        · rw [List.mem_singleton.mp mc]
          exact Nat.lt_succ_self _
      · show ((m.bl ++ [(⟨T', PT, W2, m.made, PL, ws⟩ : Blk)]).map fun c => c.s).Nodup
        rw [List.map_append, List.nodup_append]
        refine ⟨st4.un, by simp, fun x mx y my z => ?_⟩
        obtain ⟨c, mc, e⟩ := List.mem_map.mp mx
        have := st4.ser c mc
        rw [List.mem_singleton.mp my] at z
        have z2 : x = m.made := z
        omega
      · rcases List.mem_append.mp mc with mc | mc
        · exact st4.row c mc
        · rw [List.mem_singleton.mp mc]
          exact fun e me => ⟨(hns _ (by rw [← ePL]; exact List.mem_map.mpr ⟨e, me, rfl⟩)).1, (rPL e me).1⟩
      · show ((m.bl ++ [(⟨T', PT, W2, m.made, PL, ws⟩ : Blk)]).flatMap fun (b : Blk) => b.L.map fun q => q.2).Nodup
        rw [List.flatMap_append, List.nodup_append]
        refine ⟨st4.dis, ?_, fun x mx y my z => ?_⟩
        · rw [List.flatMap_cons, List.flatMap_nil, List.append_nil]
          have p : (PL.map fun e => e.2.1).Pairwise (· < ·) := by rw [ePL]; exact asc
          unfold List.Nodup
          rw [List.pairwise_map] at p ⊢
          exact p.imp fun h z => by rw [z] at h; exact absurd h (Int.lt_irrefl _)
        · rw [List.flatMap_cons, List.flatMap_nil, List.append_nil] at my
          obtain ⟨c, mc, mx⟩ := List.mem_flatMap.mp mx
          obtain ⟨q, mq, e⟩ := List.mem_map.mp mx
          obtain ⟨q', mq', e'⟩ := List.mem_map.mp my
          have := phi_zero.mp (rPL q' mq').2
          refine this ⟨c, mc, q, mq, ?_⟩
          rw [e, z, ← e']
      · rcases List.mem_append.mp mc with mc | mc
        · exact st4.asc c mc
        · rw [List.mem_singleton.mp mc]
          show (PL.map fun e => e.2.1).Pairwise (· < ·)
          rw [ePL]
          exact asc
    have f2 : PL.length = m.data + m.par := by
      have := congrArg List.length ePL
      rw [List.length_map] at this
      exact this.trans ln
    have f3 : ∀ e ∈ PL, e.2.1 ∉ av := fun e me => by
      exact (hns _ (by rw [← ePL]; exact List.mem_map.mpr ⟨e, me, rfl⟩)).2
    have f4 : ∀ x o, H x = some o → ¬ StR S m x → HF x = some o := fun x o ex n => kF x o (fr4 x o ex n) (fun y => n (by rw [y]; exact .s)) (fun y => n (by rw [y]; exact .bd)) fun y => n (by rw [y]; exact .md)
    have f5 : ∀ x, StR S (m.put ⟨T', PT, W2, m.made, PL, ws⟩) x → StR S m x ∨ H x = none := fun x r => by
      cases r with
      | s => exact .inl .s
      | ml => exact .inl .ml
      | spd => exact .inl .spd
      | bd => exact .inl .bd
      | md => exact .inl .md
      | s1 d md => exact .inl (.s1 d md)
      | s2 d md => exact .inl (.s2 d md)
      | t c mc =>
        rcases List.mem_append.mp mc with mc | mc
        · exact .inl (.t c mc)
        · rw [List.mem_singleton.mp mc]; exact .inr nT0
      | pt c mc =>
        rcases List.mem_append.mp mc with mc | mc
        · exact .inl (.pt c mc)
        · rw [List.mem_singleton.mp mc]; exact .inr nPT
      | w c mc =>
        rcases List.mem_append.mp mc with mc | mc
        · exact .inl (.w c mc)
        · rw [List.mem_singleton.mp mc]; exact .inr nW20
      | q c e mc me =>
        rcases List.mem_append.mp mc with mc | mc
        · exact .inl (.q c e mc me)
        · rw [List.mem_singleton.mp mc] at me
          exact .inr (hPL e me).2
    subst hHF
    exact ⟨_, rfl, kQ ⟨T', PT, W2, m.made, PL, ws⟩ _ fin rfl rfl f2 f3 f4 f5⟩
theorem sc_piece_at : FnScope ["known", "places", "number", "factors", "column", "factor", "word"] ["known", "places", "number"] (defScope s_piece_at) := ⟨rfl, rfl, rfl, by decide +kernel, rfl, by decide +kernel, by decide +kernel⟩
theorem ok_piece_at (T : Txt w K mg a) : FnOk P w K mg base CX0 4 a.f_piece_at a.d_piece_at ["known", "places", "number"] (sp_piece_at K a) := by
  refine T.F_piece_at.ok sc_piece_at (fun vs H Q E h => ?len) (fun cdv A outer s H vs Q E hr h => ?body)
  case len =>
    exact sp_piece_at_len h
  case body =>
    exact h.2.elim
theorem sc_good_piece : FnScope ["images", "place", "stamp", "size", "disk", "row", "found"] ["images", "place", "stamp", "size"] (defScope s_good_piece) := ⟨rfl, rfl, rfl, by decide +kernel, rfl, by decide +kernel, by decide +kernel⟩
theorem ok_good_piece (T : Txt w K mg a) : FnOk P w K mg base CX0 4 a.f_good_piece a.d_good_piece ["images", "place", "stamp", "size"] (sp_good_piece K a) := by
  refine T.F_good_piece.ok sc_good_piece (fun vs H Q E h => ?len) (fun cdv A outer s H vs Q E hr h => ?body)
  case len =>
    exact sp_good_piece_len h
  case body =>
    exact h.2.elim
theorem sc_law_refused : FnScope ["store", "words", "e"] ["store", "words"] (defScope s_law_refused) := ⟨rfl, rfl, rfl, by decide +kernel, rfl, by decide +kernel, by decide +kernel⟩
theorem ok_law_refused (T : Txt w K mg a) : FnOk P w K mg base CX0 4 a.f_law_refused a.d_law_refused ["store", "words"] (sp_law_refused K a) := by
  refine T.F_law_refused.ok sc_law_refused (fun vs H Q E h => ?len) (fun cdv A outer s H vs Q E hr h => ?body)
  case len =>
    exact sp_law_refused_len h
  case body =>
    obtain ⟨S, W, m, ws, ims, rfl, h, hW, nW, big, l9, hI, l100, r100, l8, d1, w8, k⟩ := h
    refine ⟨_, (pss_cons (ps_try_as (i := 2) rfl rfl sc_law_refused.nd rfl rfl ⟨rfl, by decide, .inl T.g_PoolError⟩ takes0
      (fun W pn xe tk _ => (pss_one (ps_expr (pe_methTd (pv 0) T.cl_Store T.m_Store_put (ok_Store_put T) (hr.mono (by decide)) T.d_Store_put (.cons (show RelV (V.ref a.e_Store_put) (Value.ref a.e_Store_put) from rfl) .nil) (fun σ => passAt tk σ) (pa_cons (pv 1) pa_nil)))))
      (fun a oe cls d pn hz hf => (pss_one (ps_ret (pe_callB (call_isE' hz hf) (by rfl) T.n_isinstance (by decide +kernel) (pa_cons (pv 2) (pa_cons (pe_glob (v := .ref _) rfl T.g_InvalidArgument rfl) pa_nil)))))))
      (pss_one (ps_ret pe_bl))), ?_⟩
    refine ⟨_, rfl, S, m.dx, _, rfl, h.hS, by kernel_rfl, _, rfl, S, W, _, m, ws, [], ims, rfl, h, hW, nW, .inr (.inr T.e_Store_put), hI, l100, l9, r100, l8, d1, w8, fun _ H1 s1 => ?_, fun z => absurd z (by omega)⟩
    refine ⟨true, T.u_InvalidArgument_PoolError, fun _ ad hb => ?_, fun z => Bool.noConfusion z⟩
    exact ⟨_, rfl, _, rfl, rfl, T.E_InvalidArgument, _, _, true, rfl, fun _ z => z, T.i_InvalidArgument_InvalidArgument, k _ s1⟩
theorem sc_recover : FnScope ["pieces", "data", "places", "known", "whole", "number", "piece", "place"] ["pieces", "data"] (defScope s_recover) := ⟨rfl, rfl, rfl, by decide +kernel, rfl, by decide +kernel, by decide +kernel⟩
theorem ok_recover (T : Txt w K mg a) : FnOk P w K mg base CX0 5 a.f_recover a.d_recover ["pieces", "data"] (sp_recover K a) := by
  refine T.F_recover.ok sc_recover (fun vs H Q E h => ?len) (fun cdv A outer s H vs Q E hr h => ?body)
  case len =>
    exact sp_recover_len h
  case body =>
    exact h.2.elim
theorem sc_read_stripe : FnScope ["images", "places", "stamp", "length", "data", "size", "pieces", "good", "place", "piece", "word"] ["images", "places", "stamp", "length", "data"] (defScope s_read_stripe) := ⟨rfl, rfl, rfl, by decide +kernel, rfl, by decide +kernel, by decide +kernel⟩
theorem ok_read_stripe (T : Txt w K mg a) : FnOk P w K mg base CX0 6 a.f_read_stripe a.d_read_stripe ["images", "places", "stamp", "length", "data"] (sp_read_stripe K a) := by
  refine T.F_read_stripe.ok sc_read_stripe (fun vs H Q E h => ?len) (fun cdv A outer s H vs Q E hr h => ?body)
  case len =>
    exact sp_read_stripe_len h
  case body =>
    exact h.2.elim
theorem sc_Store_get : FnScope ["self", "pointer", "epoch", "serial", "length", "places"] ["self", "pointer"] (defScope s_Store_get) := ⟨rfl, rfl, rfl, by decide +kernel, rfl, by decide +kernel, by decide +kernel⟩
theorem ok_Store_get (T : Txt w K mg a) : FnOk P w K mg base CX0 7 a.f_Store_get a.d_Store_get ["self", "pointer"] (sp_Store_get K a) := by
  refine T.F_Store_get.ok sc_Store_get (fun vs H Q E h => ?len) (fun cdv A outer s H vs Q E hr h => ?body)
  case len =>
    exact sp_Store_get_len h
  case body =>
    obtain ⟨S, m, b, rfl, h, mb, k⟩ := h
    have hw := T.hw
    subst hw
    refine ⟨_, (pss_cons (ps_if (pt_cmp (pc_nin hr.units (pv 1) (pe_fld (pv 0) rfl)))
      (pss_one (ps_ret (pe_callTy call_list_of (by rfl) T.n_list (by decide +kernel) (pa_cons (pe_nget hr.units (pe_fld (pv 0) rfl) (pv 1) (fun _ _ => rfl)) pa_nil))))
      pss_nil)
      (pss_cons (ps_asg (pv 1) (pg_tup rfl (pgs_cons (pg_name (i := 2) sc_Store_get.nd rfl (Or.inl rfl)) (pgs_cons (pg_name (i := 3) sc_Store_get.nd rfl (Or.inl rfl)) (pgs_cons (pg_name (i := 4) sc_Store_get.nd rfl (Or.inl rfl)) (pgs_cons (pg_name (i := 5) sc_Store_get.nd rfl (Or.inl rfl)) pgs_nil))))))
      (pss_one (ps_ret (pe_call (ok_read_stripe T) (hr.mono (by decide)) rfl T.g_read_stripe T.F_read_stripe.kp T.d_read_stripe .nil pass0 (pa_cons (pe_fld (pv 0) rfl) (pa_cons (pv 5) (pa_cons (pe_tup (pa_cons (pv 2) (pa_cons (pv 3) pa_nil))) (pa_cons (pv 4) (pa_cons (pe_fld (pv 0) rfl) pa_nil)))))))))), ?_⟩
    have hb := h.blk b mb
    refine ⟨_, rfl, _, rfl, S, _, m.dx, _, _, rfl, h.hS, T.cl_Store, T.na_Store_memory, sf_memory m, m.mD, b.T, _, keyB m.ep b, rfl, .inl h.hM, h.mkeys, rfl, hb.nk, keyB_depth _ _, _, rfl, ?_⟩
    rw [h.mem mb]
    refine iteT ?_
    refine ⟨_, rfl, S, _, m.dx, _, _, rfl, h.hS, T.cl_Store, T.na_Store_memory, sf_memory m, _, rfl, m.mD, b.T, b.T, _, keyB m.ep b, V.ref b.W, rfl, .inl h.hM, h.mkeys, rfl, hb.nk, keyB_depth _ _, h.mem mb, b.W, _, rfl, .inl (SqL.of hb.w), fun D nD => ?_⟩
    exact k D _ (Same.new nD) nD upd_same
theorem sc_Space_give : FnScope ["self", "row", "state"] ["self", "row"] (defScope s_Space_give) := ⟨rfl, rfl, rfl, by decide +kernel, rfl, by decide +kernel, by decide +kernel⟩
theorem ok_Space_give (T : Txt w K mg a) : FnOk P w K mg base (L2.CX P w) 8 a.f_Space_give a.d_Space_give ["self", "row"] (sp_Space_give K a) := by
  refine T.F_Space_give.okX sc_Space_give (fun vs H Q E h => ?len) (fun cdv A outer s H vs Q E hr h => ?body)
  case len =>
    exact sp_Space_give_len h
  case body =>
    obtain ⟨p, d, first, rows, φ, r, rfl, hs, hr1, kE, kQ⟩ := h
    obtain ⟨dx, low, M, h1, h2, ok, l1, l2, l3⟩ := id hs
    have npd : p ≠ d := ne_of h1 h2 (by intro z; cases z)
    refine ⟨_, (pss_cons (ps_set (i := 2) sc_Space_give.nd rfl (Or.inl rfl) (pe_dget1 (hu_of hr) (pe_fld (pv 0) rfl) (pv 1) ⟨rfl, rfl, rfl, rfl⟩))
      (pss_cons (ps_if (PW.pt (pw_or (pt_cmpR op_isN (pv 2) pe_non (nomark _)) (pw_or1 (pt_cmpR op_eq (pv 2) (pe_const T.g_WAITING) (nomark _)))))
      (pss_one (ps_raise rfl (takes_of rfl rfl rfl rfl) (pmk_own PySem.F.excBase_ValueError T.x_InvalidArgument T.g_InvalidArgument T.k_InvalidArgument (raises_own T.b_InvalidArgument T.t_InvalidArgument) (by exact rfl))))
      pss_nil)
      (pss_one (ps_if (pt_cmpR op_eq (pv 2) (pe_const T.g_OLD) (nomark _))
      (pss_one (ps_dput (hu_of hr) (pe_fld (pv 0) rfl) (pv 1) (pe_const T.g_WAITING) rfl))
      (pss_cons (ps_ddel (pe_fld (pv 0) rfl) (pv 1))
      (pss_one (ps_fld (pv 0) (pe_callB (call_min2 rfl) (by rfl) T.n_min (by decide +kernel) (pa_cons (pe_fld (pv 0) rfl) (pa_cons (pv 1) pa_nil))) rfl))))))), ?_⟩
    refine ⟨_, rfl, p, _, dx, _, _, rfl, h1, T.cl_Space, T.na_Space_states, flds_states _ _ _ _, d, rfl, .inl ⟨_, .inl h2⟩, _, rfl, _, DGet.k (k := Sum.inl r) h2, ?_⟩
    rw [ok.val]
    by_cases e0 : φ r = 0
    · rw [if_pos e0]
      refine ⟨_, rfl, rfl, _, rfl, iteT (kE (.inl e0) _ (Same.refl _))⟩
    rw [if_neg e0]
    refine ⟨_, rfl, rfl, _, rfl, iteF ?_⟩
    refine ⟨_, rfl, rfl, _, rfl, ite2 (fun b => kE (.inr (V.int.inj (show V.int (φ r) = V.int 3 from of_decide_eq_true b))) _ (Same.refl _)) (fun b => ?_)⟩
    have e3 : φ r ≠ 3 := fun z => b (decide_eq_true (show V.int (φ r) = V.int 3 by rw [z]))
    have nz : ¬ (φ r = 0 ∨ φ r = 3) := fun z => z.elim e0 e3
    have rg := ok.range e0
    have vs : (valV (kvM M) (Sum.inl r)).isSome = true := by rw [ok.val, if_neg e0]; rfl
    have lM : M.length ≤ rows := by rw [ok.len]; exact Nat.le_trans (pick_le _ _ _ _) (Nat.sub_le _ _)
    refine ⟨_, rfl, rfl, _, rfl, ite2 (fun b2 => ?_) (fun b2 => ?_)⟩
    · have e2 : φ r = 2 := V.int.inj (show V.int (φ r) = V.int 2 from of_decide_eq_true b2)
      refine ⟨_, rfl, p, _, dx, _, _, rfl, h1, T.cl_Space, T.na_Space_states, flds_states _ _ _ _, _, rfl, d, _, rfl, DPut.k (k := Sum.inl r) h2 (small _ (by simp [kvM]; omega)), ?_⟩
      rw [kv_set vs]
      refine kQ nz _ ⟨dx, low, setM M r 3, by rw [upd_ne npd]; exact h1, upd_same, ?_, l1, fun q q1 q2 => ?_, l3⟩ fun b o eb n1 n2 => by rw [upd_ne n2]; exact eb
      · rw [if_pos e2]
        exact ok.set e0 ⟨by decide, by decide⟩
      · rw [if_pos e2]
        unfold upF
        split
        · decide
        · exact l2 q q1 q2
    · have e2 : φ r ≠ 2 := fun z => b2 (decide_eq_true (show V.int (φ r) = V.int 2 by rw [z]))
      rw [if_neg e2] at kQ
      refine ⟨_, rfl, p, _, dx, _, _, rfl, h1, T.cl_Space, T.na_Space_states, flds_states _ _ _ _, _, rfl, d, _, Sum.inl r, rfl, h2, rfl, vs, ?_⟩
      rw [kv_del]
      have h1' : upd H d (.dK (kvM (delM M r))) p = some (.ins a.c_Space dx (flds rows first d low)) := by rw [upd_ne npd]; exact h1
      refine ⟨_, rfl, p, _, dx, _, _, rfl, h1', T.cl_Space, T.na_Space_lowest, flds_lowest _ _ _ _, _, rfl, low, r, rfl, ?_⟩
      refine ⟨_, rfl, p, _, dx, _, rfl, h1', T.cl_Space, T.na_Space_lowest, (by show 4 < 1000; decide), ?_⟩
      have lw : (if r < low then r else low) ≤ r ∧ (if r < low then r else low) ≤ low ∧ (first : Int) ≤ (if r < low then r else low) := by
        have := rg.1
        split <;> omega
      generalize (if r < low then r else low) = low' at lw ⊢
      refine kQ nz _ ⟨dx, low', delM M r, ?_, ?_, ok.del r, lw.2.2, fun q q1 q2 => ?_, by omega⟩ fun b o eb n1 n2 => ?_
      · rw [upd_same]
        exact congrArg (fun l => some (HO.ins a.c_Space dx l)) (flds_low (rows : Int) (first : Int) d low low')
      · rw [upd_ne npd.symm, upd_same]
      · unfold upF
        rw [if_neg (by omega)]
        exact l2 q q1 (by omega)
      · rw [upd_ne n1, upd_ne n2]
        exact eb
theorem sc_Store_forget : FnScope ["self", "pointers", "pointer", "disk", "row"] ["self", "pointers"] (defScope s_Store_forget) := ⟨rfl, rfl, rfl, by decide +kernel, rfl, by decide +kernel, by decide +kernel⟩
theorem ok_Store_forget (T : Txt w K mg a) : FnOk P w K mg base CX0 9 a.f_Store_forget a.d_Store_forget ["self", "pointers"] (sp_Store_forget K a) := by
  refine T.F_Store_forget.ok sc_Store_forget (fun vs H Q E h => ?len) (fun cdv A outer s H vs Q E hr h => ?body)
  case len =>
    exact sp_Store_forget_len h
  case body =>
    obtain ⟨S, P, m, gs, rfl, h, hP, nP, sub, l50, r1000, k⟩ := h
    have hw := T.hw
    subst hw
    refine ⟨_, (pss_one (ps_for PassesOwn.never rfl (pi_list (pv 1)) (pg_name (i := 2) sc_Store_forget.nd rfl (Or.inl rfl))
      (pss_cons (ps_for PassesOwn.never rfl (pi_tup (pe_ix ix_tup (pv 2) pe_int (fun _ _ => rfl))) (pg_tup rfl (pgs_cons (pg_name (i := 3) sc_Store_forget.nd rfl (Or.inl rfl)) (pgs_cons (pg_name (i := 4) sc_Store_forget.nd rfl (Or.inl rfl)) pgs_nil)))
      (pss_one (ps_expr (pe_meth (pe_dget (hu_of hr) (pe_fld (pv 0) rfl) (pv 3) (fun _ _ => rfl)) T.cl_Space T.m_Space_give (ok_Space_give T) (hr.mono (by decide)) T.d_Space_give .nil passL (pa_cons (pv 4) pa_nil)))))
      (pss_cons (ps_ndel hr.units (pe_fld (pv 0) rfl) (pv 2))
      (pss_one (ps_if (pt_cmp (pc_nin hr.units (pv 2) (pe_fld (pv 0) rfl)))
      (pss_one (ps_ndel hr.units (pe_fld (pv 0) rfl) (pv 2)))
      pss_nil)))))), ?_⟩
    have mg : ∀ b ∈ gs, b ∈ m.bl := fun b mb => sub.subset mb
    refine ⟨_, rfl, P, rfl, ⟨_, hP⟩, for_list (K := K) (a := P) (xs := gs.map fun b => V.ref b.T) (fun i σ H' => ∃ (v2 v3 v4 : Option V), σ = [some (.ref S), some (.ref P), v2, v3, v4] ∧ Stor a H' S (m.with (m.bl.filter fun b => decide (b.s ∉ (gs.take i).map (·.s)))) ∧ ∀ x o, H x = some o → ¬ StR S m x → H' x = some o) ⟨none, none, none, rfl, ?_, fun _ _ e _ => e⟩ ?_ ?_ ?_⟩
    · have e : (m.bl.filter fun b => decide (b.s ∉ (gs.take 0).map (·.s))) = m.bl := List.filter_eq_self.mpr fun b _ => by simp
      rw [e]
      exact h
    · rintro i σ H' _ ⟨_, _, _, _, _, fr⟩
      exact seq_keep hP fun o e => fr _ _ e nP
    · rintro i y σ H1 hy ⟨v2, v3, v4, rfl, h1, fr⟩
      obtain ⟨b, hb, rfl⟩ : ∃ b, gs[i]? = some b ∧ y = V.ref b.T := by
        rw [List.getElem?_map] at hy
        cases z : gs[i]? with
        | none => rw [z] at hy; cases hy
        | some b => rw [z] at hy; exact ⟨b, rfl, (Option.some.inj hy).symm⟩
      have mb := mg b (List.mem_of_getElem? hb)
      have ung : (gs.map (·.s)).Nodup := h.un.sublist (List.Sublist.map _ sub)
      have nb : b.s ∉ (gs.take i).map (·.s) := fun z => by
        obtain ⟨c, mc, e⟩ := List.mem_map.mp z
        obtain ⟨j, hj⟩ := List.mem_iff_getElem?.mp mc
        rw [List.getElem?_take] at hj
        split at hj
        · next lt =>
          unfold List.Nodup at ung
          rw [List.pairwise_iff_getElem] at ung
          have li := item_lt hb
          have lj := item_lt hj
          refine ung j i (by rw [List.length_map]; exact lj) (by rw [List.length_map]; exact li) lt ?_
          rw [List.getElem_map, List.getElem_map, show gs[j] = c from Option.some.inj ((List.getElem?_eq_getElem lj).symm.trans hj), show gs[i] = b from Option.some.inj ((List.getElem?_eq_getElem li).symm.trans hb)]
          exact e
        · cases hj
      obtain ⟨m1, hm1⟩ : ∃ m1, m1 = m.with (m.bl.filter fun b => decide (b.s ∉ (gs.take i).map (·.s))) := ⟨_, rfl⟩
      rw [← hm1] at h1
      have mb1 : b ∈ m1.bl := by rw [hm1]; exact List.mem_filter.mpr ⟨mb, decide_eq_true nb⟩
      have q1 : m1.dx = m.dx ∧ m1.ms = m.ms ∧ m1.sp = m.sp ∧ m1.bD = m.bD ∧ m1.mD = m.mD ∧ m1.rows = m.rows := by rw [hm1]; exact ⟨rfl, rfl, rfl, rfl, rfl, rfl⟩
      have nst : ∀ {x}, ¬ StR S m x → (∀ d ∈ m1.ms, x ≠ (m1.sp d).1 ∧ x ≠ (m1.sp d).2) ∧ x ≠ m1.bD ∧ x ≠ m1.mD := fun {x} n => by
        obtain ⟨_, e2, e3, e4, e5, _⟩ := q1
        rw [e2, e3, e4, e5]
        exact ⟨fun d md => ⟨fun z => n (by rw [z]; exact .s1 d md), fun z => n (by rw [z]; exact .s2 d md)⟩, fun z => n (by rw [z]; exact .bd), fun z => n (by rw [z]; exact .md)⟩
      have hb1 := h1.blk b mb1
      refine ⟨_, rfl, b.T, _, _, _, rfl, rfl, SqT.of hb1.t, at_of (j := 3) rfl rfl, b.PT, rfl, ⟨_, SqT.of hb1.pt⟩, for_tup (K := K) (a := b.PT) (xs := b.L.map fun q => V.ref q.1) (fun j σ H' => ∃ (v3 v4 : Option V), σ = [some (.ref S), some (.ref P), some (.ref b.T), v3, v4] ∧ StorP a H' S m1 (psiF m1.bl b j) ∧ ∀ x o, H x = some o → ¬ StR S m x → H' x = some o) ⟨v3, v4, rfl, h1.psi fun d _ => by funext r; simp [psiF], fr⟩ (fun j σ H' _ ⟨_, _, _, st, _⟩ => SqT.of (st.blk b mb1).pt) ?_ ?_⟩
      · rintro j y σ H2 hy ⟨v3, v4, rfl, st, fr2⟩
        obtain ⟨e, he, rfl⟩ : ∃ e, b.L[j]? = some e ∧ y = V.ref e.1 := by
          rw [List.getElem?_map] at hy
          cases z : b.L[j]? with
          | none => rw [z] at hy; cases hy
          | some e => rw [z] at hy; exact ⟨e, rfl, (Option.some.inj hy).symm⟩
        have me := List.mem_of_getElem? he
        obtain ⟨md, r18, rr⟩ := st.row b mb1 e me
        obtain ⟨dx', low, M, e1, _⟩ := id (st.sp _ md)
        have one : phiM m1.bl e.2.1 e.2.2 = 1 := phi_one.mpr ⟨b, mb1, e, me, rfl⟩
        have notyet : (b.L.take j).any (fun q => decide (q.2 = (e.2.1, e.2.2))) = false := by
          rw [Bool.eq_false_iff]
          intro z
          obtain ⟨q, mq, z⟩ := List.any_eq_true.mp z
          have z : q.2 = e.2 := of_decide_eq_true z
          obtain ⟨i', hi'⟩ := List.mem_iff_getElem?.mp mq
          rw [List.getElem?_take] at hi'
          split at hi'
          · next lt =>
            have dd := st.asc b mb1
            rw [List.pairwise_iff_getElem] at dd
            have l1 := item_lt hi'
            have l2 := item_lt he
            have := dd i' j (by rw [List.length_map]; exact l1) (by rw [List.length_map]; exact l2) lt
            rw [List.getElem_map, List.getElem_map, show b.L[i'] = q from Option.some.inj ((List.getElem?_eq_getElem l1).symm.trans hi'), show b.L[j] = e from Option.some.inj ((List.getElem?_eq_getElem l2).symm.trans he), z] at this
            omega
          · cases hi'
        have v1 : psiF m1.bl b j e.2.1 e.2.2 = 1 := by
          unfold psiF
          rw [notyet, if_neg Bool.false_ne_true]
          exact one
        refine ⟨e.1, _, rfl, SqT.of ((st.blk b mb1).q e me), rfl, _, _, rfl, _, _, rfl, rfl, ?_⟩
        refine ⟨_, rfl, S, _, m1.dx, _, _, rfl, st.hS, T.cl_Store, T.na_Store_spaces, sf_spaces m1, _, rfl, m1.spd, _, rfl, st.spget md, (m1.sp e.2.1).1, dx', _, rfl, e1, rfl, _, rfl, (m1.sp e.2.1).1, (m1.sp e.2.1).2, 18, m1.rows, psiF m1.bl b j e.2.1, e.2.2, rfl, st.sp _ md, by rw [q1.2.2.2.2.2]; exact r1000, fun z => by rw [v1] at z; omega, fun _ H3 sp3 fr3 => ?_⟩
        rw [v1, if_neg (by decide)] at sp3
        have st3 := st.space md sp3 fr3
        refine ⟨_, _, rfl, st3.psi fun x mx => ?_, fun x o ex n => fr3 _ _ (fr2 x o ex n) ((nst n).1 _ md).1 ((nst n).1 _ md).2⟩
        funext r
        show (if x = e.2.1 then upF (psiF m1.bl b j e.2.1) e.2.2 0 else psiF m1.bl b j x) r = psiF m1.bl b (j + 1) x r
        unfold psiF
        rw [take_snoc he, List.any_append]
        by_cases c : x = e.2.1
        · rw [if_pos c]
          subst c
          unfold upF
          by_cases c2 : r = e.2.2
          · subst c2
            rw [if_pos rfl]
            simp
          · rw [if_neg c2]
            have : ([e].any fun q => decide (q.2 = (e.2.1, r))) = false := by
              rw [Bool.eq_false_iff]
              intro z
              have z := of_decide_eq_true (by simpa using z : decide (e.2 = (e.2.1, r)) = true)
              exact c2 (by rw [z])
            rw [this, Bool.or_false]
        · rw [if_neg c]
          have : ([e].any fun q => decide (q.2 = (x, r))) = false := by
            rw [Bool.eq_false_iff]
            intro z
            have z := of_decide_eq_true (by simpa using z : decide (e.2 = (x, r)) = true)
            exact c (by rw [z])
          rw [this, Bool.or_false]
      rintro σ H2 ⟨v3, v4, rfl, st, fr2⟩
      rw [List.length_map] at st
      have there : (L2.atN (bxs m1.ep m1.bl) (keyB m1.ep b)).isSome = true := atN_iff.mpr ⟨_, List.mem_map.mpr ⟨b, mb1, rfl⟩, rfl⟩
      have nk2 := (st.blk b mb1).nk
      refine ⟨_, rfl, S, _, m1.dx, _, _, rfl, st.hS, T.cl_Store, T.na_Store_blocks, sf_blocks m1, _, rfl, m1.bD, b.T, _, keyB m1.ep b, rfl, st.hb, st.bkeys, rfl, nk2, keyB_depth _ _, there, ?_⟩
      have tup3 : ∀ c ys, H2 c = some (.tup ys) → upd H2 m1.bD (L2.NO a.wd m1.bD (L2.outN (bxs m1.ep m1.bl) (keyB m1.ep b))) c = some (.tup ys) := fun c ys e => by
        rw [upd_ne (ne_of e st.hb (by intro z; cases z))]
        exact e
      have hS3 : upd H2 m1.bD (L2.NO a.wd m1.bD (L2.outN (bxs m1.ep m1.bl) (keyB m1.ep b))) S = some (.ins a.c_Store m1.dx (sflds m1)) := by rw [upd_ne (ne_of st.hS st.hb (by intro z; cases z))]; exact st.hS
      have hM3 : upd H2 m1.bD (L2.NO a.wd m1.bD (L2.outN (bxs m1.ep m1.bl) (keyB m1.ep b))) m1.mD = some (L2.NO a.wd m1.mD (mxs m1.ep m1.bl)) := by rw [upd_ne st.bm.symm]; exact st.hM
      have mk3 := st.mkeys.at tup3
      have nk3 := NK.at tup3 _ _ nk2
      refine ⟨_, rfl, _, rfl, S, _, m1.dx, _, _, rfl, hS3, T.cl_Store, T.na_Store_memory, sf_memory m1, m1.mD, b.T, _, keyB m1.ep b, rfl, .inl hM3, mk3, rfl, nk3, keyB_depth _ _, _, rfl, ?_⟩
      rw [st.mem mb1]
      refine iteT ⟨_, rfl, S, _, m1.dx, _, _, rfl, hS3, T.cl_Store, T.na_Store_memory, sf_memory m1, _, rfl, m1.mD, b.T, _, keyB m1.ep b, rfl, hM3, mk3, rfl, nk3, keyB_depth _ _, by rw [st.mem mb1]; rfl, ?_⟩
      have fin := st.drop mb1 fun d _ => psi_end h1 mb1 d
      have ebl : m1.with (m1.bl.filter fun c => decide (c.s ≠ b.s)) = m.with (m.bl.filter fun c => decide (c.s ∉ (gs.take (i + 1)).map (·.s))) := by
        rw [hm1]
        show m.with (List.filter _ (List.filter _ m.bl)) = _
        rw [List.filter_filter]
        congr 1
        refine List.filter_congr fun c _ => ?_
        rw [take_snoc hb, List.map_append]
        by_cases c1 : c.s = b.s
        · simp [c1]
        · simp [c1]
      rw [ebl] at fin
      exact ⟨_, _, _, rfl, fin, fun x o ex n => by rw [upd_ne (nst n).2.2, upd_ne (nst n).2.1]; exact fr2 x o ex n⟩
    rintro σ H1 ⟨v2, v3, v4, rfl, h1, fr⟩
    rw [List.length_map, List.take_length] at h1
    exact k H1 h1 fr
theorem sc_Store_trim : FnScope ["self", "live", "kept", "pointer"] ["self", "live"] (defScope s_Store_trim) := ⟨rfl, rfl, rfl, by decide +kernel, rfl, by decide +kernel, by decide +kernel⟩
theorem ok_Store_trim (T : Txt w K mg a) : FnOk P w K mg base CX0 10 a.f_Store_trim a.d_Store_trim ["self", "live"] (sp_Store_trim K a) := by
  refine T.F_Store_trim.ok sc_Store_trim (fun vs H Q E h => ?len) (fun cdv A outer s H vs Q E hr h => ?body)
  case len =>
    exact sp_Store_trim_len h
  case body =>
    obtain ⟨S, LV, m, ls, rfl, h, hL, hls, l100, l50, r1000, k⟩ := h
    have hw := T.hw
    subst hw
    refine ⟨_, (pss_cons (ps_set (i := 2) sc_Store_trim.nd rfl (Or.inr rfl) (pe_nc (mine := [("pointer", 3)]) (g := (gName 3)) hr.units (by rfl) sc_Store_trim.nd (pi_list (pv 1)) (blkOk_by (own := [("pointer", 3)]) (N := ["self", "live", "kept", "pointer"]) (sc := defScope s_Store_trim) (by decide +kernel))
      (fun _ _ _ _ _ => (pg_name (i := 3) sc_Store_trim.nd rfl (Or.inl rfl))) (fun _ _ _ _ _ => pts_nil) (fun _ _ _ _ _ => (pv 3)) (fun _ _ _ _ _ => pe_bl)))
      (pss_one (ps_expr (pe_meth (pv 0) T.cl_Store T.m_Store_forget (ok_Store_forget T) (hr.mono (by decide)) T.d_Store_forget .nil pass0 (pa_cons (pe_lock (pe_lc (own := [("pointer", 3)]) (g := (gName 3)) (by rfl) sc_Store_trim.nd (by exact pi_nkeys (pe_fld (pv 0) rfl) : PI _ _ _ (iNKeys _ _)) (blkOk_by (own := [("pointer", 3)]) (N := ["self", "live", "kept", "pointer"]) (sc := defScope s_Store_trim) (by decide +kernel))
      (fun _ _ _ _ _ => (pg_name (i := 3) sc_Store_trim.nd rfl (Or.inl rfl))) (fun _ _ _ _ _ => (pts_one (pt_cmp (by exact (pc_nnotin hr.units (pv 3) (pv 2)) : PC _ _ _ _ (tNNotIn a.wd _ _))))) (fun _ _ _ _ _ => (pv 3)))) pa_nil))))), ?_⟩
    refine ⟨_, rfl, LV, rfl, ⟨_, hL⟩, fun Kp nK => nc_it (walk_list (K := K) (a := LV) (xs := ls.map fun b => V.ref b.T)) (fun i H' => Same H H' ∧ ∃ kx : List L2.NE, H' Kp = some (L2.NO a.wd Kp kx) ∧ kx.length ≤ i ∧ L2.NKeys H' kx ∧ ∀ q, (L2.atN kx q).isSome = true ↔ ∃ b ∈ ls.take i, keyB m.ep b = q) ⟨Same.new nK, [], upd_same, Nat.le_refl _, fun _ m => (nomatch m), fun q => by simp [L2.atN]⟩ (fun i H' _ q => q.1.seq hL) ?_ ?_⟩
    · rintro i y H1 H2 hi ⟨s1, kx, d1, l1, k1, q1⟩ ⟨rfl, hy⟩
      obtain ⟨b, hb, rfl⟩ : ∃ b, ls[i]? = some b ∧ y = V.ref b.T := by
        rw [List.getElem?_map] at hy
        cases z : ls[i]? with
        | none => rw [z] at hy; cases hy
        | some b => rw [z] at hy; exact ⟨b, rfl, (Option.some.inj hy).symm⟩
      have mb := hls b (List.mem_of_getElem? hb)
      have nk := ((h.same s1).blk b mb).nk
      have il := item_lt hb
      refine ⟨rfl, _, rfl, b.T, kx, keyB m.ep b, rfl, d1, k1, nk, keyB_depth _ _, fix_bl _, small _ (by omega), same_put s1 nK, L2.putN kx (keyB m.ep b) b.T (.bl true), upd_same, by have := putN_len kx (keyB m.ep b) b.T (.bl true); omega, ?_, fun q => ?_⟩
      · refine (k1.put nk (keyB_depth _ _)).at fun c ys e => ?_
        rw [upd_ne (ne_of e d1 (by intro z; cases z))]
        exact e
      · rw [putN_iff, q1, take_snoc hb]
        constructor
        · rintro (z | ⟨c, mc, z⟩)
          · exact ⟨b, by simp, z.symm⟩
          · exact ⟨c, List.mem_append_left _ mc, z⟩
        · rintro ⟨c, mc, z⟩
          rcases List.mem_append.mp mc with mc | mc
          · exact .inr ⟨c, mc, z⟩
          · rw [List.mem_singleton.mp mc] at z
            exact .inl z.symm
    rintro H1 ⟨s1, kx, d1, _, k1, q1⟩
    rw [List.length_map, List.take_length] at q1
    have h1 := h.same s1
    refine ⟨_, rfl, S, m.dx, _, rfl, h1.hS, by kernel_rfl, m.mD, _, h1.hM, True.intro, fun od => ?_⟩
    obtain ⟨HL, hHL⟩ : ∃ HL, HL = upd H1 m.mD (.frz od (L2.NO a.wd m.mD (mxs m.ep m.bl))) := ⟨_, rfl⟩
    have eL : ∀ b, b ≠ m.mD → HL b = H1 b := fun b n => by rw [hHL, upd_ne n]
    have fL : HL m.mD = some (.frz od (L2.NO a.wd m.mD (mxs m.ep m.bl))) := by rw [hHL]; exact upd_same
    rw [← hHL]
    have SD : S ≠ m.mD := ne_of h1.hS h1.hM (by intro z; cases z)
    have KD : Kp ≠ m.mD := by
      intro z
      obtain ⟨_, e⟩ := h.there (StR.md (S := S) (m := m))
      rw [z, e] at nK
      cases nK
    have dKL : HL Kp = some (L2.NO a.wd Kp kx) := by rw [eL _ KD]; exact d1
    have tupL : ∀ c ys, H1 c = some (.tup ys) → HL c = some (.tup ys) := fun c ys e => by
      rw [eL _ (ne_of e h1.hM (by intro z; cases z))]
      exact e
    refine ⟨_, rfl, S, _, m.dx, _, _, rfl, by rw [eL _ SD]; exact h1.hS, T.cl_Store, T.na_Store_memory, sf_memory m, m.mD, od, mxs m.ep m.bl, rfl, fL, fun P nP => lc_it (walk_nkeys (w := a.wd) (d := m.mD) (o := od) (xs := mxs m.ep m.bl)) (fun i H' => Same HL H' ∧ H' P = some (.lst (((m.bl.take i).filter fun b => decide (b.s ∉ ls.map (·.s))).map fun b => V.ref b.T))) ⟨Same.new nP, upd_same⟩ (fun i H' _ q => q.1 _ _ fL) ?_ ?_⟩
    · rintro i y H2 H3 hi ⟨s2, d2⟩ ⟨rfl, e, he, rfl⟩
      obtain ⟨b, hb, rfl⟩ : ∃ b, m.bl[i]? = some b ∧ e = (keyB m.ep b, b.T, V.ref b.W) := by
        unfold mxs at he
        rw [List.getElem?_map] at he
        cases z : m.bl[i]? with
        | none => rw [z] at he; cases he
        | some b => rw [z] at he; exact ⟨b, rfl, (Option.some.inj he).symm⟩
      have mb := List.mem_of_getElem? hb
      have il := item_lt hb
      have nk : NK H3 (keyB m.ep b) (.ref b.T) := NK.at (fun c ys e => s2 _ _ (tupL c ys e)) _ _ (h1.blk b mb).nk
      refine ⟨rfl, _, rfl, _, rfl, Kp, b.T, kx, keyB m.ep b, rfl, .inl (s2 _ _ dKL), k1.at fun c ys e => s2 _ _ (tupL c ys e), rfl, nk, keyB_depth _ _, _, rfl, ?_⟩
      have lt : ((m.bl.take i).filter fun b => decide (b.s ∉ ls.map (·.s))).length ≤ i := Nat.le_trans (List.length_filter_le _ _) (by rw [List.length_take]; omega)
      have iff : (L2.atN kx (keyB m.ep b)).isSome = true ↔ b.s ∈ ls.map (·.s) := by
        rw [q1]
        constructor
        · rintro ⟨c, mc, e⟩
          rw [← h.key_one (hls c mc) mb e]
          exact List.mem_map.mpr ⟨c, mc, rfl⟩
        · intro q
          obtain ⟨c, mc, e⟩ := List.mem_map.mp q
          refine ⟨c, mc, ?_⟩
          rw [h.ser_one (hls c mc) mb e]
      by_cases c : b.s ∈ ls.map (·.s)
      · rw [iff.mpr c]
        refine iteF ⟨s2, ?_⟩
        rw [take_snoc hb, List.filter_append]
        have e1 : List.filter (fun b : Blk => decide (b.s ∉ ls.map (·.s))) [b] = [] := by rw [List.filter_cons, if_neg (by simpa using c)]; rfl
        rw [e1, List.append_nil]
        exact d2
      · have z : (L2.atN kx (keyB m.ep b)).isSome = false := Bool.eq_false_iff.mpr fun z => c (iff.mp z)
        rw [z]
        refine iteT ⟨_, rfl, _, d2, small _ (by rw [List.length_map]; omega), same_put s2 nP, ?_⟩
        rw [take_snoc hb, List.filter_append, upd_same]
        have e1 : List.filter (fun b : Blk => decide (b.s ∉ ls.map (·.s))) [b] = [b] := by rw [List.filter_cons, if_pos (by simpa using c)]; rfl
        rw [e1, List.map_append]
        rfl
    rintro H2 ⟨s2, d2⟩
    have lx : (mxs m.ep m.bl).length = m.bl.length := List.length_map _
    rw [lx, List.take_length] at d2
    have PD : P ≠ m.mD := (ne_of_none fL nP).symm
    have nP1 : H1 P = none := by rw [← eL _ PD]; exact nP
    refine ⟨s2 _ _ fL, ?_⟩
    have s3 : Same H1 (upd H2 m.mD (L2.NO a.wd m.mD (mxs m.ep m.bl))) := fun b o e => by
      by_cases c : b = m.mD
      · rw [c, upd_same]
        rw [c, h1.hM] at e
        exact e
      · rw [upd_ne c]
        exact s2 _ _ (by rw [eL _ c]; exact e)
    have d3 : upd H2 m.mD (L2.NO a.wd m.mD (mxs m.ep m.bl)) P = some (.lst ((m.bl.filter fun b => decide (b.s ∉ ls.map (·.s))).map fun b => V.ref b.T)) := by rw [upd_ne PD]; exact d2
    generalize upd H2 m.mD (L2.NO a.wd m.mD (mxs m.ep m.bl)) = H3 at s3 d3 ⊢
    refine ⟨S, P, m, m.bl.filter fun b => decide (b.s ∉ ls.map (·.s)), rfl, h1.same s3, SqL.of d3, h1.fresh nP1, List.filter_sublist, l50, r1000, fun H4 st fr => k H4 ?_ fun x o e n => fr x o (s3 _ _ (s1 _ _ e)) n⟩
    have eq : (m.bl.filter fun b => decide (b.s ∉ (m.bl.filter fun b => decide (b.s ∉ ls.map (·.s))).map (·.s))) = m.bl.filter fun b => decide (b.s ∈ ls.map (·.s)) := List.filter_congr fun b mb => by
      have : b.s ∈ (m.bl.filter fun b => decide (b.s ∉ ls.map (·.s))).map (·.s) ↔ b.s ∉ ls.map (·.s) := by
        rw [List.mem_map]
        constructor
        · rintro ⟨c, mc, e⟩
          rw [← e]
          exact of_decide_eq_true (List.mem_filter.mp mc).2
        · exact fun z => ⟨b, List.mem_filter.mpr ⟨mb, decide_eq_true z⟩, rfl⟩
      by_cases c : b.s ∈ ls.map (·.s)
      · have n1 : b.s ∉ (m.bl.filter fun b => decide (b.s ∉ ls.map (·.s))).map (·.s) := fun z => (this.mp z) c
        rw [decide_eq_true c, decide_eq_true n1]
      · have n1 : ¬ b.s ∉ (m.bl.filter fun b => decide (b.s ∉ ls.map (·.s))).map (·.s) := fun z => z (this.mpr c)
        rw [decide_eq_false c, decide_eq_false n1]
    rw [← eq]
    exact st
theorem sc_law : FnScope ["script", "pot", "numbers", "members", "width", "data", "epoch", "store", "images", "taken", "blocks", "k", "words", "kept", "avoided", "pointer", "place", "block", "found", "live"] ["script"] (defScope s_law) := ⟨rfl, rfl, rfl, by decide +kernel, rfl, by decide +kernel, by decide +kernel⟩
theorem ok_law (T : Txt w K mg a) : FnOk P w K mg base CX0 11 a.f_law a.d_law ["script"] (sp_law K a) := by
  refine T.F_law.ok sc_law (fun vs H Q E h => ?len) (fun cdv A outer s H vs Q E hr h => ?body)
  case len =>
    exact sp_law_len h
  case body =>
    obtain ⟨s, ns, rfl, hS, short, k⟩ := h
    have hw := T.hw
    subst hw
    refine ⟨_, (pss_cons (ps_set (i := 1) sc_law.nd rfl (Or.inr rfl) (pe_call (ok_law_pot T) (hr.mono (by decide)) rfl T.g_law_pot T.F_law_pot.kp T.d_law_pot .nil pass0 (pa_cons (pv 0) pa_nil)))
      (pss_cons (ps_set (i := 2) sc_law.nd rfl (Or.inr rfl) (pe_lc (own := [("k", 11)]) (g := (gName 11)) (by rfl) sc_law.nd (pi_range1 (by rfl) T.n_range (pa_cons pe_int pa_nil)) (blkOk_by (own := [("k", 11)]) (N := ["script", "pot", "numbers", "members", "width", "data", "epoch", "store", "images", "taken", "blocks", "k", "words", "kept", "avoided", "pointer", "place", "block", "found", "live"]) (sc := defScope s_law) (by decide +kernel))
      (fun _ _ _ _ _ => (pg_name (i := 11) sc_law.nd rfl (Or.inl rfl))) (fun _ _ _ _ _ => pts_nil) (fun _ _ _ _ _ => (pv 11))))
      (pss_cons (ps_set (i := 3) sc_law.nd rfl (Or.inl rfl) (pe_callB cr_sorted (by rfl) T.n_sorted (by decide +kernel) (pa_cons (pe_lc (own := [("k", 11)]) (g := (gName 11)) (by rfl) sc_law.nd (pi_range1 (by rfl) T.n_range (pa_cons (pe_op op_add pe_int (pe_call (ok_law_next T) (hr.mono (by decide)) rfl T.g_law_next T.F_law_next.kp T.d_law_next .nil pass0 (pa_cons (pv 1) (pa_cons pe_int pa_nil)))) pa_nil)) (blkOk_by (own := [("k", 11)]) (N := ["script", "pot", "numbers", "members", "width", "data", "epoch", "store", "images", "taken", "blocks", "k", "words", "kept", "avoided", "pointer", "place", "block", "found", "live"]) (sc := defScope s_law) (by decide +kernel))
      (fun _ _ _ _ _ => (pg_name (i := 11) sc_law.nd rfl (Or.inl rfl))) (fun _ _ _ _ _ => pts_nil) (fun _ _ _ _ _ => (by exact (pe_bm PySem.F.plainAttrs_list PySem.F.slot_list_pop PySem.F.type_list_pop mt_popAt (pv 2) (pa_cons (pe_call (ok_law_next T) (hr.mono (by decide)) rfl T.g_law_next T.F_law_next.kp T.d_law_next .nil pass0 (pa_cons (pv 1) (pa_cons (pe_callB (by exact call_len_seq : CallR _ _ (rLenS K)) (by rfl) T.n_len PySem.boot_len (pa_cons (pv 2) pa_nil)) pa_nil))) pa_nil)) : PE _ _ (tBM K _ _ _ _)))) pa_nil)))
      (pss_cons (ps_set (i := 4) sc_law.nd rfl (Or.inl rfl) (pe_op op_add pe_int (pe_call (ok_law_next T) (hr.mono (by decide)) rfl T.g_law_next T.F_law_next.kp T.d_law_next .nil pass0 (pa_cons (pv 1) (pa_cons (pe_op op_sub (pe_callB call_len_seq (by rfl) T.n_len PySem.boot_len (pa_cons (pv 3) pa_nil)) pe_int) pa_nil)))))
      (pss_cons (ps_set (i := 5) sc_law.nd rfl (Or.inl rfl) (pe_op op_add pe_int (pe_call (ok_law_next T) (hr.mono (by decide)) rfl T.g_law_next T.F_law_next.kp T.d_law_next .nil pass0 (pa_cons (pv 1) (pa_cons (pv 4) pa_nil)))))
      (pss_cons (ps_set (i := 6) sc_law.nd rfl (Or.inl rfl) (pe_op op_add pe_int (pe_call (ok_law_next T) (hr.mono (by decide)) rfl T.g_law_next T.F_law_next.kp T.d_law_next .nil pass0 (pa_cons (pv 1) (pa_cons pe_int pa_nil)))))
      (pss_cons (ps_set (i := 7) sc_law.nd rfl (Or.inl rfl) (pe_makeK0 T.mk_Store (ok_Store_init T) (hr.mono (by decide)) rfl T.g_Store T.d_Store_init pass0 (pk_cons (pv 5) (pk_cons (pe_op op_sub (pv 4) (pv 5)) (pk_cons pe_int (pk_cons (pv 3) (pk_cons (pv 6) pk_nil)))))))
      (Evl.pss_cut (ps_setLc (i := 8) (own := [("k", 11)]) (g := (gName 11)) (by rfl) sc_law.nd rfl rfl (sw_true rfl rfl rfl (by decide +kernel)) (pi_range1 (by rfl) T.n_range (pa_cons pe_int pa_nil)) (blkOk_by (own := [("k", 11)]) (N := ["script", "pot", "numbers", "members", "width", "data", "epoch", "store", "images", "taken", "blocks", "k", "words", "kept", "avoided", "pointer", "place", "block", "found", "live"]) (sc := defScope s_law) (by decide +kernel))
      (fun _ _ _ _ _ => (pg_name (i := 11) sc_law.nd rfl (Or.inl rfl))) (fun _ _ _ _ _ => pts_nil) (fun _ _ _ _ _ => (pe_ix (by exact ix_list : IxR _ (rIxL K)) (pe_lst (pa_cons (pe_op op_rep (pe_lst (pa_cons pe_non pa_nil)) pe_int) (pa_cons pe_non pa_nil))) (pe_callTy call_int1 (by rfl) T.n_int (by decide +kernel) (pa_cons (pe_cmpR op_eq (pe_call (ok_law_next T) (hr.mono (by decide)) rfl T.g_law_next T.F_law_next.kp T.d_law_next .nil pass0 (pa_cons (pv 1) (pa_cons pe_int pa_nil))) pe_int (nomark _)) pa_nil)) (fun _ _ => rfl))))
      (pss_cons (ps_if (pt_cmpR op_notN (pe_meth (pv 7) T.cl_Store T.m_Store_look (ok_Store_look T) (hr.mono (by decide)) T.d_Store_look .nil pass0 (pa_cons (pv 8) pa_nil)) pe_non (nomark _))
      (pss_one (ps_ret pe_bl))
      pss_nil)
      (Evl.pss_cut (ps_set (i := 9) sc_law.nd rfl (Or.inl rfl) pe_dnewT)
      (pss_cons (ps_set (i := 10) sc_law.nd rfl (Or.inl rfl) (pe_lst pa_nil))
      (pss_cons (ps_for PassesOwn.never rfl (pi_range1 (by rfl) T.n_range (pa_cons (pe_op op_add pe_int (pe_callB (call_min2 rfl) (by rfl) T.n_min (by decide +kernel) (pa_cons (pe_op op_fdiv (pe_callB call_len_seq (by rfl) T.n_len PySem.boot_len (pa_cons (pv 0) pa_nil)) pe_int) (pa_cons pe_int pa_nil)))) pa_nil)) (pg_name (i := 11) sc_law.nd rfl (Or.inl rfl))
      (pss_cons (ps_set (i := 12) sc_law.nd rfl (Or.inl rfl) (pe_call (ok_law_words T) (hr.mono (by decide)) rfl T.g_law_words T.F_law_words.kp T.d_law_words .nil pass0 (pa_cons (pv 1) (pa_cons (pe_call (ok_law_next T) (hr.mono (by decide)) rfl T.g_law_next T.F_law_next.kp T.d_law_next .nil pass0 (pa_cons (pv 1) (pa_cons pe_int pa_nil))) pa_nil))))
      (Evl.pss_cut (ps_if (PW.pt (pw_and (pt_cmpR op_gt (pe_callB call_len_seq (by rfl) T.n_len PySem.boot_len (pa_cons (pv 10) pa_nil)) pe_int (nomark _)) (pw_and1 (pt_cmpR op_eq (pe_call (ok_law_next T) (hr.mono (by decide)) rfl T.g_law_next T.F_law_next.kp T.d_law_next .nil pass0 (pa_cons (pv 1) (pa_cons pe_int pa_nil))) pe_int (nomark _)))))
      (pss_one (ps_set (i := 12) sc_law.nd rfl (Or.inl rfl) (pe_callTy call_list_of (by rfl) T.n_list (by decide +kernel) (pa_cons (pe_ix ix_tup (pe_ix ix_list (pv 10) pe_int (fun _ _ => rfl)) pe_int (fun _ _ => rfl)) pa_nil))))
      pss_nil)
      (pss_cons (ps_set (i := 13) sc_law.nd rfl (Or.inl rfl) (pe_callTy call_list_of (by rfl) T.n_list (by decide +kernel) (pa_cons (pv 12) pa_nil)))
      (pss_cons (ps_set (i := 14) sc_law.nd rfl (Or.inl rfl) (pe_ix ix_list (pv 3) (pe_call (ok_law_next T) (hr.mono (by decide)) rfl T.g_law_next T.F_law_next.kp T.d_law_next .nil pass0 (pa_cons (pv 1) (pa_cons (pe_callB call_len_seq (by rfl) T.n_len PySem.boot_len (pa_cons (pv 3) pa_nil)) pa_nil))) (fun _ _ => rfl)))
      (Evl.pss_cut (ps_if (pt_cmpR op_eq (pe_call (ok_law_next T) (hr.mono (by decide)) rfl T.g_law_next T.F_law_next.kp T.d_law_next .nil pass0 (pa_cons (pv 1) (pa_cons pe_int pa_nil))) pe_int (nomark _))
      (pss_one (ps_set (i := 15) sc_law.nd rfl (Or.inl rfl) (pe_methK (pv 7) T.cl_Store T.m_Store_put (ok_Store_put T) (hr.mono (by decide)) T.kb_Store_put passL (pa_cons (pv 12) pa_nil) (pk_cons (pe_lst (pa_cons (pv 14) pa_nil)) pk_nil))))
      (pss_cons (ps_set (i := 15) sc_law.nd rfl (Or.inl rfl) (pe_meth (pv 7) T.cl_Store T.m_Store_put (ok_Store_put T) (hr.mono (by decide)) T.d_Store_put (.cons (show RelV (V.ref a.e_Store_put) (Value.ref a.e_Store_put) from rfl) .nil) passL (pa_cons (pv 12) pa_nil)))
      (pss_one (ps_set (i := 14) sc_law.nd rfl (Or.inl rfl) (pe_un un_neg pe_int)))))
      (Evl.pss_cut (ps_if (PW.pt (pw_or (pt_cmpR (op_neD hr.units) (pv 12) (pv 13) (nomark _)) (pw_or1 (pt_not (pt_val (pe_call (ok_law_is_pointer T) (hr.mono (by decide)) rfl T.g_law_is_pointer T.F_law_is_pointer.kp T.d_law_is_pointer .nil pass0 (pa_cons (pv 15) (pa_cons (pv 6) (pa_cons (pv 11) (pa_cons (pe_callB call_len_seq (by rfl) T.n_len PySem.boot_len (pa_cons (pv 13) pa_nil)) (pa_cons (pv 3) (pa_cons (pv 4) (pa_cons pe_int pa_nil)))))))))))))
      (pss_one (ps_ret pe_bl))
      pss_nil)
      (pss_cons (ps_expr (pe_bm PySem.F.plainAttrs_list PySem.F.slot_list_append PySem.F.type_list_append mt_append (pv 12) (pa_cons pe_int pa_nil)))
      (pss_cons (ps_for PassesOwn.never rfl (pi_tup (pe_ix ix_tup (pv 15) pe_int (fun _ _ => rfl))) (pg_name (i := 16) sc_law.nd rfl (Or.inl rfl))
      (pss_cons (ps_if (PW.pt (pw_or (pt_cmp (pc_din (hu_of hr) (pv 16) (pv 9))) (pw_or1 (pt_cmpR op_eq (pe_ix ix_tup (pv 16) pe_int (fun _ _ => rfl)) (pv 14) (nomark _)))))
      (pss_one (ps_ret pe_bl))
      pss_nil)
      (pss_one (ps_dput (hu_of hr) (pv 9) (pv 16) pe_bl rfl))))
      (pss_cons (ps_expr (pe_bm PySem.F.plainAttrs_list PySem.F.slot_list_append PySem.F.type_list_append mt_append (pv 10) (pa_cons (pe_tup (pa_cons (pv 15) (pa_cons (pv 13) pa_nil))) pa_nil)))
      (pss_one (ps_if (pt_not (pt_val (pe_call (ok_law_counts_right T) (hr.mono (by decide)) rfl T.g_law_counts_right T.F_law_counts_right.kp T.d_law_counts_right .nil pass0 (pa_cons (pv 7) (pa_cons (pv 3) (pa_cons (pv 9) pa_nil))))))
      (pss_one (ps_ret pe_bl))
      pss_nil))))))))))))
      (pss_cons (ps_for PassesOwn.never rfl (pi_list (pv 10)) (pg_name (i := 17) sc_law.nd rfl (Or.inl rfl))
      (pss_cons (ps_set (i := 18) sc_law.nd rfl (Or.inl rfl) (pe_meth (pv 7) T.cl_Store T.m_Store_get (ok_Store_get T) (hr.mono (by decide)) T.d_Store_get .nil pass0 (pa_cons (pe_ix ix_tup (pv 17) pe_int (fun _ _ => rfl)) pa_nil)))
      (pss_cons (ps_if (PW.pt (pw_or (pt_not (pt_val (pe_callB call_isi (by rfl) T.n_isinstance (by decide +kernel) (pa_cons (pv 18) (pa_cons (pe_bltn (v := .ty "list") (by rfl) T.n_list (by decide +kernel) rfl) pa_nil))))) (pw_or1 (pt_cmpR (op_neD hr.units) (pv 18) (pe_ix ix_tup (pv 17) pe_int (fun _ _ => rfl)) (nomark _)))))
      (pss_one (ps_ret pe_bl))
      pss_nil)
      (pss_cons (ps_expr (pe_bm PySem.F.plainAttrs_list PySem.F.slot_list_append PySem.F.type_list_append mt_append (pv 18) (pa_cons pe_int pa_nil)))
      (pss_one (ps_if (pt_cmpR (op_neD hr.units) (pe_meth (pv 7) T.cl_Store T.m_Store_get (ok_Store_get T) (hr.mono (by decide)) T.d_Store_get .nil pass0 (pa_cons (pe_ix ix_tup (pv 17) pe_int (fun _ _ => rfl)) pa_nil)) (pe_ix ix_tup (pv 17) pe_int (fun _ _ => rfl)) (nomark _))
      (pss_one (ps_ret pe_bl))
      pss_nil))))))
      (pss_cons (ps_setLc (i := 19) (own := [("block", 17)]) (g := (gName 17)) (by rfl) sc_law.nd rfl rfl (sw_true rfl rfl rfl (by decide +kernel)) (pi_list (pv 10)) (blkOk_by (own := [("block", 17)]) (N := ["script", "pot", "numbers", "members", "width", "data", "epoch", "store", "images", "taken", "blocks", "k", "words", "kept", "avoided", "pointer", "place", "block", "found", "live"]) (sc := defScope s_law) (by decide +kernel))
      (fun _ _ _ _ _ => (pg_name (i := 17) sc_law.nd rfl (Or.inl rfl))) (fun _ _ _ _ _ => (pts_one (pt_cmpR op_eq (pe_call (ok_law_next T) (hr.mono (by decide)) rfl T.g_law_next T.F_law_next.kp T.d_law_next .nil pass0 (pa_cons (pv 1) (pa_cons pe_int pa_nil))) pe_int (nomark _)))) (fun _ _ _ _ _ => (pv 17)))
      (pss_cons (ps_if (pt_cmpR op_notN (pe_meth (pv 7) T.cl_Store T.m_Store_trim (ok_Store_trim T) (hr.mono (by decide)) T.d_Store_trim .nil pass0 (pa_cons (pe_op op_cat (pe_lc (own := [("block", 17)]) (g := (gName 17)) (by rfl) sc_law.nd (pi_list (pv 19)) (blkOk_by (own := [("block", 17)]) (N := ["script", "pot", "numbers", "members", "width", "data", "epoch", "store", "images", "taken", "blocks", "k", "words", "kept", "avoided", "pointer", "place", "block", "found", "live"]) (sc := defScope s_law) (by decide +kernel))
      (fun _ _ _ _ _ => (pg_name (i := 17) sc_law.nd rfl (Or.inl rfl))) (fun _ _ _ _ _ => pts_nil) (fun _ _ _ _ _ => (pe_ix (by exact ix_tup : IxR _ (rIxT K)) (pv 17) pe_int (fun _ _ => rfl)))) (pe_lc (own := [("block", 17)]) (g := (gName 17)) (by rfl) sc_law.nd (pi_list (pe_slice sl_list (pv 19) po_none (po_some pe_int))) (blkOk_by (own := [("block", 17)]) (N := ["script", "pot", "numbers", "members", "width", "data", "epoch", "store", "images", "taken", "blocks", "k", "words", "kept", "avoided", "pointer", "place", "block", "found", "live"]) (sc := defScope s_law) (by decide +kernel))
      (fun _ _ _ _ _ => (pg_name (i := 17) sc_law.nd rfl (Or.inl rfl))) (fun _ _ _ _ _ => pts_nil) (fun _ _ _ _ _ => (pe_ix (by exact ix_tup : IxR _ (rIxT K)) (pv 17) pe_int (fun _ _ => rfl))))) pa_nil)) pe_non (nomark _))
      (pss_one (ps_ret pe_bl))
      pss_nil)
      (Evl.pss_cut (ps_set (i := 9) sc_law.nd rfl (Or.inl rfl) pe_dnewT)
      (pss_cons (ps_for PassesOwn.never rfl (pi_list (pv 19)) (pg_name (i := 17) sc_law.nd rfl (Or.inl rfl))
      (pss_cons (ps_for PassesOwn.never rfl (pi_tup (pe_ix ix_tup (pe_ix ix_tup (pv 17) pe_int (fun _ _ => rfl)) pe_int (fun _ _ => rfl))) (pg_name (i := 16) sc_law.nd rfl (Or.inl rfl))
      (pss_one (ps_dput (hu_of hr) (pv 9) (pv 16) pe_bl rfl)))
      (pss_one (ps_if (pt_cmpR (op_neD hr.units) (pe_meth (pv 7) T.cl_Store T.m_Store_get (ok_Store_get T) (hr.mono (by decide)) T.d_Store_get .nil pass0 (pa_cons (pe_ix ix_tup (pv 17) pe_int (fun _ _ => rfl)) pa_nil)) (pe_ix ix_tup (pv 17) pe_int (fun _ _ => rfl)) (nomark _))
      (pss_one (ps_ret pe_bl))
      pss_nil))))
      (pss_one (ps_ret (pe_and (pe_call (ok_law_counts_right T) (hr.mono (by decide)) rfl T.g_law_counts_right T.F_law_counts_right.kp T.d_law_counts_right .nil pass0 (pa_cons (pv 7) (pa_cons (pv 3) (pa_cons (pv 9) pa_nil)))) (pe_one (pe_call (ok_law_refused T) (hr.mono (by decide)) rfl T.g_law_refused T.F_law_refused.kp T.d_law_refused .nil pass0 (pa_cons (pv 7) (pa_cons (pe_op op_rep (pe_lst (pa_cons pe_int pa_nil)) (pe_op op_add (pe_op op_mul pe_int (pv 5)) pe_int)) pa_nil)))))))))))))))))))))))), ?_⟩
    refine ⟨_, rfl, s, ns, rfl, hS, by omega, fun p l H1 hp hl s1 P1 => ?_⟩
    have sS : ∀ {H' : Hp}, But p H1 H' → SqL K H' s (ns.map V.int) := fun {H'} b => seq_keep hS fun o e => b _ _ (s1 _ _ e) (ne_of_none e hp)
    -- numbers
    refine ⟨8, rfl, by decide, by decide, fun N nN => lc_it walk_range (n := 8) (fun i H' => Same H1 H' ∧ H' N = some (.lst ((upto i).map V.int))) ⟨Same.new nN, upd_same⟩ (fun _ _ _ _ => True.intro) ?_ ?_⟩
    · rintro i y H2 H3 hi ⟨s2, hD⟩ ⟨rfl, rfl⟩
      refine ⟨rfl, _, rfl, _, hD, small _ (by rw [List.length_map, upto_len]; omega), same_put s2 nN, ?_⟩
      rw [upd_same]
      unfold upto
      rw [List.range_succ, List.map_append, List.map_append]
      simp
    rintro H2 ⟨s2, dN⟩
    have P2 := P1.same s2
    have oN := P1.off nN
    -- members
    refine ⟨_, rfl, p, l, 5, rfl, P2, by decide, by decide, fun c H3 c0 c1 P3 o3 => ⟨_, _, rfl, rfl, ?_⟩⟩
    obtain ⟨mc, emc⟩ : ∃ n : Nat, 2 + c = (n : Int) := ⟨(2 + c).toNat, by omega⟩
    dsimp only
    rw [emc]
    have mc2 : 2 ≤ mc := by omega
    have mc6 : mc ≤ 6 := by omega
    have Np : N ≠ p := oN.1.symm
    have dN3 := o3.but _ _ dN Np
    have b3 : But p H1 H3 := s2.but.trans o3.but
    clear c0 c1 emc P2 o3 s2 dN
    refine ⟨_, rfl, by omega, by omega, fun M nM => ?_⟩
    rw [Int.toNat_natCast]
    have nM1 : H1 M = none := but_none b3 (P3.off nM).1.symm nM
    have oM := P3.off nM
    have NM : N ≠ M := ne_of_none dN3 nM
    refine lc_it walk_range (n := mc) (fun i H' => ∃ ds xs : List Int, But p H1 H' ∧ Pot H' p l ∧ H' N = some (.lst (ds.map V.int)) ∧ H' M = some (.lst (xs.map V.int)) ∧ xs.length = i ∧ ds.length + i = 8 ∧ (∀ x ∈ ds ++ xs, 0 ≤ x ∧ x < 8) ∧ (ds ++ xs).Nodup) ⟨upto 8, [], b3.trans (Same.new nM).but, P3.same (Same.new nM), Same.new nM _ _ dN3, upd_same, rfl, by rw [upto_len], by decide, by decide⟩ (fun _ _ _ _ => True.intro) ?_ ?_
    · clear P3 b3 dN3
      rintro i y H4 H5 hi ⟨ds, xs, b4, P4, dN4, dM4, lx, ld, rx, nd⟩ ⟨rfl, rfl⟩
      have hD0 : 0 < ds.length := by omega
      refine ⟨rfl, _, rfl, .inl ⟨rfl, _, SqL.of dN4⟩, _, rfl, _, rfl, N, _, rfl, .inl (SqL.of dN4), p, l, (ds.length : Int), by rw [List.length_map]; rfl, P4, by omega, by omega, fun v H6 v0 v1 P6 o6 => ?_⟩
      obtain ⟨vn, rfl⟩ : ∃ n : Nat, v = (n : Int) := ⟨v.toNat, by omega⟩
      have hv : vn < ds.length := by omega
      have hx : ds[vn]? = some ds[vn] := List.getElem?_eq_getElem hv
      have dN6 := o6.but _ _ dN4 Np
      have dM6 := o6.but _ _ dM4 oM.1.symm
      refine ⟨N, _, _, vn, _, rfl, rfl, dN6, by omega, by omega, seqIx_nat (by rw [List.length_map]; omega), by rw [List.getElem?_map, hx]; rfl, ?_⟩
      have er : (ds.map V.int).eraseIdx vn = (ds.eraseIdx vn).map V.int := erase_map _ _ _
      rw [er]
      have P7 : Pot (upd H6 N (.lst ((ds.eraseIdx vn).map V.int))) p l := P6.only Only.upd oN.1 oN.2
      have pm : (ds.eraseIdx vn ++ (xs ++ [ds[vn]])).Perm (ds ++ xs) := by
        rw [← List.append_assoc]
        exact (List.perm_append_singleton _ _).trans (List.Perm.append_right _ (erase_perm ds vn hv))
      have dM7 : upd H6 N (.lst ((ds.eraseIdx vn).map V.int)) M = some (.lst (xs.map V.int)) := by rw [upd_ne NM.symm]; exact dM6
      refine ⟨_, dM7, small _ (by rw [List.length_map]; omega), ds.eraseIdx vn, xs ++ [ds[vn]], fun b o e n => ?_, P7.only Only.upd oM.1 oM.2, ?_, ?_, by rw [List.length_append, lx]; rfl, by rw [List.length_eraseIdx, if_pos hv]; omega, fun x m => rx x (pm.mem_iff.mp m), pm.nodup_iff.mpr nd⟩
      · rw [upd_ne (ne_of_none e nM1), upd_ne (ne_of_none e (same_none (Same.refl _) nN))]
        exact o6.but _ _ (b4 b o e n) n
      · rw [upd_ne NM]
        exact upd_same
      · rw [upd_same, List.map_append]
        rfl
    rintro H4 ⟨ds, xs, b4, P4, dN4, dM4, lx, ld, rx, nd⟩
    refine ⟨M, xs, rfl, SqL.of dM4, by omega, fun ms ML perm asc nML => ?_⟩
    have msn : ms.Nodup := perm.nodup_iff.mpr (List.nodup_append.mp nd).2.1
    have ms8 : ∀ x ∈ ms, 0 ≤ x ∧ x < 8 := fun x m => rx x (List.mem_append_right _ (perm.mem_iff.mp m))
    have mst : ms.Pairwise (· < ·) := (asc.and msn).imp fun h => by omega
    have lms : ms.length = mc := by rw [perm.length_eq, lx]
    have P5 := P4.new (o := .lst (ms.map V.int)) nML
    have b5 := b4.new (o := .lst (ms.map V.int)) nML
    have dML : upd H4 ML (.lst (ms.map V.int)) ML = some (.lst (ms.map V.int)) := upd_same
    have oML := P4.off nML
    have MLp : ML ≠ p := oML.1.symm
    generalize upd H4 ML (.lst (ms.map V.int)) = H5 at P5 b5 dML ⊢
    clear dN4 dM4 perm asc msn nd rx ld lx P4 b4 nML P3 dN3 b3 nM NM oM xs ds
    -- width, data, epoch
    refine ⟨_, rfl, _, rfl, ML, _, rfl, .inl (SqL.of dML), _, _, rfl, rfl, p, l, ((mc - 1 : Nat) : Int), by rw [List.length_map, lms, show ((mc - 1 : Nat) : Int) = (mc : Int) - 1 by omega]; rfl, P5, by omega, by omega, fun wv H6 w0 w1 P6 o6 => ⟨_, _, rfl, rfl, ?_⟩⟩
    obtain ⟨w, ew⟩ : ∃ n : Nat, 1 + wv = (n : Int) := ⟨(1 + wv).toNat, by omega⟩
    dsimp only
    rw [ew]
    have w1' : 1 ≤ w := by omega
    have wm : w ≤ mc - 1 := by omega
    refine ⟨_, rfl, _, rfl, p, l, (w : Int), rfl, P6, by omega, by omega, fun dv H7 d0 d1 P7 o7 => ⟨_, _, rfl, rfl, ?_⟩⟩
    obtain ⟨d, ed⟩ : ∃ n : Nat, 1 + dv = (n : Int) := ⟨(1 + dv).toNat, by omega⟩
    dsimp only
    rw [ed]
    have d1' : 1 ≤ d := by omega
    have dw : d ≤ w := by omega
    refine ⟨_, rfl, p, l, 65520, rfl, P7, by decide, by decide, fun ev H8 e0 e1 P8 o8 => ⟨_, _, rfl, rfl, ?_⟩⟩
    obtain ⟨ep, eep⟩ : ∃ ep : Int, ep = 1 + ev := ⟨_, rfl⟩
    dsimp only
    rw [← eep]
    clear w0 w1 d0 d1 e0 e1 ew ed eep
    have b8 : But p H1 H8 := ((b5.trans o6.but).trans o7.but).trans o8.but
    have dML8 : H8 ML = some (.lst (ms.map V.int)) := o8.but _ _ (o7.but _ _ (o6.but _ _ dML MLp) MLp) MLp
    clear o6 o7 o8 P5 P6 P7 b5 dML
    -- store
    refine ⟨_, rfl, _, rfl, _, rfl, _, _, rfl, rfl, _, rfl, _, rfl, rfl, rfl, fun S dx nS ndx nSd => ⟨S, dx, ML, d, w - d, 64, ep, ms, by rw [show ((w - d : Nat) : Int) = (w : Int) - (d : Int) by omega]; rfl, upd_same, by rw [upd_ne (ne_of_none dML8 nS), upd_ne (ne_of_none dML8 ndx)]; exact dML8, mst, ms8, by omega, by decide, by decide, fun m H9 st q1 q2 q3 q4 q5 q6 q7 fr9 sr9 => ⟨rfl, ?_⟩⟩⟩
    have b89 : ∀ b o, H8 b = some o → H9 b = some o := fun b o e => fr9 b o (by rw [upd_ne (ne_of_none e nS), upd_ne (ne_of_none e ndx)]; exact e) (ne_of_none e nS)
    have sr8 : ∀ b, StR S m b → H8 b = none := fun b r => by
      rcases sr9 b r with z | z
      · rw [z]; exact nS
      · by_cases c : b = S
        · rw [c, upd_same] at z; cases z
        · rw [upd_ne c] at z
          by_cases c2 : b = dx
          · rw [c2, upd_same] at z; cases z
          · rw [upd_ne c2] at z
            exact z
    have P9 : Pot H9 p l := P8.same b89
    have b9 : But p H1 H9 := b8.trans (Same.but b89)
    have dML9 := b89 _ _ dML8
    clear fr9 sr9 nSd ndx
    -- images
    refine ⟨fun σ H' => ∃ (I : Addr) (ims : List (Option Addr)), σ = [some (.ref s), some (.ref p), some (.ref N), some (.ref ML), some (.int (w : Int)), some (.int (d : Int)), some (.int ep), some (.ref S), some (.ref I), none, none, none, none, none, none, none, none, none, none, none] ∧ Pot H' p l ∧ But p H9 H' ∧ H' I = some (.lst (ims.map refI)) ∧ ims.length = 8 ∧ ¬ StR S m I ∧ I ≠ p ∧ H8 I = none, ?_, ?_⟩
    · refine ⟨8, rfl, by decide, by decide, fun I nI => lc_it walk_range (n := 8) (fun i H' => ∃ ims : List (Option Addr), Pot H' p l ∧ But p H9 H' ∧ H' I = some (.lst (ims.map refI)) ∧ ims.length = i) ⟨[], P9.same (Same.new nI), (Same.new nI).but, upd_same, rfl⟩ (fun _ _ _ _ => True.intro) ?_ ?_⟩
      · rintro i y H2 H3 hi ⟨ims, P11, b11, dI11, lI⟩ ⟨rfl, rfl⟩
        have offI := P9.off nI
        refine ⟨rfl, by show 1 ≤ sizeLine; decide, fun q1 n1 => ?_⟩
        refine ⟨q1, 64, _, rfl, rfl, upd_same, by decide, by decide, by show 1 * 64 ≤ sizeLine; decide, fun A nA => ?_⟩
        have sA := (Same.new (o := .lst [V.non]) n1).trans (Same.new (o := .lst (List.replicate (Int.toNat 64) [V.non]).flatten) nA)
        generalize upd (upd H3 q1 (.lst [V.non])) A (.lst (List.replicate (Int.toNat 64) [V.non]).flatten) = H4 at sA ⊢
        refine ⟨by show 2 ≤ sizeLine; decide, fun q2 n2 => ?_⟩
        have sB := sA.trans (Same.new (o := .lst [V.ref A, V.non]) n2)
        have dq2 : upd H4 q2 (.lst [V.ref A, V.non]) q2 = some (.lst [V.ref A, V.non]) := upd_same
        have nq2 := same_none sA n2
        generalize upd H4 q2 (.lst [V.ref A, V.non]) = H5 at sB dq2 ⊢
        have P12 := P11.same sB
        refine ⟨_, rfl, p, l, 4, rfl, P12, by decide, by decide, fun b H6 b0 b1 P13 o13 => ?_⟩
        refine ⟨rfl, .inr ⟨_, rfl, ?_⟩⟩
        have dq5 : H6 q2 = some (.lst [V.ref A, V.non]) := o13.but _ _ dq2 (P11.off nq2).1.symm
        have b13 : But p H9 H6 := b11.trans (sB.but.trans o13.but)
        have dI5 : H6 I = some (.lst (ims.map refI)) := o13.but _ _ (sB _ _ dI11) offI.1.symm
        have fin : ∀ (o : Option Addr), ∃ acc, H6 I = some (.lst acc) ∧ acc.length < sizeLine ∧ ∃ ims' : List (Option Addr), Pot (upd H6 I (.lst (acc ++ [refI o]))) p l ∧ But p H9 (upd H6 I (.lst (acc ++ [refI o]))) ∧ upd H6 I (.lst (acc ++ [refI o])) I = some (.lst (ims'.map refI)) ∧ ims'.length = i + 1 := fun o =>
          ⟨_, dI5, small _ (by rw [List.length_map]; omega), ims ++ [o], P13.only Only.upd offI.1 offI.2, fun b o' e nb => by rw [upd_ne (ne_of_none e nI)]; exact b13 b o' e nb, by rw [upd_same, List.map_append]; rfl, by rw [List.length_append, lI]; rfl⟩
        by_cases b3 : b = 3
        · subst b3
          exact ⟨q2, _, _, .non, rfl, rfl, SqL.of dq5, at_of (j := 1) rfl rfl, fin none⟩
        · rw [decide_eq_false (show ¬ V.int b = V.int 3 from fun z => b3 (V.int.inj z))]
          exact ⟨q2, _, _, .ref A, rfl, rfl, SqL.of dq5, at_of (j := 0) rfl rfl, fin (some A)⟩
      rintro H2 ⟨ims, P11, b11, dI11, lI⟩
      exact ⟨I, ims, rfl, P11, b11, dI11, lI, st.fresh nI, (P9.off nI).1.symm, same_none b89 nI⟩
    rintro σ H10 ⟨I, ims, rfl, P10, b10, dI10, lI, nIR, Ip, nI8⟩
    have pR : ∀ z o, H8 z = some o → ¬ StR S m z := fun z o e r => by rw [sr8 z r] at e; cases e
    have pP : ¬ StR S m p := by
      obtain ⟨_, _, _, hp2⟩ := P8.list
      exact pR _ _ hp2
    have st10 := st.keep fun b o e r => b10 b o e fun z => pP (by rw [← z]; exact r)
    refine ⟨_, rfl, S, m.dx, _, rfl, st10.hS, by kernel_rfl, _, rfl, S, I, m, rfl, st10, fun H11 st11 fr11 => ⟨rfl, _, rfl, iteF ?_⟩⟩
    obtain ⟨m1, hm1⟩ : ∃ m1 : SM, m1 = { m with I := I } := ⟨_, rfl⟩
    rw [← hm1] at st11
    have sr1 : ∀ b, StR S m1 b → StR S m b := fun b r => by rw [hm1] at r; exact str_I r
    have SP : S ≠ p := fun z => pP (by rw [← z]; exact .s)
    have SI : I ≠ S := fun z => nIR (by rw [z]; exact .s)
    have lS : l ≠ S := by
      obtain ⟨_, _, _, _, _, hl8, _⟩ := P8
      exact ne_of_none hl8 nS
    have P11 : Pot H11 p l := by
      obtain ⟨ns', i', acc, seed, h1, h2, h3⟩ := P10
      exact ⟨ns', i', acc, seed, fr11 _ _ h1 SP.symm, fr11 _ _ h2 lS, h3⟩
    have pL : ¬ StR S m l := by
      obtain ⟨_, _, _, _, _, hl8, _⟩ := P8
      exact pR _ _ hl8
    have dI11 := fr11 _ _ dI10 SI
    have dML11 : H11 ML = some (.lst (m1.ms.map V.int)) := by
      rw [hm1]
      show H11 ML = some (.lst (m.ms.map V.int))
      rw [q6]
      exact fr11 _ _ (b10 _ _ dML9 MLp) fun z => pR _ _ dML8 (by rw [z]; exact .s)
    have eI : m1.I = I := by rw [hm1]
    have e1 : m1.data = d ∧ m1.par = w - d ∧ m1.rows = 64 ∧ m1.made = 0 ∧ m1.ep = ep ∧ m1.ms = ms ∧ m1.bl = [] := by rw [hm1]; exact ⟨q1, q2, q3, q4, q5, q6, q7⟩
    have start : ∀ TK BK, H11 TK = none → upd H11 TK (.dT (takK [])) BK = none → R26 a (upd (upd H11 TK (.dT (takK []))) BK (.lst [])) S BK TK ML p l m1 [] [] ims := fun TK BK nT nB => by
      have s1 := Same.new (o := .dT (takK [])) nT
      have s2 := s1.trans (Same.new (o := .lst []) nB)
      have nB' := same_none s1 nB
      have oB := P11.off nB'
      refine ⟨st11.same s2, P11.same s2, by rw [eI]; exact s2 _ _ dI11, s2 _ _ dML11, upd_same, by rw [upd_ne (ne_of_none upd_same nB)]; exact upd_same, fun _ m => (nomatch m), fun x hx => ?_, ⟨by rw [eI]; exact Ip, MLp, oB.1.symm, fun _ m => (nomatch m)⟩, ⟨by rw [eI]; exact ne_of_none dI11 nB', ne_of_none dML11 nB', oB.2, fun _ m => (nomatch m)⟩⟩
      obtain ⟨o, ho⟩ := st11.there hx
      have hx' := sr1 x hx
      exact ⟨fun z => pP (by rw [← z]; exact hx'), fun z => pL (by rw [← z]; exact hx'), fun z => nIR (by rw [← eI, ← z]; exact hx'), fun z => pR _ _ dML8 (by rw [← z]; exact hx'), ne_of_none ho nB', ne_of_none ho nT, fun _ m => (nomatch m)⟩
    have hs11 : SqL K H11 s (ns.map V.int) := seq_keep hS fun o e => fr11 _ _ (b10 _ _ (b89 _ _ (b8 _ _ (s1 _ _ e) (ne_of_none e hp))) (ne_of_none e hp)) (ne_of_none (b8 _ _ (s1 _ _ e) (ne_of_none e hp)) nS)
    clear fr11 b10 st10 pR pP pL P10 dI10 nIR SP lS st11 dI11 dML11 sr1 sS
    -- taken
    refine ⟨fun σ H' => ∃ TK, σ = [some (.ref s), some (.ref p), some (.ref N), some (.ref ML), some (.int (w : Int)), some (.int (d : Int)), some (.int ep), some (.ref S), some (.ref I), some (.ref TK), none, none, none, none, none, none, none, none, none, none] ∧ H11 TK = none ∧ H' = upd H11 TK (.dT (takK [])), ?_, ?_⟩
    · refine fun TK nT => ⟨TK, rfl, nT, rfl⟩
    rintro σ H12 ⟨TK, rfl, nT, rfl⟩
    refine ⟨Nat.zero_le _, fun BK nB => ?_⟩
    have R12 := start TK BK nT nB
    have hs12 := ((Same.new (o := .dT (takK [])) nT).trans (Same.new (o := .lst []) nB)).seq hs11
    clear hs11 start
    generalize upd (upd H11 TK (.dT (takK []))) BK (.lst []) = H12 at R12 hs12 ⊢
    have M12 : M26 m1 [] d w ep ms I 0 := ⟨e1.1, e1.2.1, e1.2.2.1, e1.2.2.2.2.1, e1.2.2.2.2.2.1, eI, e1.2.2.2.1, e1.2.2.2.2.2.2, rfl, fun _ m => (nomatch m)⟩
    have K12 : plcs m1.bl = [] := by rw [e1.2.2.2.2.2.2]; rfl
    clear e1 eI hm1 st sr8 q1 q2 q3 q4 q5 q6 q7 nS nT nB b89 P9 b9 dML9 Ip nI8 P8 b8 dML8 P11 SI
    refine ⟨_, rfl, s, _, rfl, .inl hs12, _, _, rfl, rfl, ⟨by decide, by decide⟩, _, _, rfl, _, _, rfl, rfl, _, rfl, by rw [List.length_map]; split <;> omega, by rw [List.length_map]; split <;> omega, ?_⟩
    rw [List.length_map]
    have t21 : (1 + (if (20 : Int) < ((ns.length : Nat) : Int) / 3 then 20 else ((ns.length : Nat) : Int) / 3)).toNat ≤ 21 := by split <;> omega
    generalize (1 + (if (20 : Int) < ((ns.length : Nat) : Int) / 3 then 20 else ((ns.length : Nat) : Int) / 3)).toNat = turns at t21 ⊢
    refine for_range (lo := 0) (n := turns) (fun i σ H' => ∃ (v11 v12 v13 v14 v15 v16 : Option V) (m' : SM) (bs : List Ln), σ = [some (.ref s), some (.ref p), some (.ref N), some (.ref ML), some (.int (w : Int)), some (.int (d : Int)), some (.int ep), some (.ref S), some (.ref I), some (.ref TK), some (.ref BK), v11, v12, v13, v14, v15, v16, none, none, none] ∧ M26 m' bs d w ep ms I i ∧ R26 a H' S BK TK ML p l m' (plcs m'.bl) bs ims) ⟨none, none, none, none, none, none, m1, [], rfl, M12, by rw [K12]; exact R12⟩ ?_ ?_
    · clear R12 M12 K12 hs12 m1 H12
      rintro i σ H2 hi ⟨v11, v12, v13, v14, v15, v16, m', bs, rfl, M, R⟩
      rw [show (0 : Int) + (i : Int) = (i : Int) from Int.zero_add _]
      refine ⟨_, rfl, _, rfl, p, l, 41, rfl, R.P, by decide, by decide, fun nw H3 n0 n1 P3 o3 => ⟨p, l, nw, rfl, P3, n0, by omega, fun W ws H4 lw _ nW dW b4 P4 => ?_⟩⟩
      have R3 := R.draw P3 o3.but
      have offW := R3.off nW
      have R4 := R3.draw P4 b4
      have lw40 : ws.length ≤ 40 := by omega
      clear R R3 P3 o3 b4 P4 nW lw H3
      refine ⟨fun σ H' => ∃ (W : Addr) (ws : List Int), σ = [some (.ref s), some (.ref p), some (.ref N), some (.ref ML), some (.int (w : Int)), some (.int (d : Int)), some (.int ep), some (.ref S), some (.ref I), some (.ref TK), some (.ref BK), some (.int (i : Int)), some (.ref W), v13, v14, v15, v16, none, none, none] ∧ R26 a H' S BK TK ML p l m' (plcs m'.bl) bs ims ∧ H' W = some (.lst (ws.map V.int)) ∧ ¬ Ro S BK TK ML p l m' bs W ∧ ws.length ≤ 40, ?_, ?_⟩
      · refine ⟨_, rfl, BK, _, rfl, .inl (SqL.of R4.bk), _, _, rfl, rfl, _, rfl, ite2 (fun c => ?_) (fun c => iteF ⟨W, ws, rfl, R4, dW, offW, lw40⟩)⟩
        have c := of_decide_eq_true c
        rw [List.length_map] at c
        refine ⟨_, rfl, p, l, 4, rfl, R4.P, by decide, by decide, fun b H5 b0 b1 P5 o5 => ⟨rfl, _, rfl, ite2 (fun _ => ?_) (fun _ => ⟨W, ws, rfl, R4.draw P5 o5.but, o5.but _ _ dW (fun z => offW (by rw [z]; exact .p)), offW, lw40⟩)⟩⟩
        have R5 := R4.draw P5 o5.but
        have c0 : 0 < bs.length := by omega
        have h0 : bs[0]? = some bs[0] := List.getElem?_eq_getElem c0
        have m0 := List.mem_of_getElem? h0
        refine ⟨_, rfl, BK, _, _, V.ref bs[0].t, rfl, rfl, SqL.of R5.bk, at_of (j := 0) rfl (by rw [List.getElem?_map, h0]; rfl), bs[0].t, _, _, V.ref bs[0].k, rfl, rfl, SqT.of (R5.pr _ m0).1, at_of (j := 1) rfl rfl, bs[0].k, _, rfl, .inl (SqL.of (R5.pr _ m0).2), fun D nD => ?_⟩
        exact ⟨D, bs[0].b.ws, rfl, R5.same (Same.new nD), upd_same, R5.off nD, M.ws _ m0⟩
      rintro σ H5 ⟨W, ws, rfl, R5, dW, offW, lw40⟩
      refine ⟨_, rfl, W, _, rfl, .inl (SqL.of dW), fun Kp nK => ?_⟩
      have R6 := R5.same (Same.new (o := .lst (ws.map V.int)) nK)
      have dW6 : upd H5 Kp (.lst (ws.map V.int)) W = some (.lst (ws.map V.int)) := Same.new nK _ _ dW
      have dK6 : upd H5 Kp (.lst (ws.map V.int)) Kp = some (.lst (ws.map V.int)) := upd_same
      have offK := R5.off nK
      have WK : W ≠ Kp := ne_of_none dW nK
      generalize upd H5 Kp (.lst (ws.map V.int)) = H6 at R6 dW6 dK6 ⊢
      clear R5 dW nK R4
      have Wp : W ≠ p := fun z => offW (by rw [z]; exact .p)
      have Kpp : Kp ≠ p := fun z => offK (by rw [z]; exact .p)
      have lm : m'.ms.length = mc := by rw [M.ms]; exact lms
      refine ⟨_, rfl, _, rfl, _, rfl, ML, _, rfl, .inl (SqL.of R6.ml), p, l, ((mc : Nat) : Int), by rw [List.length_map, lm]; rfl, R6.P, by omega, by omega, fun v H7 v0 v1 P7 o7 => ?_⟩
      obtain ⟨vn, rfl⟩ : ∃ n : Nat, v = (n : Int) := ⟨v.toNat, by omega⟩
      have hv : vn < m'.ms.length := by omega
      obtain ⟨av, hav⟩ : ∃ av, m'.ms[vn]? = some av := ⟨_, List.getElem?_eq_getElem hv⟩
      have R7 := R6.draw P7 o7.but
      have dW7 := o7.but _ _ dW6 Wp
      have dK7 := o7.but _ _ dK6 Kpp
      refine ⟨ML, _, _, .int av, rfl, rfl, SqL.of R7.ml, at_of (j := vn) rfl (by rw [List.getElem?_map, hav]; rfl), ?_⟩
      clear R6 P7 o7 dW6 dK6 v0 v1
      have nodup : m'.ms.Nodup := by rw [M.ms]; exact mst.imp fun h => Int.ne_of_lt h
      have wd : m'.data + m'.par = w := by rw [M.data, M.par]; omega
      have lbl : m'.bl.length = i := by rw [M.bl, List.length_map, M.len]
      refine ⟨fun σ H' => ∃ (b : Blk) (x : Int), σ = [some (.ref s), some (.ref p), some (.ref N), some (.ref ML), some (.int (w : Int)), some (.int (d : Int)), some (.int ep), some (.ref S), some (.ref I), some (.ref TK), some (.ref BK), some (.int (i : Int)), some (.ref W), some (.ref Kp), some (.int x), some (.ref b.T), v16, none, none, none] ∧ R26 a H' S BK TK ML p l (m'.put b) (plcs m'.bl) bs ims ∧ b.s = i ∧ b.ws = ws ∧ b.L.length = w ∧ (∀ e ∈ b.L, e.2.1 ≠ x) ∧ H' W = some (.lst (ws.map V.int)) ∧ H' Kp = some (.lst (ws.map V.int)) ∧ ¬ Ro S BK TK ML p l (m'.put b) bs W ∧ ¬ Ro S BK TK ML p l (m'.put b) bs Kp, ?_, ?_⟩
      · refine ⟨_, rfl, p, l, 2, rfl, R7.P, by decide, by decide, fun u H8 u0 u1 P8 o8 => ⟨rfl, _, rfl, ?_⟩⟩
        have R8 := R7.draw P8 o8.but
        have dW8 := o8.but _ _ dW7 Wp
        have dK8 := o8.but _ _ dK7 Kpp
        clear R7 P8 o8 dW7 dK7 u0 u1
        have post : ∀ (av' : List Int) (H9 : Hp), Same H8 H9 → ∀ (b : Blk) (H' : Hp), Stor a H' S (m'.put b) → b.s = m'.made → b.ws = ws → b.L.length = m'.data + m'.par → (∀ x o, H9 x = some o → ¬ StR S m' x → H' x = some o) → (∀ x, StR S (m'.put b) x → StR S m' x ∨ H9 x = none) → R26 a H' S BK TK ML p l (m'.put b) (plcs m'.bl) bs ims ∧ b.s = i ∧ b.ws = ws ∧ b.L.length = w ∧ H' W = some (.lst (ws.map V.int)) ∧ H' Kp = some (.lst (ws.map V.int)) ∧ ¬ Ro S BK TK ML p l (m'.put b) bs W ∧ ¬ Ro S BK TK ML p l (m'.put b) bs Kp := fun av' H9 s9 b H' st' es ew eL fr up =>
          ⟨(R8.same s9).store st' rfl rfl fr up, by rw [es, M.made], ew, by rw [eL, wd], fr _ _ (s9 _ _ dW8) fun z => offW (.st _ z), fr _ _ (s9 _ _ dK8) fun z => offK (.st _ z), R26.ro (a := a) (m := m') rfl up (s9 _ _ dW8) offW, R26.ro (a := a) (m := m') rfl up (s9 _ _ dK8) offK⟩
        refine ite2 (fun _ => ?_) (fun _ => ?_)
        · refine ⟨_, rfl, S, m'.dx, _, rfl, R8.st.hS, by kernel_rfl, _, rfl, _, rfl, by show 1 ≤ sizeLine; decide, fun Av nAv => ?_⟩
          have sA := Same.new (o := .lst [V.int av]) nAv
          have dA : upd H8 Av (.lst [V.int av]) Av = some (.lst [V.int av]) := upd_same
          refine ⟨rfl, rfl, S, W, Av, m', ws, [av], ims, rfl, (R8.same sA).st, SqL.of (sA _ _ dW8), fun z => offW (.st _ z), .inl (SqL.of dA), SqL.of (R8.same sA).im, by omega, by omega, by rw [M.rows]; decide, by omega, by rw [M.data]; exact d1', by omega, fun z => absurd z (by rw [M.data]; omega), fun _ => ⟨?_, by rw [M.rows, lbl]; omega, by omega, fun b H' st' es ew eL ea fr up => ?_⟩⟩
          · have := avoid_len (x := av) nodup
            omega
          · obtain ⟨g1, g2, g3, g4, g5⟩ := post [av] _ sA b H' st' es ew eL fr up
            exact ⟨b, av, rfl, g1, g2, g3, g4, fun e me z => ea e me (by rw [z]; simp), g5⟩
        · refine ⟨_, rfl, S, m'.dx, _, rfl, R8.st.hS, by kernel_rfl, _, rfl, S, W, _, m', ws, [], ims, rfl, R8.st, SqL.of dW8, fun z => offW (.st _ z), .inr (.inr T.e_Store_put), SqL.of R8.im, by omega, by omega, by rw [M.rows]; decide, by omega, by rw [M.data]; exact d1', by omega, fun z => absurd z (by rw [M.data]; omega), fun _ => ⟨?_, by rw [M.rows, lbl]; omega, by omega, fun b H' st' es ew eL ea fr up => ?_⟩⟩
          · have : (m'.ms.filter fun d => decide (d ∉ ([] : List Int))) = m'.ms := List.filter_eq_self.mpr fun _ _ => by simp
            rw [this]
            omega
          · obtain ⟨g1, g2, g3, g4, g5⟩ := post [] _ (Same.refl _) b H' st' es ew eL fr up
            refine ⟨_, rfl, b, -1, rfl, g1, g2, g3, g4, fun e me z => ?_, g5⟩
            have := g1.st.m0 _ (g1.st.row b (List.mem_append_right _ (by simp)) e me).1
            omega
      rintro σ H8 ⟨b, x, rfl, R8, es, rfl, eL, ea, dW8, dK8, offW8, offK8⟩
      clear R7 dW7 dK7 offW offK nodup hav av
      have hmb : b ∈ (m'.put b).bl := List.mem_append_right _ (by simp)
      refine ⟨fun σ H' => σ = [some (.ref s), some (.ref p), some (.ref N), some (.ref ML), some (.int (w : Int)), some (.int (d : Int)), some (.int ep), some (.ref S), some (.ref I), some (.ref TK), some (.ref BK), some (.int (i : Int)), some (.ref W), some (.ref Kp), some (.int x), some (.ref b.T), v16, none, none, none] ∧ Same H8 H', ?_, ?_⟩
      · refine ⟨_, rfl, _, rfl, _, _, dp_ints (SqL.of dW8), dp_ints (SqL.of dK8), shaped_ints _, shaped_ints _, _, rfl, ?_⟩
        rw [eqv_ints, decide_eq_true rfl]
        refine iteF ⟨_, rfl, _, rfl, _, rfl, _, rfl, Kp, _, rfl, .inl (SqL.of dK8), _, rfl, _, rfl, b, ep, ML, ms, w, 64, by rw [List.length_map, es]; rfl, ?_, ?_, eL, by omega, R8.st.asc b hmb, fun e me => ?_, fun H' s' => ⟨true, rfl, iteF ⟨rfl, s'⟩⟩⟩
        · have := R8.st.blk b hmb
          rw [show (m'.put b).ep = ep from M.ep] at this
          exact this
        · have := R8.ml
          rw [show (m'.put b).ms = ms from M.ms] at this
          exact SqL.of this
        · have h1 := R8.st.row b hmb e me
          have h2 := R8.st.m0 _ h1.1
          rw [show (m'.put b).ms = ms from M.ms, show (m'.put b).rows = 64 from M.rows] at h1
          exact ⟨h1.1, h2.1, h1.2⟩
      rintro σ H9 ⟨rfl, s9⟩
      have R9 := R8.same s9
      have dW9 := s9 _ _ dW8
      have dK9 := s9 _ _ dK8
      clear R8 s9 dW8 dK8
      refine ⟨_, rfl, .inl ⟨rfl, _, SqL.of dW9⟩, W, _, _, rfl, rfl, dW9, small _ (by rw [List.length_map]; omega), ?_⟩
      have R10 := R9.upd (o := .lst (b.ws.map V.int ++ [.int 1])) offW8
      have dK10 : upd H9 W (.lst (b.ws.map V.int ++ [.int 1])) Kp = some (.lst (b.ws.map V.int)) := by rw [upd_ne WK.symm]; exact dK9
      generalize upd H9 W (.lst (b.ws.map V.int ++ [.int 1])) = H10 at R10 dK10 ⊢
      clear R9 dW9 dK9 offW8
      have b10 := R10.st.blk b hmb
      have nd10 : (plcs m'.bl ++ b.L.map (·.2)).Nodup := by
        have := R10.st.dis
        rw [← plcs_snoc]
        exact this
      have KT : Kp ≠ TK := fun z => offK8 (by rw [z]; exact .tk)
      refine ⟨_, rfl, b.T, _, _, _, rfl, rfl, SqT.of b10.t, at_of (j := 3) rfl rfl, b.PT, rfl, ⟨_, SqT.of b10.pt⟩, for_tup (K := K) (a := b.PT) (xs := b.L.map fun q => V.ref q.1) (fun j σ H' => ∃ v16 : Option V, σ = [some (.ref s), some (.ref p), some (.ref N), some (.ref ML), some (.int (w : Int)), some (.int (d : Int)), some (.int ep), some (.ref S), some (.ref I), some (.ref TK), some (.ref BK), some (.int (i : Int)), some (.ref W), some (.ref Kp), some (.int x), some (.ref b.T), v16, none, none, none] ∧ R26 a H' S BK TK ML p l (m'.put b) (plcs m'.bl ++ (b.L.map (·.2)).take j) bs ims ∧ H' Kp = some (.lst (b.ws.map V.int))) ⟨v16, rfl, by rw [List.take_zero, List.append_nil]; exact R10, dK10⟩ (fun j σ H' _ ⟨_, _, r, _⟩ => SqT.of (r.st.blk b hmb).pt) ?_ ?_⟩
      · rintro j y σ H11 hy ⟨v, rfl, R11, dK11⟩
        obtain ⟨e, he, rfl⟩ : ∃ e, b.L[j]? = some e ∧ y = V.ref e.1 := by
          rw [List.getElem?_map] at hy
          cases z : b.L[j]? with
          | none => rw [z] at hy; cases hy
          | some e => rw [z] at hy; exact ⟨e, rfl, (Option.some.inj hy).symm⟩
        have me := List.mem_of_getElem? he
        have de := (R11.st.blk b hmb).q e me
        have he' : (b.L.map (·.2))[j]? = some e.2 := by rw [List.getElem?_map, he]; rfl
        have new := new_place nd10 he'
        have dk : DGet H11 TK (.ref e.1) none := by
          have := DGet.t (k := [(Sum.inl e.2.1 : Key), Sum.inl e.2.2]) R11.tk de
          rw [valV_takK new] at this
          exact this
        refine ⟨_, rfl, _, rfl, TK, none, rfl, dk, _, rfl, iteF ⟨_, rfl, e.1, _, _, .int e.2.1, rfl, rfl, SqT.of de, at_of (j := 0) rfl rfl, _, rfl, rfl, _, rfl, ?_⟩⟩
        rw [decide_eq_false (show ¬ V.int e.2.1 = V.int x from fun z => ea e me (V.int.inj z))]
        have lk : (takK (plcs m'.bl ++ (b.L.map (·.2)).take j)).length ≤ 1000 := by
          have h1 : (plcs (m'.put b).bl).length ≤ _ := R11.st.plcs_le
          rw [show (plcs (m'.put b).bl) = plcs m'.bl ++ b.L.map (·.2) from plcs_snoc _ _, show (m'.put b).ms = ms from M.ms, lms, List.length_append, show (m'.put b).bl.length = i + 1 by show (m'.bl ++ [b]).length = _; rw [List.length_append, lbl]; rfl] at h1
          have h2 : mc * (i + 1) ≤ 6 * 21 := Nat.mul_le_mul mc6 (by omega)
          unfold takK
          rw [List.length_map, List.length_append, List.length_take]
          omega
        refine iteF ⟨_, rfl, _, rfl, TK, _, rfl, DPut.t (k := [(Sum.inl e.2.1 : Key), Sum.inl e.2.2]) R11.tk de (small _ (by omega)), ?_⟩
        rw [putK_takK new]
        refine ⟨_, rfl, ?_, ?_⟩
        · rw [take_snoc he', ← List.append_assoc]
          exact R11.take _
        · rw [upd_ne KT]
          exact dK11
      rintro σ H11 ⟨v, rfl, R11, dK11⟩
      rw [List.length_map, List.take_of_length_le (by rw [List.length_map]; exact Nat.le_refl _), ← plcs_snoc] at R11
      refine ⟨_, rfl, .inl ⟨rfl, _, SqL.of R11.bk⟩, _, rfl, _, rfl, by show 2 ≤ sizeLine; decide, fun t nt => ⟨BK, _, _, rfl, rfl, Same.new nt _ _ R11.bk, small _ (by rw [List.length_map, M.len]; omega), ?_⟩⟩
      have R13 := (R11.same (Same.new (o := .tup [V.ref b.T, V.ref Kp]) nt)).more (e := ⟨t, b, Kp⟩) upd_same (Same.new nt _ _ dK11) (R11.off nt) offK8
      have lk : (plcs (m'.put b).bl).length ≤ 1000 := by
        have h1 : (plcs (m'.put b).bl).length ≤ _ := R11.st.plcs_le
        rw [show (m'.put b).ms = ms from M.ms, lms, show (m'.put b).bl.length = i + 1 by show (m'.bl ++ [b]).length = _; rw [List.length_append, lbl]; rfl] at h1
        have h2 : mc * (i + 1) ≤ 6 * 21 := Nat.mul_le_mul mc6 (by omega)
        omega
      refine ⟨_, rfl, _, rfl, _, rfl, S, ML, TK, m'.put b, _, rfl, R13.st, SqL.of R13.ml, by rw [show (m'.put b).ms = m'.ms from rfl, lm]; omega, M.rows, R13.tk, lk, fun d' _ => R13.st.used_eq d', fun H' s' => ⟨true, rfl, iteF ?_⟩⟩
      refine ⟨_, _, _, _, _, _, m'.put b, bs ++ [Ln.mk t b Kp], rfl, ⟨M.data, M.par, M.rows, M.ep, M.ms, M.I, by show m'.made + 1 = i + 1; rw [M.made], by show m'.bl ++ [b] = _; rw [List.map_append, M.bl]; rfl, by rw [List.length_append, M.len]; rfl, fun e me => ?_⟩, R13.same s'⟩
      rcases List.mem_append.mp me with me | me
      · exact M.ws e me
      · rw [List.mem_singleton.mp me]
        exact lw40
    clear R12 M12 K12 hs12
    rintro σ H2 ⟨v11, v12, v13, v14, v15, v16, m', bs, rfl, M, R⟩
    have lbs : bs.length ≤ 21 := by rw [M.len]; exact t21
    have inB : ∀ {e : Ln}, e ∈ bs → e.b ∈ m'.bl := fun {e} me => by rw [M.bl]; exact List.mem_map.mpr ⟨e, me, rfl⟩
    -- every block is read
    refine ⟨_, rfl, BK, rfl, ⟨_, SqL.of R.bk⟩, for_list (K := K) (a := BK) (xs := bs.map fun e => V.ref e.t) (fun j σ H' => ∃ v17 v18 : Option V, σ = [some (.ref s), some (.ref p), some (.ref N), some (.ref ML), some (.int (w : Int)), some (.int (d : Int)), some (.int ep), some (.ref S), some (.ref I), some (.ref TK), some (.ref BK), v11, v12, v13, v14, v15, v16, v17, v18, none] ∧ R26 a H' S BK TK ML p l m' (plcs m'.bl) bs ims) ⟨none, none, rfl, R⟩ (fun j σ H' _ ⟨_, _, _, r⟩ => SqL.of r.bk) ?_ ?_⟩
    · rintro j y σ H3 hy ⟨v17, v18, rfl, R3⟩
      obtain ⟨e, he, rfl⟩ := lns_item hy
      have me := List.mem_of_getElem? he
      refine ⟨_, rfl, S, m'.dx, _, rfl, R3.st.hS, by kernel_rfl, _, rfl, e.t, _, _, .ref e.b.T, rfl, rfl, SqT.of (R3.pr e me).1, at_of (j := 0) rfl rfl, S, m', e.b, rfl, R3.st, inB me, fun D H4 s4 nD dD => ?_⟩
      have R4 := R3.same s4
      have offD := R3.off nD
      refine ⟨_, rfl, _, _, _, _, true, rfl, .ty "list", .base (.lst dD), kit_ty (by decide +kernel), true, rfl, iteF ?_⟩
      refine ⟨_, rfl, _, rfl, e.t, _, _, .ref e.k, rfl, rfl, SqT.of (R4.pr e me).1, at_of (j := 1) rfl rfl, _, _, dp_ints (SqL.of dD), dp_ints (SqL.of (R4.pr e me).2), shaped_ints _, shaped_ints _, _, rfl, ?_⟩
      rw [eqv_ints, decide_eq_true rfl]
      refine iteF ⟨_, rfl, .inl ⟨rfl, _, SqL.of dD⟩, D, _, _, rfl, rfl, dD, small _ (by have := M.ws e me; rw [List.length_map]; omega), ?_⟩
      have R5 := R4.upd (o := .lst (e.b.ws.map V.int ++ [.int 5])) offD
      refine ⟨_, rfl, S, m'.dx, _, rfl, R5.st.hS, by kernel_rfl, _, rfl, e.t, _, _, .ref e.b.T, rfl, rfl, SqT.of (R5.pr e me).1, at_of (j := 0) rfl rfl, S, m', e.b, rfl, R5.st, inB me, fun D' H6 s6 nD' dD' => ?_⟩
      have R6 := R5.same s6
      refine ⟨_, rfl, e.t, _, _, .ref e.k, rfl, rfl, SqT.of (R6.pr e me).1, at_of (j := 1) rfl rfl, _, _, dp_ints (SqL.of dD'), dp_ints (SqL.of (R6.pr e me).2), shaped_ints _, shaped_ints _, _, rfl, ?_⟩
      rw [eqv_ints, decide_eq_true rfl]
      exact iteF ⟨_, _, rfl, R6⟩
    clear R H2
    rintro σ H2 ⟨v17, v18, rfl, R⟩
    -- live
    refine ⟨_, rfl, BK, rfl, ⟨_, SqL.of R.bk⟩, fun LV nLV => lc_list (K := K) (a := BK) (xs := bs.map fun e => V.ref e.t) (fun j H' => ∃ lv : List Ln, R26 a H' S BK TK ML p l m' (plcs m'.bl) bs ims ∧ H' LV = some (.lst (lv.map fun e => V.ref e.t)) ∧ lv.Sublist (bs.take j)) ⟨[], R.same (Same.new nLV), upd_same, List.nil_sublist _⟩ (fun j H' _ ⟨_, r, _⟩ => SqL.of r.bk) ?_ ?_⟩
    · rintro j y H3 hy ⟨lv, R3, dL3, sub⟩
      obtain ⟨e, he, rfl⟩ := lns_item hy
      have LVp : LV ≠ p := fun z => R.off nLV (by rw [z]; exact .p)
      refine ⟨rfl, _, rfl, p, l, 2, rfl, R3.P, by decide, by decide, fun v H4 v0 v1 P4 o4 => ⟨rfl, _, rfl, ite2 (fun _ => ?_) (fun _ => ?_)⟩⟩
      · have R4 := R3.draw P4 o4.but
        have l1 := sub.length_le
        rw [List.length_take] at l1
        refine ⟨_, rfl, _, o4.but _ _ dL3 LVp, small _ (by rw [List.length_map]; omega), lv ++ [e], R4.upd (R.off nLV), by rw [upd_same, List.map_append]; rfl, ?_⟩
        rw [take_snoc he]
        exact sub.append (List.Sublist.refl _)
      · refine ⟨lv, R3.draw P4 o4.but, o4.but _ _ dL3 LVp, sub.trans ?_⟩
        rw [take_snoc he]
        exact List.sublist_append_left _ _
    rintro H3 ⟨lv, R3, dL3, sub⟩
    have offLV := R.off nLV
    rw [List.length_map, List.take_length] at sub
    have llv := sub.length_le
    clear R nLV
    -- trim
    have mB : ∀ {e : Ln}, e ∈ lv → e ∈ bs := fun {e} me => sub.subset me
    refine ⟨_, rfl, S, m'.dx, _, rfl, R3.st.hS, by kernel_rfl, _, rfl, LV, rfl, ⟨_, SqL.of dL3⟩, fun A1 nA1 => lc_list (K := K) (a := LV) (xs := lv.map fun e => V.ref e.t) (fun j H' => Same H3 H' ∧ H' A1 = some (.lst ((lv.take j).map fun e => V.ref e.b.T))) ⟨Same.new nA1, upd_same⟩ (fun j H' _ q => SqL.of (q.1 _ _ dL3)) ?_ ?_⟩
    · rintro j y H4 hy ⟨s4, d4⟩
      obtain ⟨e, he, rfl⟩ := lns_item hy
      have me := mB (List.mem_of_getElem? he)
      exact ⟨rfl, _, rfl, e.t, _, _, .ref e.b.T, rfl, rfl, SqT.of (s4 _ _ (R3.pr e me).1), at_of (j := 0) rfl rfl, _, d4, small _ (by rw [List.length_map, List.length_take]; omega), same_put s4 nA1, by rw [upd_same, take_snoc he, List.map_append]; rfl⟩
    rintro H4 ⟨s4, d4⟩
    rw [List.length_map, List.take_length] at d4
    have ecut : cutV (lv.map fun e => V.ref e.t) none (some 2) = (lv.take 2).map fun e => V.ref e.t := by
      rw [show (2 : Int) = ((2 : Nat) : Int) from rfl, cut_take, List.map_take]
    refine ⟨_, rfl, _, rfl, LV, _, rfl, SqL.of (s4 _ _ dL3), fun Sl nSl => ?_⟩
    rw [ecut]
    have sS' := Same.new (o := .lst ((lv.take 2).map fun e => V.ref e.t)) nSl
    have dS : upd H4 Sl (.lst ((lv.take 2).map fun e => V.ref e.t)) Sl = some (.lst ((lv.take 2).map fun e => V.ref e.t)) := upd_same
    generalize upd H4 Sl (.lst ((lv.take 2).map fun e => V.ref e.t)) = H5 at sS' dS ⊢
    have l2 : (lv.take 2).length ≤ 2 := by rw [List.length_take]; omega
    refine ⟨Sl, rfl, ⟨_, SqL.of dS⟩, fun A2 nA2 => lc_list (K := K) (a := Sl) (xs := (lv.take 2).map fun e => V.ref e.t) (fun j H' => Same H5 H' ∧ H' A2 = some (.lst (((lv.take 2).take j).map fun e => V.ref e.b.T))) ⟨Same.new nA2, upd_same⟩ (fun j H' _ q => SqL.of (q.1 _ _ dS)) ?_ ?_⟩
    · rintro j y H6 hy ⟨s6, d6⟩
      obtain ⟨e, he, rfl⟩ := lns_item hy
      have me := mB ((List.take_sublist _ _).subset (List.mem_of_getElem? he))
      exact ⟨rfl, _, rfl, e.t, _, _, .ref e.b.T, rfl, rfl, SqT.of (s6 _ _ (sS' _ _ (s4 _ _ (R3.pr e me).1))), at_of (j := 0) rfl rfl, _, d6, small _ (by rw [List.length_map, List.length_take]; omega), same_put s6 nA2, by rw [upd_same, take_snoc he, List.map_append]; rfl⟩
    rintro H6 ⟨s6, d6⟩
    rw [List.length_map, List.take_length] at d6
    refine ⟨A1, A2, _, _, rfl, rfl, s6 _ _ (sS' _ _ d4), d6, Nat.le_of_lt (small _ (by rw [List.length_map, List.length_map]; omega)), fun A' nA => ?_⟩
    have s7 := ((s4.trans sS').trans s6).trans (Same.new (o := .lst ((lv.map fun e => V.ref e.b.T) ++ (lv.take 2).map fun e => V.ref e.b.T)) nA)
    have d7 : upd H6 A' (.lst ((lv.map fun e => V.ref e.b.T) ++ (lv.take 2).map fun e => V.ref e.b.T)) A' = some (.lst (((lv ++ lv.take 2).map fun e => e.b).map fun b => V.ref b.T)) := by
      rw [upd_same, List.map_map, List.map_append]
      rfl
    generalize upd H6 A' (.lst ((lv.map fun e => V.ref e.b.T) ++ (lv.take 2).map fun e => V.ref e.b.T)) = H7 at s7 d7 ⊢
    have R7 := R3.same s7
    have dL7 := s7 _ _ dL3
    have lbl : m'.bl.length = bs.length := by rw [M.bl, List.length_map]
    have eq2 : (m'.bl.filter fun b => decide (b.s ∈ ((lv ++ lv.take 2).map fun e => e.b).map (·.s))) = lv.map fun e => e.b := filter_sub (f := fun b => b.s) (by rw [M.bl]; exact sub.map _) R7.st.un _ fun x mx => by
      refine decide_eq_decide.mpr ?_
      rw [List.map_append, List.map_append, List.mem_append]
      refine ⟨fun z => z.elim id fun z => ?_, .inl⟩
      exact (((List.take_sublist 2 lv).map _).map _).subset z
    refine ⟨S, A', m', (lv ++ lv.take 2).map fun e => e.b, rfl, R7.st, SqL.of d7, fun b mb => ?_, by rw [List.length_map, List.length_append]; omega, by omega, by rw [M.rows]; decide, fun H8 st8 fr8 => ⟨rfl, _, rfl, iteF ?_⟩⟩
    · obtain ⟨e, me, rfl⟩ := List.mem_map.mp mb
      refine inB (mB ?_)
      rcases List.mem_append.mp me with me | me
      · exact me
      · exact (List.take_sublist _ _).subset me
    rw [eq2] at st8
    obtain ⟨m2, hm2⟩ : ∃ m2 : SM, m2 = m'.with (lv.map fun e => e.b) := ⟨_, rfl⟩
    rw [← hm2] at st8
    have R8 : R26 a H8 S BK TK ML p l m2 (plcs m'.bl) bs ims := R7.store st8 (by rw [hm2]; rfl) (by rw [hm2]; rfl) fr8 fun x hx => .inl (str_sub (bl := lv.map fun e => e.b) (fun b mb => by
      obtain ⟨e, me, rfl⟩ := List.mem_map.mp mb
      exact inB (mB me)) (by rw [← hm2]; exact hx))
    have dL8 := fr8 _ _ dL7 fun z => offLV (.st _ z)
    have bl2 : m2.bl = lv.map fun e => e.b := by rw [hm2]; rfl
    have ms2 : m2.ms = ms := by rw [hm2]; exact M.ms
    have r2 : m2.rows = 64 := by rw [hm2]; exact M.rows
    have da2 : m2.data = d := by rw [hm2]; exact M.data
    have pa2 : m2.par = w - d := by rw [hm2]; exact M.par
    have lk : (plcs m2.bl).length ≤ 1000 := by
      have h1 := R8.st.plcs_le
      rw [ms2, lms, bl2, List.length_map] at h1
      have h2 : mc * lv.length ≤ 6 * 21 := Nat.mul_le_mul mc6 (by omega)
      rw [bl2]
      omega
    clear R7 st8 fr8 d7 s7 nA d6 s6 nA2 dS sS' nSl d4 s4 nA1 dL3 R3 eq2 dL7 ecut
    -- taken, once more
    refine ⟨fun σ H' => ∃ TK' : Addr, σ = [some (.ref s), some (.ref p), some (.ref N), some (.ref ML), some (.int (w : Int)), some (.int (d : Int)), some (.int ep), some (.ref S), some (.ref I), some (.ref TK'), some (.ref BK), v11, v12, v13, v14, v15, v16, v17, v18, some (.ref LV)] ∧ R26 a H' S BK TK' ML p l m2 [] bs ims ∧ H' LV = some (.lst (lv.map fun e => V.ref e.t)), ?_, ?_⟩
    · exact fun TK' nT => ⟨TK', rfl, R8.retake nT, Same.new nT _ _ dL8⟩
    clear R8 dL8
    rintro σ H9 ⟨TK', rfl, R9, dL9⟩
    refine ⟨_, rfl, LV, rfl, ⟨_, SqL.of dL9⟩, for_list (K := K) (a := LV) (xs := lv.map fun e => V.ref e.t) (fun j σ H' => ∃ v16 v17 : Option V, σ = [some (.ref s), some (.ref p), some (.ref N), some (.ref ML), some (.int (w : Int)), some (.int (d : Int)), some (.int ep), some (.ref S), some (.ref I), some (.ref TK'), some (.ref BK), v11, v12, v13, v14, v15, v16, v17, v18, some (.ref LV)] ∧ R26 a H' S BK TK' ML p l m2 (plcs ((lv.map fun e => e.b).take j)) bs ims ∧ H' LV = some (.lst (lv.map fun e => V.ref e.t))) ⟨v16, v17, rfl, by rw [List.take_zero]; exact R9, dL9⟩ (fun j σ H' _ ⟨_, _, _, _, q⟩ => SqL.of q) ?_ ?_⟩
    · rintro j y σ H10 hy ⟨v16, v17, rfl, R10, dL10⟩
      obtain ⟨e, he, rfl⟩ := lns_item hy
      have me := List.mem_of_getElem? he
      have hb : (lv.map fun e => e.b)[j]? = some e.b := by rw [List.getElem?_map, he]; rfl
      have hmb : e.b ∈ m2.bl := by rw [bl2]; exact List.mem_of_getElem? hb
      have b10 := R10.st.blk e.b hmb
      have epl : plcs ((lv.map fun e => e.b).take (j + 1)) = plcs ((lv.map fun e => e.b).take j) ++ e.b.L.map (·.2) := by rw [take_snoc hb, plcs_snoc]
      have nd10 : (plcs ((lv.map fun e => e.b).take j) ++ e.b.L.map (·.2)).Nodup := by
        rw [← epl]
        refine List.Nodup.sublist (plcs_take _ _) ?_
        rw [← bl2]
        exact R10.st.dis
      have lk2 : (plcs ((lv.map fun e => e.b).take j) ++ e.b.L.map (·.2)).length ≤ 1000 := by
        rw [← epl]
        refine Nat.le_trans (plcs_take _ _).length_le ?_
        rw [← bl2]
        exact lk
      refine ⟨_, rfl, e.t, _, _, .ref e.b.T, rfl, rfl, SqT.of (R10.pr e (mB me)).1, at_of (j := 0) rfl rfl, e.b.T, _, _, _, rfl, rfl, SqT.of b10.t, at_of (j := 3) rfl rfl, e.b.PT, rfl, ⟨_, SqT.of b10.pt⟩, for_tup (K := K) (a := e.b.PT) (xs := e.b.L.map fun q => V.ref q.1) (fun i σ H' => ∃ v16 : Option V, σ = [some (.ref s), some (.ref p), some (.ref N), some (.ref ML), some (.int (w : Int)), some (.int (d : Int)), some (.int ep), some (.ref S), some (.ref I), some (.ref TK'), some (.ref BK), v11, v12, v13, v14, v15, v16, some (.ref e.t), v18, some (.ref LV)] ∧ R26 a H' S BK TK' ML p l m2 (plcs ((lv.map fun e => e.b).take j) ++ (e.b.L.map (·.2)).take i) bs ims ∧ H' LV = some (.lst (lv.map fun e => V.ref e.t))) ⟨v16, rfl, by rw [List.take_zero, List.append_nil]; exact R10, dL10⟩ (fun i σ H' _ ⟨_, _, r, _⟩ => SqT.of (r.st.blk e.b hmb).pt) ?_ ?_⟩
      · rintro i y σ H11 hy ⟨v, rfl, R11, dL11⟩
        obtain ⟨q, hq, rfl⟩ : ∃ q, e.b.L[i]? = some q ∧ y = V.ref q.1 := by
          rw [List.getElem?_map] at hy
          cases z : e.b.L[i]? with
          | none => rw [z] at hy; cases hy
          | some q => rw [z] at hy; exact ⟨q, rfl, (Option.some.inj hy).symm⟩
        have dq := (R11.st.blk e.b hmb).q q (List.mem_of_getElem? hq)
        have hq' : (e.b.L.map (·.2))[i]? = some q.2 := by rw [List.getElem?_map, hq]; rfl
        have new := new_place nd10 hq'
        have lk3 : (takK (plcs ((lv.map fun e => e.b).take j) ++ (e.b.L.map (·.2)).take i)).length ≤ 1000 := by
          unfold takK
          rw [List.length_append] at lk2
          rw [List.length_map, List.length_append, List.length_take]
          omega
        refine ⟨_, rfl, _, rfl, TK', _, rfl, DPut.t (k := [(Sum.inl q.2.1 : Key), Sum.inl q.2.2]) R11.tk dq (small _ (by omega)), ?_⟩
        rw [putK_takK new]
        refine ⟨_, rfl, ?_, ?_⟩
        · rw [take_snoc hq', ← List.append_assoc]
          exact R11.take _
        · rw [upd_ne (ne_of dL11 R11.tk fun z => nomatch z)]
          exact dL11
      rintro σ H11 ⟨v, rfl, R11, dL11⟩
      rw [List.length_map, List.take_of_length_le (l := e.b.L.map (·.2)) (by rw [List.length_map]; exact Nat.le_refl _), ← epl] at R11
      refine ⟨_, rfl, S, m2.dx, _, rfl, R11.st.hS, by kernel_rfl, _, rfl, e.t, _, _, .ref e.b.T, rfl, rfl, SqT.of (R11.pr e (mB me)).1, at_of (j := 0) rfl rfl, S, m2, e.b, rfl, R11.st, hmb, fun D' H12 s12 nD' dD' => ?_⟩
      have R12 := R11.same s12
      refine ⟨_, rfl, e.t, _, _, .ref e.k, rfl, rfl, SqT.of (R12.pr e (mB me)).1, at_of (j := 1) rfl rfl, _, _, dp_ints (SqL.of dD'), dp_ints (SqL.of (R12.pr e (mB me)).2), shaped_ints _, shaped_ints _, _, rfl, ?_⟩
      rw [eqv_ints, decide_eq_true rfl]
      exact iteF ⟨_, _, rfl, R12, s12 _ _ dL11⟩
    clear R9 dL9
    rintro σ H10 ⟨v16, v17, rfl, R10, dL10⟩
    rw [List.length_map, List.take_of_length_le (by rw [List.length_map]; exact Nat.le_refl _), ← bl2] at R10
    have l8 : m2.ms.length ≤ 8 := by rw [ms2, lms]; omega
    refine ⟨_, rfl, _, rfl, _, rfl, S, ML, TK', m2, _, rfl, R10.st, SqL.of R10.ml, l8, r2, R10.tk, lk, fun d' _ => R10.st.used_eq d', fun H11 s11 => ⟨true, rfl, iteT ?_⟩⟩
    have R11 := R10.same s11
    refine ⟨_, rfl, by show 1 ≤ sizeLine; decide, fun q1 n1 => ?_⟩
    refine ⟨_, rfl, _, _, rfl, rfl, .inl ⟨by decide, by decide⟩, _, _, rfl, rfl, q1, _, _, rfl, rfl, upd_same, by omega, by omega, ?_, fun Z nZ => ?_⟩
    · have : (1000 * (d : Int) + 1).toNat ≤ 9000 := by omega
      exact Nat.le_of_lt (small _ (by rw [List.length_singleton]; omega))
    have ez : (List.replicate (1000 * (d : Int) + 1).toNat [V.int 0]).flatten = (List.replicate (1000 * d + 1) (0 : Int)).map V.int := by
      rw [show (1000 * (d : Int) + 1).toNat = 1000 * d + 1 by omega, List.flatten_replicate_singleton, List.map_replicate]
    rw [ez]
    have s12 := (Same.new (o := .lst [V.int 0]) n1).trans (Same.new (o := .lst ((List.replicate (1000 * d + 1) (0 : Int)).map V.int)) nZ)
    have nZ' := same_none (Same.new (o := .lst [V.int 0]) n1) nZ
    have dZ : upd (upd H11 q1 (.lst [V.int 0])) Z (.lst ((List.replicate (1000 * d + 1) (0 : Int)).map V.int)) Z = some (.lst ((List.replicate (1000 * d + 1) (0 : Int)).map V.int)) := upd_same
    have offZ := R11.off nZ'
    generalize upd (upd H11 q1 (.lst [V.int 0])) Z (.lst ((List.replicate (1000 * d + 1) (0 : Int)).map V.int)) = H12 at s12 dZ ⊢
    have R12 := R11.same s12
    exact ⟨S, Z, m2, _, ims, rfl, R12.st, SqL.of dZ, fun z => offZ (.st _ z), by rw [List.length_replicate, da2]; omega, by rw [List.length_replicate]; omega, SqL.of R12.im, by omega, by rw [r2]; decide, l8, by rw [da2]; exact d1', by rw [da2, pa2]; omega, fun H' _ => k H'⟩
end
theorem all_mk {l : PySem.W.OpenLaw} {w : World} {K : PySem.W.Frag} {h : Heap} {mg : Str → Option Value} {fa : Addr} (X : K.In h) (G : h.Ns mainGlobals mg) (hfa : mg "law" = some (.ref fa))
    {f_is_present : Addr} {oc_is_present kV_is_present dc_is_present pm_is_present cd_is_present ct_is_present : Value} {od_is_present an_is_present : Option Addr} {sl_is_present : Array (Option Value)}
    {f_sector_at : Addr} {oc_sector_at kV_sector_at dc_sector_at pm_sector_at cd_sector_at ct_sector_at : Value} {od_sector_at an_sector_at : Option Addr} {sl_sector_at : Array (Option Value)}
    {f_inverse : Addr} {oc_inverse kV_inverse dc_inverse pm_inverse cd_inverse ct_inverse : Value} {od_inverse an_inverse : Option Addr} {sl_inverse : Array (Option Value)}
    {f_weight : Addr} {oc_weight kV_weight dc_weight pm_weight cd_weight ct_weight : Value} {od_weight an_weight : Option Addr} {sl_weight : Array (Option Value)}
    {f_weights : Addr} {oc_weights kV_weights dc_weights pm_weights cd_weights ct_weights : Value} {od_weights an_weights : Option Addr} {sl_weights : Array (Option Value)}
    {f_check_lengths : Addr} {oc_check_lengths kV_check_lengths dc_check_lengths pm_check_lengths cd_check_lengths ct_check_lengths : Value} {od_check_lengths an_check_lengths : Option Addr} {sl_check_lengths : Array (Option Value)}
    {f_piece_at : Addr} {oc_piece_at kV_piece_at dc_piece_at pm_piece_at cd_piece_at ct_piece_at : Value} {od_piece_at an_piece_at : Option Addr} {sl_piece_at : Array (Option Value)}
    {f_present_numbers : Addr} {oc_present_numbers kV_present_numbers dc_present_numbers pm_present_numbers cd_present_numbers ct_present_numbers : Value} {od_present_numbers an_present_numbers : Option Addr} {sl_present_numbers : Array (Option Value)}
    {f_recover : Addr} {oc_recover kV_recover dc_recover pm_recover cd_recover ct_recover : Value} {od_recover an_recover : Option Addr} {sl_recover : Array (Option Value)}
    {f_check_words : Addr} {oc_check_words kV_check_words dc_check_words pm_check_words cd_check_words ct_check_words : Value} {od_check_words an_check_words : Option Addr} {sl_check_words : Array (Option Value)}
    {f_is_place : Addr} {oc_is_place kV_is_place dc_is_place pm_is_place cd_is_place ct_is_place : Value} {od_is_place an_is_place : Option Addr} {sl_is_place : Array (Option Value)}
    {f_unseal : Addr} {oc_unseal kV_unseal dc_unseal pm_unseal cd_unseal ct_unseal : Value} {od_unseal an_unseal : Option Addr} {sl_unseal : Array (Option Value)}
    {f_is_whole : Addr} {oc_is_whole kV_is_whole dc_is_whole pm_is_whole cd_is_whole ct_is_whole : Value} {od_is_whole an_is_whole : Option Addr} {sl_is_whole : Array (Option Value)}
    {f_choose_disks : Addr} {oc_choose_disks kV_choose_disks dc_choose_disks pm_choose_disks cd_choose_disks ct_choose_disks : Value} {od_choose_disks an_choose_disks : Option Addr} {sl_choose_disks : Array (Option Value)}
    {f_piece_size : Addr} {oc_piece_size kV_piece_size dc_piece_size pm_piece_size cd_piece_size ct_piece_size : Value} {od_piece_size an_piece_size : Option Addr} {sl_piece_size : Array (Option Value)}
    {f_good_piece : Addr} {oc_good_piece kV_good_piece dc_good_piece pm_good_piece cd_good_piece ct_good_piece : Value} {od_good_piece an_good_piece : Option Addr} {sl_good_piece : Array (Option Value)}
    {f_read_stripe : Addr} {oc_read_stripe kV_read_stripe dc_read_stripe pm_read_stripe cd_read_stripe ct_read_stripe : Value} {od_read_stripe an_read_stripe : Option Addr} {sl_read_stripe : Array (Option Value)}
    {f_law_pot : Addr} {oc_law_pot kV_law_pot dc_law_pot pm_law_pot cd_law_pot ct_law_pot : Value} {od_law_pot an_law_pot : Option Addr} {sl_law_pot : Array (Option Value)}
    {f_law_next : Addr} {oc_law_next kV_law_next dc_law_next pm_law_next cd_law_next ct_law_next : Value} {od_law_next an_law_next : Option Addr} {sl_law_next : Array (Option Value)}
    {f_law_is_int : Addr} {oc_law_is_int kV_law_is_int dc_law_is_int pm_law_is_int cd_law_is_int ct_law_is_int : Value} {od_law_is_int an_law_is_int : Option Addr} {sl_law_is_int : Array (Option Value)}
    {f_law_word : Addr} {oc_law_word kV_law_word dc_law_word pm_law_word cd_law_word ct_law_word : Value} {od_law_word an_law_word : Option Addr} {sl_law_word : Array (Option Value)}
    {f_law_words : Addr} {oc_law_words kV_law_words dc_law_words pm_law_words cd_law_words ct_law_words : Value} {od_law_words an_law_words : Option Addr} {sl_law_words : Array (Option Value)}
    {f_law_is_pointer : Addr} {oc_law_is_pointer kV_law_is_pointer dc_law_is_pointer pm_law_is_pointer cd_law_is_pointer ct_law_is_pointer : Value} {od_law_is_pointer an_law_is_pointer : Option Addr} {sl_law_is_pointer : Array (Option Value)}
    {f_law_refused : Addr} {oc_law_refused kV_law_refused dc_law_refused pm_law_refused cd_law_refused ct_law_refused : Value} {od_law_refused an_law_refused : Option Addr} {sl_law_refused : Array (Option Value)}
    {f_law_counts_right : Addr} {oc_law_counts_right kV_law_counts_right dc_law_counts_right pm_law_counts_right cd_law_counts_right ct_law_counts_right : Value} {od_law_counts_right an_law_counts_right : Option Addr} {sl_law_counts_right : Array (Option Value)}
    {f_law : Addr} {oc_law kV_law dc_law pm_law cd_law ct_law : Value} {od_law an_law : Option Addr} {sl_law : Array (Option Value)}
    {f_Space_init : Addr} {oc_Space_init kV_Space_init dc_Space_init pm_Space_init cd_Space_init ct_Space_init : Value} {od_Space_init an_Space_init : Option Addr} {sl_Space_init : Array (Option Value)}
    {f_Space_take : Addr} {oc_Space_take kV_Space_take dc_Space_take pm_Space_take cd_Space_take ct_Space_take : Value} {od_Space_take an_Space_take : Option Addr} {sl_Space_take : Array (Option Value)}
    {f_Space_give : Addr} {oc_Space_give kV_Space_give dc_Space_give pm_Space_give cd_Space_give ct_Space_give : Value} {od_Space_give an_Space_give : Option Addr} {sl_Space_give : Array (Option Value)}
    {f_Space_free_count : Addr} {oc_Space_free_count kV_Space_free_count dc_Space_free_count pm_Space_free_count cd_Space_free_count ct_Space_free_count : Value} {od_Space_free_count an_Space_free_count : Option Addr} {sl_Space_free_count : Array (Option Value)}
    {f_Store_init : Addr} {oc_Store_init kV_Store_init dc_Store_init pm_Store_init cd_Store_init ct_Store_init : Value} {od_Store_init an_Store_init : Option Addr} {sl_Store_init : Array (Option Value)}
    {f_Store_look : Addr} {oc_Store_look kV_Store_look dc_Store_look pm_Store_look cd_Store_look ct_Store_look : Value} {od_Store_look an_Store_look : Option Addr} {sl_Store_look : Array (Option Value)}
    {f_Store_put : Addr} {oc_Store_put dc_Store_put pm_Store_put cd_Store_put ct_Store_put : Value} {od_Store_put an_Store_put : Option Addr} {sl_Store_put : Array (Option Value)}
    {f_Store_get : Addr} {oc_Store_get kV_Store_get dc_Store_get pm_Store_get cd_Store_get ct_Store_get : Value} {od_Store_get an_Store_get : Option Addr} {sl_Store_get : Array (Option Value)}
    {f_Store_trim : Addr} {oc_Store_trim kV_Store_trim dc_Store_trim pm_Store_trim cd_Store_trim ct_Store_trim : Value} {od_Store_trim an_Store_trim : Option Addr} {sl_Store_trim : Array (Option Value)}
    {f_Store_forget : Addr} {oc_Store_forget kV_Store_forget dc_Store_forget pm_Store_forget cd_Store_forget ct_Store_forget : Value} {od_Store_forget an_Store_forget : Option Addr} {sl_Store_forget : Array (Option Value)}
    {f_Store_free_counts : Addr} {oc_Store_free_counts kV_Store_free_counts dc_Store_free_counts pm_Store_free_counts cd_Store_free_counts ct_Store_free_counts : Value} {od_Store_free_counts an_Store_free_counts : Option Addr} {sl_Store_free_counts : Array (Option Value)}
    {c_PoolError : Addr}
    {c_InvalidArgument : Addr}
    {c_NotEnoughPieces : Addr}
    {c_NoSpace : Addr}
    {c_NotEnoughDisks : Addr}
    {c_Damaged : Addr}
    {c_Space : Addr}
    {c_Store : Addr}
    {kd_Store_put e_Store_put : Addr} {de_Store_put : Option Addr} {ne_Store_put : Nat} {se_Store_put : Array (Option Value)}
    {tk_PRIME : Tok}
    {tk_MAX_PIECES : Tok}
    {tk_MAX_DISKS : Tok}
    {tk_MAX_PAYLOAD : Tok}
    {tk_MAX_ROWS : Tok}
    {tk_FIRST_ROW : Tok}
    {tk_NEW : Tok}
    {tk_OLD : Tok}
    {tk_WAITING : Tok}
    {tk_LABEL : Tok}
    {tk_PIECE : Tok}
    {tk_HEADER_WORDS : Tok}
    {tk_CHECK_WORDS : Tok}
    (a_Space : PySem.W.nsIn K mainGlobals "Space" = some (some (.ref c_Space)))
    (a_Store : PySem.W.nsIn K mainGlobals "Store" = some (some (.ref c_Store)))
    (a_is_present : PySem.W.nsIn K mainGlobals "is_present" = some (some (.ref f_is_present)))
    (l_is_present : K.lookup f_is_present = some ⟨oc_is_present, od_is_present, .func (PySem.W.fnOf "is_present" "is_present" (defArgs s_is_present) (defBody s_is_present) (defScope s_is_present) .none kV_is_present dc_is_present pm_is_present an_is_present cd_is_present ct_is_present), sl_is_present⟩)
    (q_is_present : PySem.W.codeIn K cd_is_present "is_present" = true)
    (k_is_present : PySem.W.keepIn K (.ref f_is_present) = true)
    (a_sector_at : PySem.W.nsIn K mainGlobals "sector_at" = some (some (.ref f_sector_at)))
    (l_sector_at : K.lookup f_sector_at = some ⟨oc_sector_at, od_sector_at, .func (PySem.W.fnOf "sector_at" "sector_at" (defArgs s_sector_at) (defBody s_sector_at) (defScope s_sector_at) .none kV_sector_at dc_sector_at pm_sector_at an_sector_at cd_sector_at ct_sector_at), sl_sector_at⟩)
    (q_sector_at : PySem.W.codeIn K cd_sector_at "sector_at" = true)
    (k_sector_at : PySem.W.keepIn K (.ref f_sector_at) = true)
    (a_inverse : PySem.W.nsIn K mainGlobals "inverse" = some (some (.ref f_inverse)))
    (l_inverse : K.lookup f_inverse = some ⟨oc_inverse, od_inverse, .func (PySem.W.fnOf "inverse" "inverse" (defArgs s_inverse) (defBody s_inverse) (defScope s_inverse) .none kV_inverse dc_inverse pm_inverse an_inverse cd_inverse ct_inverse), sl_inverse⟩)
    (q_inverse : PySem.W.codeIn K cd_inverse "inverse" = true)
    (k_inverse : PySem.W.keepIn K (.ref f_inverse) = true)
    (a_weight : PySem.W.nsIn K mainGlobals "weight" = some (some (.ref f_weight)))
    (l_weight : K.lookup f_weight = some ⟨oc_weight, od_weight, .func (PySem.W.fnOf "weight" "weight" (defArgs s_weight) (defBody s_weight) (defScope s_weight) .none kV_weight dc_weight pm_weight an_weight cd_weight ct_weight), sl_weight⟩)
    (q_weight : PySem.W.codeIn K cd_weight "weight" = true)
    (k_weight : PySem.W.keepIn K (.ref f_weight) = true)
    (a_weights : PySem.W.nsIn K mainGlobals "weights" = some (some (.ref f_weights)))
    (l_weights : K.lookup f_weights = some ⟨oc_weights, od_weights, .func (PySem.W.fnOf "weights" "weights" (defArgs s_weights) (defBody s_weights) (defScope s_weights) .none kV_weights dc_weights pm_weights an_weights cd_weights ct_weights), sl_weights⟩)
    (q_weights : PySem.W.codeIn K cd_weights "weights" = true)
    (k_weights : PySem.W.keepIn K (.ref f_weights) = true)
    (a_check_lengths : PySem.W.nsIn K mainGlobals "check_lengths" = some (some (.ref f_check_lengths)))
    (l_check_lengths : K.lookup f_check_lengths = some ⟨oc_check_lengths, od_check_lengths, .func (PySem.W.fnOf "check_lengths" "check_lengths" (defArgs s_check_lengths) (defBody s_check_lengths) (defScope s_check_lengths) .none kV_check_lengths dc_check_lengths pm_check_lengths an_check_lengths cd_check_lengths ct_check_lengths), sl_check_lengths⟩)
    (q_check_lengths : PySem.W.codeIn K cd_check_lengths "check_lengths" = true)
    (k_check_lengths : PySem.W.keepIn K (.ref f_check_lengths) = true)
    (a_piece_at : PySem.W.nsIn K mainGlobals "piece_at" = some (some (.ref f_piece_at)))
    (l_piece_at : K.lookup f_piece_at = some ⟨oc_piece_at, od_piece_at, .func (PySem.W.fnOf "piece_at" "piece_at" (defArgs s_piece_at) (defBody s_piece_at) (defScope s_piece_at) .none kV_piece_at dc_piece_at pm_piece_at an_piece_at cd_piece_at ct_piece_at), sl_piece_at⟩)
    (q_piece_at : PySem.W.codeIn K cd_piece_at "piece_at" = true)
    (k_piece_at : PySem.W.keepIn K (.ref f_piece_at) = true)
    (a_present_numbers : PySem.W.nsIn K mainGlobals "present_numbers" = some (some (.ref f_present_numbers)))
    (l_present_numbers : K.lookup f_present_numbers = some ⟨oc_present_numbers, od_present_numbers, .func (PySem.W.fnOf "present_numbers" "present_numbers" (defArgs s_present_numbers) (defBody s_present_numbers) (defScope s_present_numbers) .none kV_present_numbers dc_present_numbers pm_present_numbers an_present_numbers cd_present_numbers ct_present_numbers), sl_present_numbers⟩)
    (q_present_numbers : PySem.W.codeIn K cd_present_numbers "present_numbers" = true)
    (k_present_numbers : PySem.W.keepIn K (.ref f_present_numbers) = true)
    (a_recover : PySem.W.nsIn K mainGlobals "recover" = some (some (.ref f_recover)))
    (l_recover : K.lookup f_recover = some ⟨oc_recover, od_recover, .func (PySem.W.fnOf "recover" "recover" (defArgs s_recover) (defBody s_recover) (defScope s_recover) .none kV_recover dc_recover pm_recover an_recover cd_recover ct_recover), sl_recover⟩)
    (q_recover : PySem.W.codeIn K cd_recover "recover" = true)
    (k_recover : PySem.W.keepIn K (.ref f_recover) = true)
    (a_check_words : PySem.W.nsIn K mainGlobals "check_words" = some (some (.ref f_check_words)))
    (l_check_words : K.lookup f_check_words = some ⟨oc_check_words, od_check_words, .func (PySem.W.fnOf "check_words" "check_words" (defArgs s_check_words) (defBody s_check_words) (defScope s_check_words) .none kV_check_words dc_check_words pm_check_words an_check_words cd_check_words ct_check_words), sl_check_words⟩)
    (q_check_words : PySem.W.codeIn K cd_check_words "check_words" = true)
    (k_check_words : PySem.W.keepIn K (.ref f_check_words) = true)
    (a_is_place : PySem.W.nsIn K mainGlobals "is_place" = some (some (.ref f_is_place)))
    (l_is_place : K.lookup f_is_place = some ⟨oc_is_place, od_is_place, .func (PySem.W.fnOf "is_place" "is_place" (defArgs s_is_place) (defBody s_is_place) (defScope s_is_place) .none kV_is_place dc_is_place pm_is_place an_is_place cd_is_place ct_is_place), sl_is_place⟩)
    (q_is_place : PySem.W.codeIn K cd_is_place "is_place" = true)
    (k_is_place : PySem.W.keepIn K (.ref f_is_place) = true)
    (a_unseal : PySem.W.nsIn K mainGlobals "unseal" = some (some (.ref f_unseal)))
    (l_unseal : K.lookup f_unseal = some ⟨oc_unseal, od_unseal, .func (PySem.W.fnOf "unseal" "unseal" (defArgs s_unseal) (defBody s_unseal) (defScope s_unseal) .none kV_unseal dc_unseal pm_unseal an_unseal cd_unseal ct_unseal), sl_unseal⟩)
    (q_unseal : PySem.W.codeIn K cd_unseal "unseal" = true)
    (k_unseal : PySem.W.keepIn K (.ref f_unseal) = true)
    (a_is_whole : PySem.W.nsIn K mainGlobals "is_whole" = some (some (.ref f_is_whole)))
    (l_is_whole : K.lookup f_is_whole = some ⟨oc_is_whole, od_is_whole, .func (PySem.W.fnOf "is_whole" "is_whole" (defArgs s_is_whole) (defBody s_is_whole) (defScope s_is_whole) .none kV_is_whole dc_is_whole pm_is_whole an_is_whole cd_is_whole ct_is_whole), sl_is_whole⟩)
    (q_is_whole : PySem.W.codeIn K cd_is_whole "is_whole" = true)
    (k_is_whole : PySem.W.keepIn K (.ref f_is_whole) = true)
    (a_choose_disks : PySem.W.nsIn K mainGlobals "choose_disks" = some (some (.ref f_choose_disks)))
    (l_choose_disks : K.lookup f_choose_disks = some ⟨oc_choose_disks, od_choose_disks, .func (PySem.W.fnOf "choose_disks" "choose_disks" (defArgs s_choose_disks) (defBody s_choose_disks) (defScope s_choose_disks) .none kV_choose_disks dc_choose_disks pm_choose_disks an_choose_disks cd_choose_disks ct_choose_disks), sl_choose_disks⟩)
    (q_choose_disks : PySem.W.codeIn K cd_choose_disks "choose_disks" = true)
    (k_choose_disks : PySem.W.keepIn K (.ref f_choose_disks) = true)
    (a_piece_size : PySem.W.nsIn K mainGlobals "piece_size" = some (some (.ref f_piece_size)))
    (l_piece_size : K.lookup f_piece_size = some ⟨oc_piece_size, od_piece_size, .func (PySem.W.fnOf "piece_size" "piece_size" (defArgs s_piece_size) (defBody s_piece_size) (defScope s_piece_size) .none kV_piece_size dc_piece_size pm_piece_size an_piece_size cd_piece_size ct_piece_size), sl_piece_size⟩)
    (q_piece_size : PySem.W.codeIn K cd_piece_size "piece_size" = true)
    (k_piece_size : PySem.W.keepIn K (.ref f_piece_size) = true)
    (a_good_piece : PySem.W.nsIn K mainGlobals "good_piece" = some (some (.ref f_good_piece)))
    (l_good_piece : K.lookup f_good_piece = some ⟨oc_good_piece, od_good_piece, .func (PySem.W.fnOf "good_piece" "good_piece" (defArgs s_good_piece) (defBody s_good_piece) (defScope s_good_piece) .none kV_good_piece dc_good_piece pm_good_piece an_good_piece cd_good_piece ct_good_piece), sl_good_piece⟩)
    (q_good_piece : PySem.W.codeIn K cd_good_piece "good_piece" = true)
    (k_good_piece : PySem.W.keepIn K (.ref f_good_piece) = true)
    (a_read_stripe : PySem.W.nsIn K mainGlobals "read_stripe" = some (some (.ref f_read_stripe)))
    (l_read_stripe : K.lookup f_read_stripe = some ⟨oc_read_stripe, od_read_stripe, .func (PySem.W.fnOf "read_stripe" "read_stripe" (defArgs s_read_stripe) (defBody s_read_stripe) (defScope s_read_stripe) .none kV_read_stripe dc_read_stripe pm_read_stripe an_read_stripe cd_read_stripe ct_read_stripe), sl_read_stripe⟩)
    (q_read_stripe : PySem.W.codeIn K cd_read_stripe "read_stripe" = true)
    (k_read_stripe : PySem.W.keepIn K (.ref f_read_stripe) = true)
    (a_law_pot : PySem.W.nsIn K mainGlobals "_law_pot" = some (some (.ref f_law_pot)))
    (l_law_pot : K.lookup f_law_pot = some ⟨oc_law_pot, od_law_pot, .func (PySem.W.fnOf "_law_pot" "_law_pot" (defArgs s_law_pot) (defBody s_law_pot) (defScope s_law_pot) .none kV_law_pot dc_law_pot pm_law_pot an_law_pot cd_law_pot ct_law_pot), sl_law_pot⟩)
    (q_law_pot : PySem.W.codeIn K cd_law_pot "_law_pot" = true)
    (k_law_pot : PySem.W.keepIn K (.ref f_law_pot) = true)
    (a_law_next : PySem.W.nsIn K mainGlobals "_law_next" = some (some (.ref f_law_next)))
    (l_law_next : K.lookup f_law_next = some ⟨oc_law_next, od_law_next, .func (PySem.W.fnOf "_law_next" "_law_next" (defArgs s_law_next) (defBody s_law_next) (defScope s_law_next) .none kV_law_next dc_law_next pm_law_next an_law_next cd_law_next ct_law_next), sl_law_next⟩)
    (q_law_next : PySem.W.codeIn K cd_law_next "_law_next" = true)
    (k_law_next : PySem.W.keepIn K (.ref f_law_next) = true)
    (a_law_is_int : PySem.W.nsIn K mainGlobals "_law_is_int" = some (some (.ref f_law_is_int)))
    (l_law_is_int : K.lookup f_law_is_int = some ⟨oc_law_is_int, od_law_is_int, .func (PySem.W.fnOf "_law_is_int" "_law_is_int" (defArgs s_law_is_int) (defBody s_law_is_int) (defScope s_law_is_int) .none kV_law_is_int dc_law_is_int pm_law_is_int an_law_is_int cd_law_is_int ct_law_is_int), sl_law_is_int⟩)
    (q_law_is_int : PySem.W.codeIn K cd_law_is_int "_law_is_int" = true)
    (k_law_is_int : PySem.W.keepIn K (.ref f_law_is_int) = true)
    (a_law_word : PySem.W.nsIn K mainGlobals "_law_word" = some (some (.ref f_law_word)))
    (l_law_word : K.lookup f_law_word = some ⟨oc_law_word, od_law_word, .func (PySem.W.fnOf "_law_word" "_law_word" (defArgs s_law_word) (defBody s_law_word) (defScope s_law_word) .none kV_law_word dc_law_word pm_law_word an_law_word cd_law_word ct_law_word), sl_law_word⟩)
    (q_law_word : PySem.W.codeIn K cd_law_word "_law_word" = true)
    (k_law_word : PySem.W.keepIn K (.ref f_law_word) = true)
    (a_law_words : PySem.W.nsIn K mainGlobals "_law_words" = some (some (.ref f_law_words)))
    (l_law_words : K.lookup f_law_words = some ⟨oc_law_words, od_law_words, .func (PySem.W.fnOf "_law_words" "_law_words" (defArgs s_law_words) (defBody s_law_words) (defScope s_law_words) .none kV_law_words dc_law_words pm_law_words an_law_words cd_law_words ct_law_words), sl_law_words⟩)
    (q_law_words : PySem.W.codeIn K cd_law_words "_law_words" = true)
    (k_law_words : PySem.W.keepIn K (.ref f_law_words) = true)
    (a_law_is_pointer : PySem.W.nsIn K mainGlobals "_law_is_pointer" = some (some (.ref f_law_is_pointer)))
    (l_law_is_pointer : K.lookup f_law_is_pointer = some ⟨oc_law_is_pointer, od_law_is_pointer, .func (PySem.W.fnOf "_law_is_pointer" "_law_is_pointer" (defArgs s_law_is_pointer) (defBody s_law_is_pointer) (defScope s_law_is_pointer) .none kV_law_is_pointer dc_law_is_pointer pm_law_is_pointer an_law_is_pointer cd_law_is_pointer ct_law_is_pointer), sl_law_is_pointer⟩)
    (q_law_is_pointer : PySem.W.codeIn K cd_law_is_pointer "_law_is_pointer" = true)
    (k_law_is_pointer : PySem.W.keepIn K (.ref f_law_is_pointer) = true)
    (a_law_refused : PySem.W.nsIn K mainGlobals "_law_refused" = some (some (.ref f_law_refused)))
    (l_law_refused : K.lookup f_law_refused = some ⟨oc_law_refused, od_law_refused, .func (PySem.W.fnOf "_law_refused" "_law_refused" (defArgs s_law_refused) (defBody s_law_refused) (defScope s_law_refused) .none kV_law_refused dc_law_refused pm_law_refused an_law_refused cd_law_refused ct_law_refused), sl_law_refused⟩)
    (q_law_refused : PySem.W.codeIn K cd_law_refused "_law_refused" = true)
    (k_law_refused : PySem.W.keepIn K (.ref f_law_refused) = true)
    (a_law_counts_right : PySem.W.nsIn K mainGlobals "_law_counts_right" = some (some (.ref f_law_counts_right)))
    (l_law_counts_right : K.lookup f_law_counts_right = some ⟨oc_law_counts_right, od_law_counts_right, .func (PySem.W.fnOf "_law_counts_right" "_law_counts_right" (defArgs s_law_counts_right) (defBody s_law_counts_right) (defScope s_law_counts_right) .none kV_law_counts_right dc_law_counts_right pm_law_counts_right an_law_counts_right cd_law_counts_right ct_law_counts_right), sl_law_counts_right⟩)
    (q_law_counts_right : PySem.W.codeIn K cd_law_counts_right "_law_counts_right" = true)
    (k_law_counts_right : PySem.W.keepIn K (.ref f_law_counts_right) = true)
    (a_law : PySem.W.nsIn K mainGlobals "law" = some (some (.ref f_law)))
    (l_law : K.lookup f_law = some ⟨oc_law, od_law, .func (PySem.W.fnOf "law" "law" (defArgs s_law) (defBody s_law) (defScope s_law) .none kV_law dc_law pm_law an_law cd_law ct_law), sl_law⟩)
    (q_law : PySem.W.codeIn K cd_law "law" = true)
    (k_law : PySem.W.keepIn K (.ref f_law) = true)
    (a_Space_init : PySem.W.findIn K (.ref c_Space) "__init__" = some (some (.ref f_Space_init)))
    (i_Space_init : PySem.W.isFn K (.ref f_Space_init) = true)
    (l_Space_init : K.lookup f_Space_init = some ⟨oc_Space_init, od_Space_init, .func (PySem.W.fnOf "__init__" "Space.__init__" (defArgs s_Space_init) (defBody s_Space_init) (defScope s_Space_init) .none kV_Space_init dc_Space_init pm_Space_init an_Space_init cd_Space_init ct_Space_init), sl_Space_init⟩)
    (q_Space_init : PySem.W.codeIn K cd_Space_init "Space.__init__" = true)
    (k_Space_init : PySem.W.keepIn K (.ref f_Space_init) = true)
    (a_Space_take : PySem.W.findIn K (.ref c_Space) "take" = some (some (.ref f_Space_take)))
    (i_Space_take : PySem.W.isFn K (.ref f_Space_take) = true)
    (l_Space_take : K.lookup f_Space_take = some ⟨oc_Space_take, od_Space_take, .func (PySem.W.fnOf "take" "Space.take" (defArgs s_Space_take) (defBody s_Space_take) (defScope s_Space_take) .none kV_Space_take dc_Space_take pm_Space_take an_Space_take cd_Space_take ct_Space_take), sl_Space_take⟩)
    (q_Space_take : PySem.W.codeIn K cd_Space_take "Space.take" = true)
    (k_Space_take : PySem.W.keepIn K (.ref f_Space_take) = true)
    (a_Space_give : PySem.W.findIn K (.ref c_Space) "give" = some (some (.ref f_Space_give)))
    (i_Space_give : PySem.W.isFn K (.ref f_Space_give) = true)
    (l_Space_give : K.lookup f_Space_give = some ⟨oc_Space_give, od_Space_give, .func (PySem.W.fnOf "give" "Space.give" (defArgs s_Space_give) (defBody s_Space_give) (defScope s_Space_give) .none kV_Space_give dc_Space_give pm_Space_give an_Space_give cd_Space_give ct_Space_give), sl_Space_give⟩)
    (q_Space_give : PySem.W.codeIn K cd_Space_give "Space.give" = true)
    (k_Space_give : PySem.W.keepIn K (.ref f_Space_give) = true)
    (a_Space_free_count : PySem.W.findIn K (.ref c_Space) "free_count" = some (some (.ref f_Space_free_count)))
    (i_Space_free_count : PySem.W.isFn K (.ref f_Space_free_count) = true)
    (l_Space_free_count : K.lookup f_Space_free_count = some ⟨oc_Space_free_count, od_Space_free_count, .func (PySem.W.fnOf "free_count" "Space.free_count" (defArgs s_Space_free_count) (defBody s_Space_free_count) (defScope s_Space_free_count) .none kV_Space_free_count dc_Space_free_count pm_Space_free_count an_Space_free_count cd_Space_free_count ct_Space_free_count), sl_Space_free_count⟩)
    (q_Space_free_count : PySem.W.codeIn K cd_Space_free_count "Space.free_count" = true)
    (k_Space_free_count : PySem.W.keepIn K (.ref f_Space_free_count) = true)
    (a_Store_init : PySem.W.findIn K (.ref c_Store) "__init__" = some (some (.ref f_Store_init)))
    (i_Store_init : PySem.W.isFn K (.ref f_Store_init) = true)
    (l_Store_init : K.lookup f_Store_init = some ⟨oc_Store_init, od_Store_init, .func (PySem.W.fnOf "__init__" "Store.__init__" (defArgs s_Store_init) (defBody s_Store_init) (defScope s_Store_init) .none kV_Store_init dc_Store_init pm_Store_init an_Store_init cd_Store_init ct_Store_init), sl_Store_init⟩)
    (q_Store_init : PySem.W.codeIn K cd_Store_init "Store.__init__" = true)
    (k_Store_init : PySem.W.keepIn K (.ref f_Store_init) = true)
    (a_Store_look : PySem.W.findIn K (.ref c_Store) "look" = some (some (.ref f_Store_look)))
    (i_Store_look : PySem.W.isFn K (.ref f_Store_look) = true)
    (l_Store_look : K.lookup f_Store_look = some ⟨oc_Store_look, od_Store_look, .func (PySem.W.fnOf "look" "Store.look" (defArgs s_Store_look) (defBody s_Store_look) (defScope s_Store_look) .none kV_Store_look dc_Store_look pm_Store_look an_Store_look cd_Store_look ct_Store_look), sl_Store_look⟩)
    (q_Store_look : PySem.W.codeIn K cd_Store_look "Store.look" = true)
    (k_Store_look : PySem.W.keepIn K (.ref f_Store_look) = true)
    (a_Store_put : PySem.W.findIn K (.ref c_Store) "put" = some (some (.ref f_Store_put)))
    (i_Store_put : PySem.W.isFn K (.ref f_Store_put) = true)
    (l_Store_put : K.lookup f_Store_put = some ⟨oc_Store_put, od_Store_put, .func (PySem.W.fnOf "put" "Store.put" (defArgs s_Store_put) (defBody s_Store_put) (defScope s_Store_put) .none (.ref kd_Store_put) dc_Store_put pm_Store_put an_Store_put cd_Store_put ct_Store_put), sl_Store_put⟩)
    (kw_Store_put : PySem.W.nsIn K kd_Store_put "avoid" = some (some (.ref e_Store_put)))
    (le_Store_put : K.lookup e_Store_put = some ⟨.type "tuple", de_Store_put, .seq #[] ne_Store_put, se_Store_put⟩)
    (q_Store_put : PySem.W.codeIn K cd_Store_put "Store.put" = true)
    (k_Store_put : PySem.W.keepIn K (.ref f_Store_put) = true)
    (a_Store_get : PySem.W.findIn K (.ref c_Store) "get" = some (some (.ref f_Store_get)))
    (i_Store_get : PySem.W.isFn K (.ref f_Store_get) = true)
    (l_Store_get : K.lookup f_Store_get = some ⟨oc_Store_get, od_Store_get, .func (PySem.W.fnOf "get" "Store.get" (defArgs s_Store_get) (defBody s_Store_get) (defScope s_Store_get) .none kV_Store_get dc_Store_get pm_Store_get an_Store_get cd_Store_get ct_Store_get), sl_Store_get⟩)
    (q_Store_get : PySem.W.codeIn K cd_Store_get "Store.get" = true)
    (k_Store_get : PySem.W.keepIn K (.ref f_Store_get) = true)
    (a_Store_trim : PySem.W.findIn K (.ref c_Store) "trim" = some (some (.ref f_Store_trim)))
    (i_Store_trim : PySem.W.isFn K (.ref f_Store_trim) = true)
    (l_Store_trim : K.lookup f_Store_trim = some ⟨oc_Store_trim, od_Store_trim, .func (PySem.W.fnOf "trim" "Store.trim" (defArgs s_Store_trim) (defBody s_Store_trim) (defScope s_Store_trim) .none kV_Store_trim dc_Store_trim pm_Store_trim an_Store_trim cd_Store_trim ct_Store_trim), sl_Store_trim⟩)
    (q_Store_trim : PySem.W.codeIn K cd_Store_trim "Store.trim" = true)
    (k_Store_trim : PySem.W.keepIn K (.ref f_Store_trim) = true)
    (a_Store_forget : PySem.W.findIn K (.ref c_Store) "_forget" = some (some (.ref f_Store_forget)))
    (i_Store_forget : PySem.W.isFn K (.ref f_Store_forget) = true)
    (l_Store_forget : K.lookup f_Store_forget = some ⟨oc_Store_forget, od_Store_forget, .func (PySem.W.fnOf "_forget" "Store._forget" (defArgs s_Store_forget) (defBody s_Store_forget) (defScope s_Store_forget) .none kV_Store_forget dc_Store_forget pm_Store_forget an_Store_forget cd_Store_forget ct_Store_forget), sl_Store_forget⟩)
    (q_Store_forget : PySem.W.codeIn K cd_Store_forget "Store._forget" = true)
    (k_Store_forget : PySem.W.keepIn K (.ref f_Store_forget) = true)
    (a_Store_free_counts : PySem.W.findIn K (.ref c_Store) "free_counts" = some (some (.ref f_Store_free_counts)))
    (i_Store_free_counts : PySem.W.isFn K (.ref f_Store_free_counts) = true)
    (l_Store_free_counts : K.lookup f_Store_free_counts = some ⟨oc_Store_free_counts, od_Store_free_counts, .func (PySem.W.fnOf "free_counts" "Store.free_counts" (defArgs s_Store_free_counts) (defBody s_Store_free_counts) (defScope s_Store_free_counts) .none kV_Store_free_counts dc_Store_free_counts pm_Store_free_counts an_Store_free_counts cd_Store_free_counts ct_Store_free_counts), sl_Store_free_counts⟩)
    (q_Store_free_counts : PySem.W.codeIn K cd_Store_free_counts "Store.free_counts" = true)
    (k_Store_free_counts : PySem.W.keepIn K (.ref f_Store_free_counts) = true)
    (a_PRIME : PySem.W.nsIn K mainGlobals "PRIME" = some (some (.int 65521 tk_PRIME)))
    (a_MAX_PIECES : PySem.W.nsIn K mainGlobals "MAX_PIECES" = some (some (.int 8 tk_MAX_PIECES)))
    (a_MAX_DISKS : PySem.W.nsIn K mainGlobals "MAX_DISKS" = some (some (.int 8 tk_MAX_DISKS)))
    (a_MAX_PAYLOAD : PySem.W.nsIn K mainGlobals "MAX_PAYLOAD" = some (some (.int 1000 tk_MAX_PAYLOAD)))
    (a_MAX_ROWS : PySem.W.nsIn K mainGlobals "MAX_ROWS" = some (some (.int 4000 tk_MAX_ROWS)))
    (a_FIRST_ROW : PySem.W.nsIn K mainGlobals "FIRST_ROW" = some (some (.int 18 tk_FIRST_ROW)))
    (a_NEW : PySem.W.nsIn K mainGlobals "NEW" = some (some (.int 1 tk_NEW)))
    (a_OLD : PySem.W.nsIn K mainGlobals "OLD" = some (some (.int 2 tk_OLD)))
    (a_WAITING : PySem.W.nsIn K mainGlobals "WAITING" = some (some (.int 3 tk_WAITING)))
    (a_LABEL : PySem.W.nsIn K mainGlobals "LABEL" = some (some (.int 1 tk_LABEL)))
    (a_PIECE : PySem.W.nsIn K mainGlobals "PIECE" = some (some (.int 3 tk_PIECE)))
    (a_HEADER_WORDS : PySem.W.nsIn K mainGlobals "HEADER_WORDS" = some (some (.int 6 tk_HEADER_WORDS)))
    (a_CHECK_WORDS : PySem.W.nsIn K mainGlobals "CHECK_WORDS" = some (some (.int 2 tk_CHECK_WORDS)))
    (n_len : PySem.W.nsIn K mainGlobals "len" = some none)
    (n_enumerate : PySem.W.nsIn K mainGlobals "enumerate" = some none)
    (n_sum : PySem.W.nsIn K mainGlobals "sum" = some none)
    (n_zip : PySem.W.nsIn K mainGlobals "zip" = some none)
    (n_list : PySem.W.nsIn K mainGlobals "list" = some none)
    (n_tuple : PySem.W.nsIn K mainGlobals "tuple" = some none)
    (n_min : PySem.W.nsIn K mainGlobals "min" = some none)
    (n_max : PySem.W.nsIn K mainGlobals "max" = some none)
    (n_sorted : PySem.W.nsIn K mainGlobals "sorted" = some none)
    (n_int : PySem.W.nsIn K mainGlobals "int" = some none)
    (n_abs : PySem.W.nsIn K mainGlobals "abs" = some none)
    (n_isinstance : PySem.W.nsIn K mainGlobals "isinstance" = some none)
    (n_bool : PySem.W.nsIn K mainGlobals "bool" = some none)
    (n_range : PySem.W.nsIn K mainGlobals "range" = some none)
    (n_all : PySem.W.nsIn K mainGlobals "all" = some none)
    (pg_Space : PySem.W.plainGet K c_Space Str.empty = true)
    (hd_Space : PySem.W.hasDictIn K c_Space = true)
    (po_Space : PySem.W.plainOver K c_Space = true)
    (sa_Space : PySem.W.findIn K (.ref c_Space) "__setattr__" = some (some (.builtin "object.__setattr__")))
    (mk_Space : PySem.W.makesIn K c_Space = true)
    (kc_Space : PySem.W.keepIn K (.ref c_Space) = true)
    (na_Space_first : PySem.W.findIn K (.ref c_Space) "_first" = some none)
    (na_Space_lowest : PySem.W.findIn K (.ref c_Space) "_lowest" = some none)
    (na_Space_rows : PySem.W.findIn K (.ref c_Space) "_rows" = some none)
    (na_Space_states : PySem.W.findIn K (.ref c_Space) "_states" = some none)
    (pg_Store : PySem.W.plainGet K c_Store Str.empty = true)
    (hd_Store : PySem.W.hasDictIn K c_Store = true)
    (po_Store : PySem.W.plainOver K c_Store = true)
    (sa_Store : PySem.W.findIn K (.ref c_Store) "__setattr__" = some (some (.builtin "object.__setattr__")))
    (mk_Store : PySem.W.makesIn K c_Store = true)
    (kc_Store : PySem.W.keepIn K (.ref c_Store) = true)
    (na_Store_blocks : PySem.W.findIn K (.ref c_Store) "_blocks" = some none)
    (na_Store_images : PySem.W.findIn K (.ref c_Store) "_images" = some none)
    (na_Store_made : PySem.W.findIn K (.ref c_Store) "_made" = some none)
    (na_Store_memory : PySem.W.findIn K (.ref c_Store) "_memory" = some none)
    (na_Store_spaces : PySem.W.findIn K (.ref c_Store) "_spaces" = some none)
    (na_Store_data : PySem.W.findIn K (.ref c_Store) "data" = some none)
    (na_Store_epoch : PySem.W.findIn K (.ref c_Store) "epoch" = some none)
    (na_Store_members : PySem.W.findIn K (.ref c_Store) "members" = some none)
    (na_Store_parity : PySem.W.findIn K (.ref c_Store) "parity" = some none)
    (na_Store_rows : PySem.W.findIn K (.ref c_Store) "rows" = some none)
    (a_PoolError : PySem.W.nsIn K mainGlobals "PoolError" = some (some (.ref c_PoolError)))
    (x_PoolError : PySem.W.excIn K c_PoolError [.type "ValueError", .type "Exception", .type "BaseException", .type "object"] "ValueError.__new__" = true)
    (k_PoolError : PySem.W.keepIn K (.ref c_PoolError) = true)
    (b_PoolError : PySem.W.subIn K (.ref c_PoolError) (.type "BaseException") = some true)
    (t_PoolError : PySem.W.typeIn K (.ref c_PoolError) = some (.type "type"))
    (E1_PoolError : PySem.W.findIn K (.ref c_PoolError) "__getattribute__" = some (some (.builtin "BaseException.__getattribute__")))
    (E2_PoolError : PySem.W.findIn K (.ref c_PoolError) "__getattr__" = some none)
    (E3_PoolError : PySem.W.hasDictIn K c_PoolError = true)
    (E4_PoolError : PySem.W.findIn K (.ref c_PoolError) "__class__" = some (some (.builtin "object.__class__")))
    (s_PoolError : PySem.W.subIn K (.ref c_PoolError) (.ref c_PoolError) = some true)
    (E5_PoolError : PySem.W.mroIn K c_PoolError (.type "object") = some true)
    (a_InvalidArgument : PySem.W.nsIn K mainGlobals "InvalidArgument" = some (some (.ref c_InvalidArgument)))
    (x_InvalidArgument : PySem.W.excIn K c_InvalidArgument [.type "ValueError", .type "Exception", .type "BaseException", .type "object"] "ValueError.__new__" = true)
    (k_InvalidArgument : PySem.W.keepIn K (.ref c_InvalidArgument) = true)
    (b_InvalidArgument : PySem.W.subIn K (.ref c_InvalidArgument) (.type "BaseException") = some true)
    (t_InvalidArgument : PySem.W.typeIn K (.ref c_InvalidArgument) = some (.type "type"))
    (E1_InvalidArgument : PySem.W.findIn K (.ref c_InvalidArgument) "__getattribute__" = some (some (.builtin "BaseException.__getattribute__")))
    (E2_InvalidArgument : PySem.W.findIn K (.ref c_InvalidArgument) "__getattr__" = some none)
    (E3_InvalidArgument : PySem.W.hasDictIn K c_InvalidArgument = true)
    (E4_InvalidArgument : PySem.W.findIn K (.ref c_InvalidArgument) "__class__" = some (some (.builtin "object.__class__")))
    (s_InvalidArgument : PySem.W.subIn K (.ref c_InvalidArgument) (.ref c_InvalidArgument) = some true)
    (E5_InvalidArgument : PySem.W.mroIn K c_InvalidArgument (.type "object") = some true)
    (a_NotEnoughPieces : PySem.W.nsIn K mainGlobals "NotEnoughPieces" = some (some (.ref c_NotEnoughPieces)))
    (x_NotEnoughPieces : PySem.W.excIn K c_NotEnoughPieces [.type "ValueError", .type "Exception", .type "BaseException", .type "object"] "ValueError.__new__" = true)
    (k_NotEnoughPieces : PySem.W.keepIn K (.ref c_NotEnoughPieces) = true)
    (b_NotEnoughPieces : PySem.W.subIn K (.ref c_NotEnoughPieces) (.type "BaseException") = some true)
    (t_NotEnoughPieces : PySem.W.typeIn K (.ref c_NotEnoughPieces) = some (.type "type"))
    (E1_NotEnoughPieces : PySem.W.findIn K (.ref c_NotEnoughPieces) "__getattribute__" = some (some (.builtin "BaseException.__getattribute__")))
    (E2_NotEnoughPieces : PySem.W.findIn K (.ref c_NotEnoughPieces) "__getattr__" = some none)
    (E3_NotEnoughPieces : PySem.W.hasDictIn K c_NotEnoughPieces = true)
    (E4_NotEnoughPieces : PySem.W.findIn K (.ref c_NotEnoughPieces) "__class__" = some (some (.builtin "object.__class__")))
    (s_NotEnoughPieces : PySem.W.subIn K (.ref c_NotEnoughPieces) (.ref c_NotEnoughPieces) = some true)
    (E5_NotEnoughPieces : PySem.W.mroIn K c_NotEnoughPieces (.type "object") = some true)
    (a_NoSpace : PySem.W.nsIn K mainGlobals "NoSpace" = some (some (.ref c_NoSpace)))
    (x_NoSpace : PySem.W.excIn K c_NoSpace [.type "ValueError", .type "Exception", .type "BaseException", .type "object"] "ValueError.__new__" = true)
    (k_NoSpace : PySem.W.keepIn K (.ref c_NoSpace) = true)
    (b_NoSpace : PySem.W.subIn K (.ref c_NoSpace) (.type "BaseException") = some true)
    (t_NoSpace : PySem.W.typeIn K (.ref c_NoSpace) = some (.type "type"))
    (E1_NoSpace : PySem.W.findIn K (.ref c_NoSpace) "__getattribute__" = some (some (.builtin "BaseException.__getattribute__")))
    (E2_NoSpace : PySem.W.findIn K (.ref c_NoSpace) "__getattr__" = some none)
    (E3_NoSpace : PySem.W.hasDictIn K c_NoSpace = true)
    (E4_NoSpace : PySem.W.findIn K (.ref c_NoSpace) "__class__" = some (some (.builtin "object.__class__")))
    (s_NoSpace : PySem.W.subIn K (.ref c_NoSpace) (.ref c_NoSpace) = some true)
    (E5_NoSpace : PySem.W.mroIn K c_NoSpace (.type "object") = some true)
    (a_NotEnoughDisks : PySem.W.nsIn K mainGlobals "NotEnoughDisks" = some (some (.ref c_NotEnoughDisks)))
    (x_NotEnoughDisks : PySem.W.excIn K c_NotEnoughDisks [.type "ValueError", .type "Exception", .type "BaseException", .type "object"] "ValueError.__new__" = true)
    (k_NotEnoughDisks : PySem.W.keepIn K (.ref c_NotEnoughDisks) = true)
    (b_NotEnoughDisks : PySem.W.subIn K (.ref c_NotEnoughDisks) (.type "BaseException") = some true)
    (t_NotEnoughDisks : PySem.W.typeIn K (.ref c_NotEnoughDisks) = some (.type "type"))
    (E1_NotEnoughDisks : PySem.W.findIn K (.ref c_NotEnoughDisks) "__getattribute__" = some (some (.builtin "BaseException.__getattribute__")))
    (E2_NotEnoughDisks : PySem.W.findIn K (.ref c_NotEnoughDisks) "__getattr__" = some none)
    (E3_NotEnoughDisks : PySem.W.hasDictIn K c_NotEnoughDisks = true)
    (E4_NotEnoughDisks : PySem.W.findIn K (.ref c_NotEnoughDisks) "__class__" = some (some (.builtin "object.__class__")))
    (s_NotEnoughDisks : PySem.W.subIn K (.ref c_NotEnoughDisks) (.ref c_NotEnoughDisks) = some true)
    (E5_NotEnoughDisks : PySem.W.mroIn K c_NotEnoughDisks (.type "object") = some true)
    (a_Damaged : PySem.W.nsIn K mainGlobals "Damaged" = some (some (.ref c_Damaged)))
    (x_Damaged : PySem.W.excIn K c_Damaged [.type "ValueError", .type "Exception", .type "BaseException", .type "object"] "ValueError.__new__" = true)
    (k_Damaged : PySem.W.keepIn K (.ref c_Damaged) = true)
    (b_Damaged : PySem.W.subIn K (.ref c_Damaged) (.type "BaseException") = some true)
    (t_Damaged : PySem.W.typeIn K (.ref c_Damaged) = some (.type "type"))
    (E1_Damaged : PySem.W.findIn K (.ref c_Damaged) "__getattribute__" = some (some (.builtin "BaseException.__getattribute__")))
    (E2_Damaged : PySem.W.findIn K (.ref c_Damaged) "__getattr__" = some none)
    (E3_Damaged : PySem.W.hasDictIn K c_Damaged = true)
    (E4_Damaged : PySem.W.findIn K (.ref c_Damaged) "__class__" = some (some (.builtin "object.__class__")))
    (s_Damaged : PySem.W.subIn K (.ref c_Damaged) (.ref c_Damaged) = some true)
    (E5_Damaged : PySem.W.mroIn K c_Damaged (.type "object") = some true)
    (E6 : PySem.W.specialIn K (.builtin "object.__class__") "__get__" = some (some (.builtin "getset_descriptor.__get__")))
    (E7 : PySem.W.takesIn K (.builtin "object.__class__") = some true)
    (u_InvalidArgument_PoolError : PySem.W.subIn K (.ref c_InvalidArgument) (.ref c_PoolError) = some true) :
    ∃ fd : FuncData, (∀ (s : Shared) (v : Value), BindsTo s fd ⟨[v], []⟩ [("script", v)]) ∧ ∀ base : Heap, K.In base → base.Ns mainGlobals mg → FnOk l.prog w K mg base CX0 11 fa fd ["script"] (sp_law0 K) := by
  have e := hfa.symm.trans (PySem.W.mg_of X G a_law)
  cases e
  have F_is_present := fun_mk (st := s_is_present) l_is_present q_is_present k_is_present
  have d_is_present := F_is_present.binds (ps := ["images", "disk"]) fun _ _ _ _ _ _ us hl => match us, hl with | [_, _], _ => rfl
  have F_sector_at := fun_mk (st := s_sector_at) l_sector_at q_sector_at k_sector_at
  have d_sector_at := F_sector_at.binds (ps := ["images", "disk", "row"]) fun _ _ _ _ _ _ us hl => match us, hl with | [_, _, _], _ => rfl
  have F_inverse := fun_mk (st := s_inverse) l_inverse q_inverse k_inverse
  have d_inverse := F_inverse.binds (ps := ["a"]) fun _ _ _ _ _ _ us hl => match us, hl with | [_], _ => rfl
  have F_weight := fun_mk (st := s_weight) l_weight q_weight k_weight
  have d_weight := F_weight.binds (ps := ["place", "others", "x"]) fun _ _ _ _ _ _ us hl => match us, hl with | [_, _, _], _ => rfl
  have F_weights := fun_mk (st := s_weights) l_weights q_weights k_weights
  have d_weights := F_weights.binds (ps := ["places", "x"]) fun _ _ _ _ _ _ us hl => match us, hl with | [_, _], _ => rfl
  have F_check_lengths := fun_mk (st := s_check_lengths) l_check_lengths q_check_lengths k_check_lengths
  have d_check_lengths := F_check_lengths.binds (ps := ["pieces"]) fun _ _ _ _ _ _ us hl => match us, hl with | [_], _ => rfl
  have F_piece_at := fun_mk (st := s_piece_at) l_piece_at q_piece_at k_piece_at
  have d_piece_at := F_piece_at.binds (ps := ["known", "places", "number"]) fun _ _ _ _ _ _ us hl => match us, hl with | [_, _, _], _ => rfl
  have F_present_numbers := fun_mk (st := s_present_numbers) l_present_numbers q_present_numbers k_present_numbers
  have d_present_numbers := F_present_numbers.binds (ps := ["pieces", "data"]) fun _ _ _ _ _ _ us hl => match us, hl with | [_, _], _ => rfl
  have F_recover := fun_mk (st := s_recover) l_recover q_recover k_recover
  have d_recover := F_recover.binds (ps := ["pieces", "data"]) fun _ _ _ _ _ _ us hl => match us, hl with | [_, _], _ => rfl
  have F_check_words := fun_mk (st := s_check_words) l_check_words q_check_words k_check_words
  have d_check_words := F_check_words.binds (ps := ["words"]) fun _ _ _ _ _ _ us hl => match us, hl with | [_], _ => rfl
  have F_is_place := fun_mk (st := s_is_place) l_is_place q_is_place k_is_place
  have d_is_place := F_is_place.binds (ps := ["kind", "disk", "row"]) fun _ _ _ _ _ _ us hl => match us, hl with | [_, _, _], _ => rfl
  have F_unseal := fun_mk (st := s_unseal) l_unseal q_unseal k_unseal
  have d_unseal := F_unseal.binds (ps := ["sector", "kind", "disk", "row"]) fun _ _ _ _ _ _ us hl => match us, hl with | [_, _, _, _], _ => rfl
  have F_is_whole := fun_mk (st := s_is_whole) l_is_whole q_is_whole k_is_whole
  have d_is_whole := F_is_whole.binds (ps := ["sector"]) fun _ _ _ _ _ _ us hl => match us, hl with | [_], _ => rfl
  have F_choose_disks := fun_mk (st := s_choose_disks) l_choose_disks q_choose_disks k_choose_disks
  have d_choose_disks := F_choose_disks.binds (ps := ["candidates", "width"]) fun _ _ _ _ _ _ us hl => match us, hl with | [_, _], _ => rfl
  have F_piece_size := fun_mk (st := s_piece_size) l_piece_size q_piece_size k_piece_size
  have d_piece_size := F_piece_size.binds (ps := ["length", "data"]) fun _ _ _ _ _ _ us hl => match us, hl with | [_, _], _ => rfl
  have F_good_piece := fun_mk (st := s_good_piece) l_good_piece q_good_piece k_good_piece
  have d_good_piece := F_good_piece.binds (ps := ["images", "place", "stamp", "size"]) fun _ _ _ _ _ _ us hl => match us, hl with | [_, _, _, _], _ => rfl
  have F_read_stripe := fun_mk (st := s_read_stripe) l_read_stripe q_read_stripe k_read_stripe
  have d_read_stripe := F_read_stripe.binds (ps := ["images", "places", "stamp", "length", "data"]) fun _ _ _ _ _ _ us hl => match us, hl with | [_, _, _, _, _], _ => rfl
  have F_law_pot := fun_mk (st := s_law_pot) l_law_pot q_law_pot k_law_pot
  have d_law_pot := F_law_pot.binds (ps := ["script"]) fun _ _ _ _ _ _ us hl => match us, hl with | [_], _ => rfl
  have F_law_next := fun_mk (st := s_law_next) l_law_next q_law_next k_law_next
  have d_law_next := F_law_next.binds (ps := ["pot", "limit"]) fun _ _ _ _ _ _ us hl => match us, hl with | [_, _], _ => rfl
  have F_law_is_int := fun_mk (st := s_law_is_int) l_law_is_int q_law_is_int k_law_is_int
  have d_law_is_int := F_law_is_int.binds (ps := ["value"]) fun _ _ _ _ _ _ us hl => match us, hl with | [_], _ => rfl
  have F_law_word := fun_mk (st := s_law_word) l_law_word q_law_word k_law_word
  have d_law_word := F_law_word.binds (ps := ["pot"]) fun _ _ _ _ _ _ us hl => match us, hl with | [_], _ => rfl
  have F_law_words := fun_mk (st := s_law_words) l_law_words q_law_words k_law_words
  have d_law_words := F_law_words.binds (ps := ["pot", "count"]) fun _ _ _ _ _ _ us hl => match us, hl with | [_, _], _ => rfl
  have F_law_is_pointer := fun_mk (st := s_law_is_pointer) l_law_is_pointer q_law_is_pointer k_law_is_pointer
  have d_law_is_pointer := F_law_is_pointer.binds (ps := ["pointer", "epoch", "serial", "length", "members", "count", "rows"]) fun _ _ _ _ _ _ us hl => match us, hl with | [_, _, _, _, _, _, _], _ => rfl
  have F_law_refused := fun_mk (st := s_law_refused) l_law_refused q_law_refused k_law_refused
  have d_law_refused := F_law_refused.binds (ps := ["store", "words"]) fun _ _ _ _ _ _ us hl => match us, hl with | [_, _], _ => rfl
  have F_law_counts_right := fun_mk (st := s_law_counts_right) l_law_counts_right q_law_counts_right k_law_counts_right
  have d_law_counts_right := F_law_counts_right.binds (ps := ["store", "members", "taken"]) fun _ _ _ _ _ _ us hl => match us, hl with | [_, _, _], _ => rfl
  have F_law := fun_mk (st := s_law) l_law q_law k_law
  have d_law := F_law.binds (ps := ["script"]) fun _ _ _ _ _ _ us hl => match us, hl with | [_], _ => rfl
  have F_Space_init := fun_mk (st := s_Space_init) l_Space_init q_Space_init k_Space_init
  have d_Space_init := F_Space_init.binds (ps := ["self", "rows", "first"]) fun _ _ _ _ _ _ us hl => match us, hl with | [_, _, _], _ => rfl
  have F_Space_take := fun_mk (st := s_Space_take) l_Space_take q_Space_take k_Space_take
  have d_Space_take := F_Space_take.binds (ps := ["self"]) fun _ _ _ _ _ _ us hl => match us, hl with | [_], _ => rfl
  have F_Space_give := fun_mk (st := s_Space_give) l_Space_give q_Space_give k_Space_give
  have d_Space_give := F_Space_give.binds (ps := ["self", "row"]) fun _ _ _ _ _ _ us hl => match us, hl with | [_, _], _ => rfl
  have F_Space_free_count := fun_mk (st := s_Space_free_count) l_Space_free_count q_Space_free_count k_Space_free_count
  have d_Space_free_count := F_Space_free_count.binds (ps := ["self"]) fun _ _ _ _ _ _ us hl => match us, hl with | [_], _ => rfl
  have F_Store_init := fun_mk (st := s_Store_init) l_Store_init q_Store_init k_Store_init
  have d_Store_init := kbn_mk (ps := ["self", "data", "parity", "rows", "members", "epoch"]) (n := 1) (ks := ["data", "parity", "rows", "members", "epoch"]) F_Store_init fun _ _ _ _ _ _ us ws l1 l2 => match us, l1, ws, l2 with | [_], _, [_, _, _, _, _], _ => rfl
  have F_Store_look := fun_mk (st := s_Store_look) l_Store_look q_Store_look k_Store_look
  have d_Store_look := F_Store_look.binds (ps := ["self", "images"]) fun _ _ _ _ _ _ us hl => match us, hl with | [_, _], _ => rfl
  have F_Store_put := fun_mk (st := s_Store_put) l_Store_put q_Store_put k_Store_put
  have kb_Store_put := kbn_mk (ps := ["self", "words", "avoid"]) (n := 2) (ks := ["avoid"]) F_Store_put fun _ _ _ _ _ _ us ws l1 l2 => match us, l1, ws, l2 with | [_, _], _, [_], _ => rfl
  have d_Store_put := kwd_one (ps := ["self", "words", "avoid"]) (n := 2) l_Store_put kw_Store_put rfl fun us v l1 => match us, l1 with | [_, _], _ => ⟨_, _, _, _, _, _, rfl, rfl, rfl⟩
  have e_Store_put_ := ktp_of [] le_Store_put (by decide)
  have F_Store_get := fun_mk (st := s_Store_get) l_Store_get q_Store_get k_Store_get
  have d_Store_get := F_Store_get.binds (ps := ["self", "pointer"]) fun _ _ _ _ _ _ us hl => match us, hl with | [_, _], _ => rfl
  have F_Store_trim := fun_mk (st := s_Store_trim) l_Store_trim q_Store_trim k_Store_trim
  have d_Store_trim := F_Store_trim.binds (ps := ["self", "live"]) fun _ _ _ _ _ _ us hl => match us, hl with | [_, _], _ => rfl
  have F_Store_forget := fun_mk (st := s_Store_forget) l_Store_forget q_Store_forget k_Store_forget
  have d_Store_forget := F_Store_forget.binds (ps := ["self", "pointers"]) fun _ _ _ _ _ _ us hl => match us, hl with | [_, _], _ => rfl
  have F_Store_free_counts := fun_mk (st := s_Store_free_counts) l_Store_free_counts q_Store_free_counts k_Store_free_counts
  have d_Store_free_counts := F_Store_free_counts.binds (ps := ["self"]) fun _ _ _ _ _ _ us hl => match us, hl with | [_], _ => rfl
  have T : Txt w K mg ⟨f_is_present, _, f_sector_at, _, f_inverse, _, f_weight, _, f_weights, _, f_check_lengths, _, f_piece_at, _, f_present_numbers, _, f_recover, _, f_check_words, _, f_is_place, _, f_unseal, _, f_is_whole, _, f_choose_disks, _, f_piece_size, _, f_good_piece, _, f_read_stripe, _, f_law_pot, _, f_law_next, _, f_law_is_int, _, f_law_word, _, f_law_words, _, f_law_is_pointer, _, f_law_refused, _, f_law_counts_right, _, fa, _, f_Space_init, _, f_Space_take, _, f_Space_give, _, f_Space_free_count, _, f_Store_init, _, f_Store_look, _, f_Store_put, _, f_Store_get, _, f_Store_trim, _, f_Store_forget, _, f_Store_free_counts, _, c_PoolError, c_InvalidArgument, c_NotEnoughPieces, c_NoSpace, c_NotEnoughDisks, c_Damaged, c_Space, c_Store, e_Store_put, w⟩ := {
    F_is_present := F_is_present, g_is_present := PySem.W.mg_of X G a_is_present, d_is_present := d_is_present,
    F_sector_at := F_sector_at, g_sector_at := PySem.W.mg_of X G a_sector_at, d_sector_at := d_sector_at,
    F_inverse := F_inverse, g_inverse := PySem.W.mg_of X G a_inverse, d_inverse := d_inverse,
    F_weight := F_weight, g_weight := PySem.W.mg_of X G a_weight, d_weight := d_weight,
    F_weights := F_weights, g_weights := PySem.W.mg_of X G a_weights, d_weights := d_weights,
    F_check_lengths := F_check_lengths, g_check_lengths := PySem.W.mg_of X G a_check_lengths, d_check_lengths := d_check_lengths,
    F_piece_at := F_piece_at, g_piece_at := PySem.W.mg_of X G a_piece_at, d_piece_at := d_piece_at,
    F_present_numbers := F_present_numbers, g_present_numbers := PySem.W.mg_of X G a_present_numbers, d_present_numbers := d_present_numbers,
    F_recover := F_recover, g_recover := PySem.W.mg_of X G a_recover, d_recover := d_recover,
    F_check_words := F_check_words, g_check_words := PySem.W.mg_of X G a_check_words, d_check_words := d_check_words,
    F_is_place := F_is_place, g_is_place := PySem.W.mg_of X G a_is_place, d_is_place := d_is_place,
    F_unseal := F_unseal, g_unseal := PySem.W.mg_of X G a_unseal, d_unseal := d_unseal,
    F_is_whole := F_is_whole, g_is_whole := PySem.W.mg_of X G a_is_whole, d_is_whole := d_is_whole,
    F_choose_disks := F_choose_disks, g_choose_disks := PySem.W.mg_of X G a_choose_disks, d_choose_disks := d_choose_disks,
    F_piece_size := F_piece_size, g_piece_size := PySem.W.mg_of X G a_piece_size, d_piece_size := d_piece_size,
    F_good_piece := F_good_piece, g_good_piece := PySem.W.mg_of X G a_good_piece, d_good_piece := d_good_piece,
    F_read_stripe := F_read_stripe, g_read_stripe := PySem.W.mg_of X G a_read_stripe, d_read_stripe := d_read_stripe,
    F_law_pot := F_law_pot, g_law_pot := PySem.W.mg_of X G a_law_pot, d_law_pot := d_law_pot,
    F_law_next := F_law_next, g_law_next := PySem.W.mg_of X G a_law_next, d_law_next := d_law_next,
    F_law_is_int := F_law_is_int, g_law_is_int := PySem.W.mg_of X G a_law_is_int, d_law_is_int := d_law_is_int,
    F_law_word := F_law_word, g_law_word := PySem.W.mg_of X G a_law_word, d_law_word := d_law_word,
    F_law_words := F_law_words, g_law_words := PySem.W.mg_of X G a_law_words, d_law_words := d_law_words,
    F_law_is_pointer := F_law_is_pointer, g_law_is_pointer := PySem.W.mg_of X G a_law_is_pointer, d_law_is_pointer := d_law_is_pointer,
    F_law_refused := F_law_refused, g_law_refused := PySem.W.mg_of X G a_law_refused, d_law_refused := d_law_refused,
    F_law_counts_right := F_law_counts_right, g_law_counts_right := PySem.W.mg_of X G a_law_counts_right, d_law_counts_right := d_law_counts_right,
    F_law := F_law, g_law := PySem.W.mg_of X G a_law, d_law := d_law,
    F_Space_init := F_Space_init, mk_Space := ⟨mk_Space, a_Space_init, i_Space_init, kc_Space⟩, d_Space_init := d_Space_init,
    F_Space_take := F_Space_take, m_Space_take := ⟨a_Space_take, i_Space_take, k_Space_take⟩, d_Space_take := d_Space_take,
    F_Space_give := F_Space_give, m_Space_give := ⟨a_Space_give, i_Space_give, k_Space_give⟩, d_Space_give := d_Space_give,
    F_Space_free_count := F_Space_free_count, m_Space_free_count := ⟨a_Space_free_count, i_Space_free_count, k_Space_free_count⟩, d_Space_free_count := d_Space_free_count,
    F_Store_init := F_Store_init, mk_Store := ⟨mk_Store, a_Store_init, i_Store_init, kc_Store⟩, d_Store_init := d_Store_init,
    F_Store_look := F_Store_look, m_Store_look := ⟨a_Store_look, i_Store_look, k_Store_look⟩, d_Store_look := d_Store_look,
    F_Store_put := F_Store_put, m_Store_put := ⟨a_Store_put, i_Store_put, k_Store_put⟩, d_Store_put := d_Store_put, kb_Store_put := kb_Store_put, e_Store_put := e_Store_put_,
    F_Store_get := F_Store_get, m_Store_get := ⟨a_Store_get, i_Store_get, k_Store_get⟩, d_Store_get := d_Store_get,
    F_Store_trim := F_Store_trim, m_Store_trim := ⟨a_Store_trim, i_Store_trim, k_Store_trim⟩, d_Store_trim := d_Store_trim,
    F_Store_forget := F_Store_forget, m_Store_forget := ⟨a_Store_forget, i_Store_forget, k_Store_forget⟩, d_Store_forget := d_Store_forget,
    F_Store_free_counts := F_Store_free_counts, m_Store_free_counts := ⟨a_Store_free_counts, i_Store_free_counts, k_Store_free_counts⟩, d_Store_free_counts := d_Store_free_counts,
    g_Space := PySem.W.mg_of X G a_Space, cl_Space := ⟨pg_Space, hd_Space, po_Space, sa_Space⟩,
    na_Space_first := na_Space_first,
    na_Space_lowest := na_Space_lowest,
    na_Space_rows := na_Space_rows,
    na_Space_states := na_Space_states,
    g_Store := PySem.W.mg_of X G a_Store, cl_Store := ⟨pg_Store, hd_Store, po_Store, sa_Store⟩,
    na_Store_blocks := na_Store_blocks,
    na_Store_images := na_Store_images,
    na_Store_made := na_Store_made,
    na_Store_memory := na_Store_memory,
    na_Store_spaces := na_Store_spaces,
    na_Store_data := na_Store_data,
    na_Store_epoch := na_Store_epoch,
    na_Store_members := na_Store_members,
    na_Store_parity := na_Store_parity,
    na_Store_rows := na_Store_rows,
    g_PRIME := ⟨_, PySem.W.mg_of X G a_PRIME, ⟨_, rfl⟩⟩,
    g_MAX_PIECES := ⟨_, PySem.W.mg_of X G a_MAX_PIECES, ⟨_, rfl⟩⟩,
    g_MAX_DISKS := ⟨_, PySem.W.mg_of X G a_MAX_DISKS, ⟨_, rfl⟩⟩,
    g_MAX_PAYLOAD := ⟨_, PySem.W.mg_of X G a_MAX_PAYLOAD, ⟨_, rfl⟩⟩,
    g_MAX_ROWS := ⟨_, PySem.W.mg_of X G a_MAX_ROWS, ⟨_, rfl⟩⟩,
    g_FIRST_ROW := ⟨_, PySem.W.mg_of X G a_FIRST_ROW, ⟨_, rfl⟩⟩,
    g_NEW := ⟨_, PySem.W.mg_of X G a_NEW, ⟨_, rfl⟩⟩,
    g_OLD := ⟨_, PySem.W.mg_of X G a_OLD, ⟨_, rfl⟩⟩,
    g_WAITING := ⟨_, PySem.W.mg_of X G a_WAITING, ⟨_, rfl⟩⟩,
    g_LABEL := ⟨_, PySem.W.mg_of X G a_LABEL, ⟨_, rfl⟩⟩,
    g_PIECE := ⟨_, PySem.W.mg_of X G a_PIECE, ⟨_, rfl⟩⟩,
    g_HEADER_WORDS := ⟨_, PySem.W.mg_of X G a_HEADER_WORDS, ⟨_, rfl⟩⟩,
    g_CHECK_WORDS := ⟨_, PySem.W.mg_of X G a_CHECK_WORDS, ⟨_, rfl⟩⟩,
    hw := rfl,
    n_len := PySem.W.mg_none_of X G n_len,
    n_enumerate := PySem.W.mg_none_of X G n_enumerate,
    n_sum := PySem.W.mg_none_of X G n_sum,
    n_zip := PySem.W.mg_none_of X G n_zip,
    n_list := PySem.W.mg_none_of X G n_list,
    n_tuple := PySem.W.mg_none_of X G n_tuple,
    n_min := PySem.W.mg_none_of X G n_min,
    n_max := PySem.W.mg_none_of X G n_max,
    n_sorted := PySem.W.mg_none_of X G n_sorted,
    n_int := PySem.W.mg_none_of X G n_int,
    n_abs := PySem.W.mg_none_of X G n_abs,
    n_isinstance := PySem.W.mg_none_of X G n_isinstance,
    n_bool := PySem.W.mg_none_of X G n_bool,
    n_range := PySem.W.mg_none_of X G n_range,
    n_all := PySem.W.mg_none_of X G n_all,
    g_PoolError := PySem.W.mg_of X G a_PoolError, x_PoolError := x_PoolError, k_PoolError := k_PoolError, b_PoolError := b_PoolError, t_PoolError := t_PoolError, E_PoolError := ⟨E1_PoolError, E2_PoolError, b_PoolError, E3_PoolError, E4_PoolError, E6, E7, E5_PoolError⟩,
    g_InvalidArgument := PySem.W.mg_of X G a_InvalidArgument, x_InvalidArgument := x_InvalidArgument, k_InvalidArgument := k_InvalidArgument, b_InvalidArgument := b_InvalidArgument, t_InvalidArgument := t_InvalidArgument, E_InvalidArgument := ⟨E1_InvalidArgument, E2_InvalidArgument, b_InvalidArgument, E3_InvalidArgument, E4_InvalidArgument, E6, E7, E5_InvalidArgument⟩,
    g_NotEnoughPieces := PySem.W.mg_of X G a_NotEnoughPieces, x_NotEnoughPieces := x_NotEnoughPieces, k_NotEnoughPieces := k_NotEnoughPieces, b_NotEnoughPieces := b_NotEnoughPieces, t_NotEnoughPieces := t_NotEnoughPieces, E_NotEnoughPieces := ⟨E1_NotEnoughPieces, E2_NotEnoughPieces, b_NotEnoughPieces, E3_NotEnoughPieces, E4_NotEnoughPieces, E6, E7, E5_NotEnoughPieces⟩,
    g_NoSpace := PySem.W.mg_of X G a_NoSpace, x_NoSpace := x_NoSpace, k_NoSpace := k_NoSpace, b_NoSpace := b_NoSpace, t_NoSpace := t_NoSpace, E_NoSpace := ⟨E1_NoSpace, E2_NoSpace, b_NoSpace, E3_NoSpace, E4_NoSpace, E6, E7, E5_NoSpace⟩,
    g_NotEnoughDisks := PySem.W.mg_of X G a_NotEnoughDisks, x_NotEnoughDisks := x_NotEnoughDisks, k_NotEnoughDisks := k_NotEnoughDisks, b_NotEnoughDisks := b_NotEnoughDisks, t_NotEnoughDisks := t_NotEnoughDisks, E_NotEnoughDisks := ⟨E1_NotEnoughDisks, E2_NotEnoughDisks, b_NotEnoughDisks, E3_NotEnoughDisks, E4_NotEnoughDisks, E6, E7, E5_NotEnoughDisks⟩,
    g_Damaged := PySem.W.mg_of X G a_Damaged, x_Damaged := x_Damaged, k_Damaged := k_Damaged, b_Damaged := b_Damaged, t_Damaged := t_Damaged, E_Damaged := ⟨E1_Damaged, E2_Damaged, b_Damaged, E3_Damaged, E4_Damaged, E6, E7, E5_Damaged⟩,
    u_InvalidArgument_PoolError := PySem.W.exm_ref b_PoolError E3_PoolError t_PoolError u_InvalidArgument_PoolError,
    i_InvalidArgument_InvalidArgument := kit_self }
  exact ⟨PySem.W.fnOf "law" "law" (defArgs s_law) (defBody s_law) (defScope s_law) .none kV_law dc_law pm_law an_law cd_law ct_law, fun s v => .of_eq rfl, fun base _ _ => (ok_law T).imp fun vs H Q E h => h⟩
theorem walk {l : PySem.W.OpenLaw} {q : Program} {loose : List Str} {XP : (Str → Option Value) → Heap → Prop} {YP : World → Heap → Prop} {d : DefRec} {K : Params → PySem.W.Frag} (hn : l.most = some 63) (hdf : d.params.defaults = [])
    (hY : ∀ (w : World) (h : Heap), YP w h → (K w.params).In h)
    (F : ∀ (w : World) (mg : Str → Option Value) (fa : Addr) (h : Heap), (K w.params).In h → h.Ns mainGlobals mg → mg d.name = some (.ref fa) →
      ∃ fd : FuncData, (∀ (s : Shared) (u : Value), BindsTo s fd ⟨[u], []⟩ [("script", u)]) ∧ ∀ base : Heap, (K w.params).In base → base.Ns mainGlobals mg → FnOk l.prog w (K w.params) mg base CX0 11 fa fd ["script"] (sp_law0 (K w.params))) :
    PySem.W.WalkO q loose XP YP l.row.toRowW d [] (fun f vs => PySem.call f vs) :=
  L2.walk_of (n := 63) (k := 11) (x := "script") (CX := fun _ => CX0) (sp := fun w => sp_law0 (K w.params)) hn (by decide) hdf ⟨rfl, by decide, by decide⟩ hY F (fun _ _ a ns hl _ hS => ⟨a, ns, rfl, hS, hl, fun _ => rfl⟩) fun _ _ _ _ _ z => z
end PP
open PySem PySem.W PyProof.Rows
set_option maxRecDepth 100000 in
set_option maxHeartbeats 0 in
theorem PySem.Challenge.cw_paritypool_k26_put_and_get_holds : PySem.Challenge.rw_paritypool_k26_put_and_get.Holds := by
  w_on; o_law; k_head; (case hw => w_witness2)
  k_fill
  refine PP.walk (l := PySem.Challenge.rw_paritypool_k26_put_and_get) rfl rfl (fun w h Y => PySem.W.kIn_of Y) ?F
  case F =>
    intro w mg fa h KX G hmg
    refine' PP.all_mk KX G hmg ?a_Space ?a_Store ?a_is_present ?l_is_present ?q_is_present ?k_is_present ?a_sector_at ?l_sector_at ?q_sector_at ?k_sector_at ?a_inverse ?l_inverse ?q_inverse ?k_inverse ?a_weight ?l_weight ?q_weight ?k_weight ?a_weights ?l_weights ?q_weights ?k_weights ?a_check_lengths ?l_check_lengths ?q_check_lengths ?k_check_lengths ?a_piece_at ?l_piece_at ?q_piece_at ?k_piece_at ?a_present_numbers ?l_present_numbers ?q_present_numbers ?k_present_numbers ?a_recover ?l_recover ?q_recover ?k_recover ?a_check_words ?l_check_words ?q_check_words ?k_check_words ?a_is_place ?l_is_place ?q_is_place ?k_is_place ?a_unseal ?l_unseal ?q_unseal ?k_unseal ?a_is_whole ?l_is_whole ?q_is_whole ?k_is_whole ?a_choose_disks ?l_choose_disks ?q_choose_disks ?k_choose_disks ?a_piece_size ?l_piece_size ?q_piece_size ?k_piece_size ?a_good_piece ?l_good_piece ?q_good_piece ?k_good_piece ?a_read_stripe ?l_read_stripe ?q_read_stripe ?k_read_stripe ?a_law_pot ?l_law_pot ?q_law_pot ?k_law_pot ?a_law_next ?l_law_next ?q_law_next ?k_law_next ?a_law_is_int ?l_law_is_int ?q_law_is_int ?k_law_is_int ?a_law_word ?l_law_word ?q_law_word ?k_law_word ?a_law_words ?l_law_words ?q_law_words ?k_law_words ?a_law_is_pointer ?l_law_is_pointer ?q_law_is_pointer ?k_law_is_pointer ?a_law_refused ?l_law_refused ?q_law_refused ?k_law_refused ?a_law_counts_right ?l_law_counts_right ?q_law_counts_right ?k_law_counts_right ?a_law ?l_law ?q_law ?k_law ?a_Space_init ?i_Space_init ?l_Space_init ?q_Space_init ?k_Space_init ?a_Space_take ?i_Space_take ?l_Space_take ?q_Space_take ?k_Space_take ?a_Space_give ?i_Space_give ?l_Space_give ?q_Space_give ?k_Space_give ?a_Space_free_count ?i_Space_free_count ?l_Space_free_count ?q_Space_free_count ?k_Space_free_count ?a_Store_init ?i_Store_init ?l_Store_init ?q_Store_init ?k_Store_init ?a_Store_look ?i_Store_look ?l_Store_look ?q_Store_look ?k_Store_look ?a_Store_put ?i_Store_put ?l_Store_put ?kw_Store_put ?le_Store_put ?q_Store_put ?k_Store_put ?a_Store_get ?i_Store_get ?l_Store_get ?q_Store_get ?k_Store_get ?a_Store_trim ?i_Store_trim ?l_Store_trim ?q_Store_trim ?k_Store_trim ?a_Store_forget ?i_Store_forget ?l_Store_forget ?q_Store_forget ?k_Store_forget ?a_Store_free_counts ?i_Store_free_counts ?l_Store_free_counts ?q_Store_free_counts ?k_Store_free_counts ?a_PRIME ?a_MAX_PIECES ?a_MAX_DISKS ?a_MAX_PAYLOAD ?a_MAX_ROWS ?a_FIRST_ROW ?a_NEW ?a_OLD ?a_WAITING ?a_LABEL ?a_PIECE ?a_HEADER_WORDS ?a_CHECK_WORDS ?n_len ?n_enumerate ?n_sum ?n_zip ?n_list ?n_tuple ?n_min ?n_max ?n_sorted ?n_int ?n_abs ?n_isinstance ?n_bool ?n_range ?n_all ?pg_Space ?hd_Space ?po_Space ?sa_Space ?mk_Space ?kc_Space ?na_Space_first ?na_Space_lowest ?na_Space_rows ?na_Space_states ?pg_Store ?hd_Store ?po_Store ?sa_Store ?mk_Store ?kc_Store ?na_Store_blocks ?na_Store_images ?na_Store_made ?na_Store_memory ?na_Store_spaces ?na_Store_data ?na_Store_epoch ?na_Store_members ?na_Store_parity ?na_Store_rows ?a_PoolError ?x_PoolError ?k_PoolError ?b_PoolError ?t_PoolError ?E1_PoolError ?E2_PoolError ?E3_PoolError ?E4_PoolError ?s_PoolError ?E5_PoolError ?a_InvalidArgument ?x_InvalidArgument ?k_InvalidArgument ?b_InvalidArgument ?t_InvalidArgument ?E1_InvalidArgument ?E2_InvalidArgument ?E3_InvalidArgument ?E4_InvalidArgument ?s_InvalidArgument ?E5_InvalidArgument ?a_NotEnoughPieces ?x_NotEnoughPieces ?k_NotEnoughPieces ?b_NotEnoughPieces ?t_NotEnoughPieces ?E1_NotEnoughPieces ?E2_NotEnoughPieces ?E3_NotEnoughPieces ?E4_NotEnoughPieces ?s_NotEnoughPieces ?E5_NotEnoughPieces ?a_NoSpace ?x_NoSpace ?k_NoSpace ?b_NoSpace ?t_NoSpace ?E1_NoSpace ?E2_NoSpace ?E3_NoSpace ?E4_NoSpace ?s_NoSpace ?E5_NoSpace ?a_NotEnoughDisks ?x_NotEnoughDisks ?k_NotEnoughDisks ?b_NotEnoughDisks ?t_NotEnoughDisks ?E1_NotEnoughDisks ?E2_NotEnoughDisks ?E3_NotEnoughDisks ?E4_NotEnoughDisks ?s_NotEnoughDisks ?E5_NotEnoughDisks ?a_Damaged ?x_Damaged ?k_Damaged ?b_Damaged ?t_Damaged ?E1_Damaged ?E2_Damaged ?E3_Damaged ?E4_Damaged ?s_Damaged ?E5_Damaged ?E6 ?E7 ?u_InvalidArgument_PoolError
    (case a_Space => k_is)
    (case a_Store => k_is)
    (case a_is_present => k_is)
    (case l_is_present => k_is)
    (case q_is_present => k_is)
    (case k_is_present => k_is)
    (case a_sector_at => k_is)
    (case l_sector_at => k_is)
    (case q_sector_at => k_is)
    (case k_sector_at => k_is)
    (case a_inverse => k_is)
    (case l_inverse => k_is)
    (case q_inverse => k_is)
    (case k_inverse => k_is)
    (case a_weight => k_is)
    (case l_weight => k_is)
    (case q_weight => k_is)
    (case k_weight => k_is)
    (case a_weights => k_is)
    (case l_weights => k_is)
    (case q_weights => k_is)
    (case k_weights => k_is)
    (case a_check_lengths => k_is)
    (case l_check_lengths => k_is)
    (case q_check_lengths => k_is)
    (case k_check_lengths => k_is)
    (case a_piece_at => k_is)
    (case l_piece_at => k_is)
    (case q_piece_at => k_is)
    (case k_piece_at => k_is)
    (case a_present_numbers => k_is)
    (case l_present_numbers => k_is)
    (case q_present_numbers => k_is)
    (case k_present_numbers => k_is)
    (case a_recover => k_is)
    (case l_recover => k_is)
    (case q_recover => k_is)
    (case k_recover => k_is)
    (case a_check_words => k_is)
    (case l_check_words => k_is)
    (case q_check_words => k_is)
    (case k_check_words => k_is)
    (case a_is_place => k_is)
    (case l_is_place => k_is)
    (case q_is_place => k_is)
    (case k_is_place => k_is)
    (case a_unseal => k_is)
    (case l_unseal => k_is)
    (case q_unseal => k_is)
    (case k_unseal => k_is)
    (case a_is_whole => k_is)
    (case l_is_whole => k_is)
    (case q_is_whole => k_is)
    (case k_is_whole => k_is)
    (case a_choose_disks => k_is)
    (case l_choose_disks => k_is)
    (case q_choose_disks => k_is)
    (case k_choose_disks => k_is)
    (case a_piece_size => k_is)
    (case l_piece_size => k_is)
    (case q_piece_size => k_is)
    (case k_piece_size => k_is)
    (case a_good_piece => k_is)
    (case l_good_piece => k_is)
    (case q_good_piece => k_is)
    (case k_good_piece => k_is)
    (case a_read_stripe => k_is)
    (case l_read_stripe => k_is)
    (case q_read_stripe => k_is)
    (case k_read_stripe => k_is)
    (case a_law_pot => k_is)
    (case l_law_pot => k_is)
    (case q_law_pot => k_is)
    (case k_law_pot => k_is)
    (case a_law_next => k_is)
    (case l_law_next => k_is)
    (case q_law_next => k_is)
    (case k_law_next => k_is)
    (case a_law_is_int => k_is)
    (case l_law_is_int => k_is)
    (case q_law_is_int => k_is)
    (case k_law_is_int => k_is)
    (case a_law_word => k_is)
    (case l_law_word => k_is)
    (case q_law_word => k_is)
    (case k_law_word => k_is)
    (case a_law_words => k_is)
    (case l_law_words => k_is)
    (case q_law_words => k_is)
    (case k_law_words => k_is)
    (case a_law_is_pointer => k_is)
    (case l_law_is_pointer => k_is)
    (case q_law_is_pointer => k_is)
    (case k_law_is_pointer => k_is)
    (case a_law_refused => k_is)
    (case l_law_refused => k_is)
    (case q_law_refused => k_is)
    (case k_law_refused => k_is)
    (case a_law_counts_right => k_is)
    (case l_law_counts_right => k_is)
    (case q_law_counts_right => k_is)
    (case k_law_counts_right => k_is)
    (case a_law => k_is)
    (case l_law => k_is)
    (case q_law => k_is)
    (case k_law => k_is)
    (case a_Space_init => k_is)
    (case i_Space_init => k_is)
    (case l_Space_init => k_is)
    (case q_Space_init => k_is)
    (case k_Space_init => k_is)
    (case a_Space_take => k_is)
    (case i_Space_take => k_is)
    (case l_Space_take => k_is)
    (case q_Space_take => k_is)
    (case k_Space_take => k_is)
    (case a_Space_give => k_is)
    (case i_Space_give => k_is)
    (case l_Space_give => k_is)
    (case q_Space_give => k_is)
    (case k_Space_give => k_is)
    (case a_Space_free_count => k_is)
    (case i_Space_free_count => k_is)
    (case l_Space_free_count => k_is)
    (case q_Space_free_count => k_is)
    (case k_Space_free_count => k_is)
    (case a_Store_init => k_is)
    (case i_Store_init => k_is)
    (case l_Store_init => k_is)
    (case q_Store_init => k_is)
    (case k_Store_init => k_is)
    (case a_Store_look => k_is)
    (case i_Store_look => k_is)
    (case l_Store_look => k_is)
    (case q_Store_look => k_is)
    (case k_Store_look => k_is)
    (case a_Store_put => k_is)
    (case i_Store_put => k_is)
    (case l_Store_put => k_is)
    (case kw_Store_put => k_is)
    (case le_Store_put => k_is)
    (case q_Store_put => k_is)
    (case k_Store_put => k_is)
    (case a_Store_get => k_is)
    (case i_Store_get => k_is)
    (case l_Store_get => k_is)
    (case q_Store_get => k_is)
    (case k_Store_get => k_is)
    (case a_Store_trim => k_is)
    (case i_Store_trim => k_is)
    (case l_Store_trim => k_is)
    (case q_Store_trim => k_is)
    (case k_Store_trim => k_is)
    (case a_Store_forget => k_is)
    (case i_Store_forget => k_is)
    (case l_Store_forget => k_is)
    (case q_Store_forget => k_is)
    (case k_Store_forget => k_is)
    (case a_Store_free_counts => k_is)
    (case i_Store_free_counts => k_is)
    (case l_Store_free_counts => k_is)
    (case q_Store_free_counts => k_is)
    (case k_Store_free_counts => k_is)
    (case a_PRIME => k_is)
    (case a_MAX_PIECES => k_is)
    (case a_MAX_DISKS => k_is)
    (case a_MAX_PAYLOAD => k_is)
    (case a_MAX_ROWS => k_is)
    (case a_FIRST_ROW => k_is)
    (case a_NEW => k_is)
    (case a_OLD => k_is)
    (case a_WAITING => k_is)
    (case a_LABEL => k_is)
    (case a_PIECE => k_is)
    (case a_HEADER_WORDS => k_is)
    (case a_CHECK_WORDS => k_is)
    (case n_len => k_is)
    (case n_enumerate => k_is)
    (case n_sum => k_is)
    (case n_zip => k_is)
    (case n_list => k_is)
    (case n_tuple => k_is)
    (case n_min => k_is)
    (case n_max => k_is)
    (case n_sorted => k_is)
    (case n_int => k_is)
    (case n_abs => k_is)
    (case n_isinstance => k_is)
    (case n_bool => k_is)
    (case n_range => k_is)
    (case n_all => k_is)
    (case pg_Space => k_is)
    (case hd_Space => k_is)
    (case po_Space => k_is)
    (case sa_Space => k_is)
    (case mk_Space => k_is)
    (case kc_Space => k_is)
    (case na_Space_first => k_is)
    (case na_Space_lowest => k_is)
    (case na_Space_rows => k_is)
    (case na_Space_states => k_is)
    (case pg_Store => k_is)
    (case hd_Store => k_is)
    (case po_Store => k_is)
    (case sa_Store => k_is)
    (case mk_Store => k_is)
    (case kc_Store => k_is)
    (case na_Store_blocks => k_is)
    (case na_Store_images => k_is)
    (case na_Store_made => k_is)
    (case na_Store_memory => k_is)
    (case na_Store_spaces => k_is)
    (case na_Store_data => k_is)
    (case na_Store_epoch => k_is)
    (case na_Store_members => k_is)
    (case na_Store_parity => k_is)
    (case na_Store_rows => k_is)
    (case a_PoolError => k_is)
    (case x_PoolError => k_exc)
    (case k_PoolError => k_is)
    (case b_PoolError => k_is)
    (case t_PoolError => k_is)
    (case E1_PoolError => k_is)
    (case E2_PoolError => k_is)
    (case E3_PoolError => k_is)
    (case E4_PoolError => k_is)
    (case s_PoolError => first | rfl | k_is)
    (case E5_PoolError => k_is)
    (case a_InvalidArgument => k_is)
    (case x_InvalidArgument => k_exc)
    (case k_InvalidArgument => k_is)
    (case b_InvalidArgument => k_is)
    (case t_InvalidArgument => k_is)
    (case E1_InvalidArgument => k_is)
    (case E2_InvalidArgument => k_is)
    (case E3_InvalidArgument => k_is)
    (case E4_InvalidArgument => k_is)
    (case s_InvalidArgument => first | rfl | k_is)
    (case E5_InvalidArgument => k_is)
    (case a_NotEnoughPieces => k_is)
    (case x_NotEnoughPieces => k_exc)
    (case k_NotEnoughPieces => k_is)
    (case b_NotEnoughPieces => k_is)
    (case t_NotEnoughPieces => k_is)
    (case E1_NotEnoughPieces => k_is)
    (case E2_NotEnoughPieces => k_is)
    (case E3_NotEnoughPieces => k_is)
    (case E4_NotEnoughPieces => k_is)
    (case s_NotEnoughPieces => first | rfl | k_is)
    (case E5_NotEnoughPieces => k_is)
    (case a_NoSpace => k_is)
    (case x_NoSpace => k_exc)
    (case k_NoSpace => k_is)
    (case b_NoSpace => k_is)
    (case t_NoSpace => k_is)
    (case E1_NoSpace => k_is)
    (case E2_NoSpace => k_is)
    (case E3_NoSpace => k_is)
    (case E4_NoSpace => k_is)
    (case s_NoSpace => first | rfl | k_is)
    (case E5_NoSpace => k_is)
    (case a_NotEnoughDisks => k_is)
    (case x_NotEnoughDisks => k_exc)
    (case k_NotEnoughDisks => k_is)
    (case b_NotEnoughDisks => k_is)
    (case t_NotEnoughDisks => k_is)
    (case E1_NotEnoughDisks => k_is)
    (case E2_NotEnoughDisks => k_is)
    (case E3_NotEnoughDisks => k_is)
    (case E4_NotEnoughDisks => k_is)
    (case s_NotEnoughDisks => first | rfl | k_is)
    (case E5_NotEnoughDisks => k_is)
    (case a_Damaged => k_is)
    (case x_Damaged => k_exc)
    (case k_Damaged => k_is)
    (case b_Damaged => k_is)
    (case t_Damaged => k_is)
    (case E1_Damaged => k_is)
    (case E2_Damaged => k_is)
    (case E3_Damaged => k_is)
    (case E4_Damaged => k_is)
    (case s_Damaged => first | rfl | k_is)
    (case E5_Damaged => k_is)
    (case E6 => k_is)
    (case E7 => k_is)
    (case u_InvalidArgument_PoolError => k_is)
