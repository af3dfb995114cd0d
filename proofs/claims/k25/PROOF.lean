import PyProof.Rows.All
import Wide.All
import OpenK.AllK
import Wide.FinOn
import HandS.ForMost
import HandS.ForExc
import HandS.ExcIs
import HandS.IsInst
import HandS.Evl
import HandS.Walk
import HandS.More
import HandS.Wide
import HandS.SortRule
import HandS.DictTup
import HandS.TupLen
import KE.SortData
import KE.DataCmp
import KE.KDictSum
import PySem.Challenge.RW_paritypool_k25_schedule
set_option Elab.async false
set_option linter.all false
set_option maxRecDepth 100000
set_option maxHeartbeats 2000000
/-! sorted(xs) of items that read as data of one shape -/
namespace L2
open PySem PySem.Spec PyProof.Rows
theorem each_of {R : Value → V → Prop} : ∀ {xs : List V} {us : List Value}, Paired RelV xs us → (∀ x ∈ xs, ∀ u, RelV x u → R u x) → PySem.W.EachIs R us xs
  | [], _, .nil, _ => .nil
  | x :: xs, _, .cons r rr, h => .cons (h x (by simp) _ r) (each_of rr fun y m => h y (by simp [m]))
theorem vals_of_each : ∀ {us : List Value} {xs : List V}, PySem.W.EachIs (fun u x => RelV x u) us xs → Paired RelV xs us
  | _, _, .nil => .nil
  | _, _, .cons r rr => .cons r (vals_of_each rr)
def rSortedD (K : PySem.W.Frag) : List V → Hp → VK → Prop := fun vs H Q => ∃ (a : Addr) (xs : List V) (k : V → PyData), vs = [V.ref a] ∧ SqL K H a xs ∧ (∀ x ∈ xs, Dp K H x (k x)) ∧ PySem.W.AllAlike (xs.map k) ∧ PySem.W.Sortable (xs.map k) ∧ (∀ x ∈ xs, (k x).depth ≤ 40) ∧
  ∀ p, H p = none → Q (.ref p) (upd H p (.lst (xs.mergeSort (PySem.W.dataLe false k))))
section
variable {X : Cx}
theorem cr_sortedD (hu : X.A.units + 64 < cLine) : CallR X (.builtin "sorted") (rSortedD X.K) := by
  intro pins s σ H vs us Q I r h
  obtain ⟨a, xs, k, rfl, hs, hx, hal, hk, hd, q⟩ := h
  obtain ⟨its, rv, hl, hz⟩ := I.list hs
  obtain ⟨u, rfl, ru⟩ := vals1 r
  obtain rfl : u = Value.ref a := ru
  refine PySem.W.sorted_data (R := fun u x => RelV x u) (enc := k) hl.isList (each_of rv fun _ _ _ r => r) (each_of rv fun x m u r => Dp.reads I _ x u (hx x m) r) hal hk hz (fun b hb => ?_) fun out hlen eo => ?_
  · have := hd b hb
    omega
  · obtain ⟨n, hn⟩ := sortedAll_at s.heap its out.toArray
    refine ⟨.ref (s.heap.objs.size + 1), _, I.laid (a := s.heap.objs.size + 1) (o := .lst (xs.mergeSort (PySem.W.dataLe false k))) (t' := s.toks) (fun b o e => sortedAll_old e) (Nat.le_succ _) ⟨?_, out, n, vals_of_each eo, hn⟩, rfl, q _ (I.hok.fresh (Nat.le_succ _))⟩
    rw [List.length_mergeSort]
    exact hz
end
end L2
/-! sorted(d), d a dict whose keys are flat tuples of one shape: a new list of the key tuples -/
namespace L2
open PySem PySem.Spec PyProof.Rows
def kD : Key → PyData
  | .inl i => .int i
  | .inr s => .str s
def keyD (e : Addr × List Key) : PyData := .tuple (e.2.map kD)
theorem src_raw {prog : Program} {w : World} {d : Addr} {o : Obj} {es : Array DictEntry} {ep : Nat}
    (lo : (d == sysModules) = false) (hx : o.ExactDict) (hdt : o.data = .dict es ep) :
    PySem.W.KdlSrc prog w "dict" d d es.size (fun i v => ∃ en, es[i]? = some en ∧ v = en.key) (fun h => h.get? d = some o) := by
  refine ⟨fun s h => ⟨o, h, hx.1⟩, fun h e => ⟨Heap.lt_size e, Heap.lt_size e⟩, fun h h' e hk => hk d (.inl rfl) o e, by decide, by decide, fun _ _ s _ h hq => PySem.W.kdl_hint_dict ⟨o, h, hx.1⟩ hq, fun A s hh e => ?_⟩
  have hne : d ≠ s.heap.objs.size := Nat.ne_of_lt (Heap.lt_size e)
  refine ⟨_, fun i h => h.IsKeyIter s.heap.objs.size d i es.size ep ∧ h.get? d = some o, fun E Q hq => iter_keys lo e hx hdt hq, ?_, ⟨⟨_, Heap.get?_push_size _ rfl, rfl, rfl⟩, Heap.get?_push_of_some _ e⟩⟩
  refine ⟨fun b hb => by simp at hb; simp [hb], fun i h h' st hk => ⟨st.1.at fun o' e' => hk _ (by simp) o' e', hk d (by simp) o st.2⟩, fun i s' Q E hi st hQ => ?_, fun s' Q E st hQ => ?_, fun i s' Q E st hQ => wpAny_pyIter_keyiter st.1 hQ⟩
  · have hen : es[i]? = some es[i] := by simp [hi]
    refine next_key_item st.1 st.2 hdt rfl hen fun h' st' sb => ?_
    exact hQ _ h' s'.toks ⟨_, hen, rfl⟩ ⟨st', (sb.2 d hne).trans st.2⟩ fun b o' hb e' => (sb.2 b (by simpa using hb)).trans e'
  · exact next_key_end hh st.1 st.2 hdt rfl (Nat.le_refl _) fun h' eb => hQ h' s'.toks fun b o' hb e' => eb b o' (by simpa using hb) e'
theorem each_refs {R : Value → Addr × List Key → Prop} : ∀ qs : List (Addr × List Key), (∀ e ∈ qs, R (.ref e.1) e) → PySem.W.EachIs R (qs.map fun e => Value.ref e.1) qs
  | [], _ => .nil
  | e :: qs, h => .cons (h e (by simp)) (each_refs qs fun y m => h y (by simp [m]))
theorem refs_each : ∀ {us : List Value} {qs : List (Addr × List Key)}, PySem.W.EachIs (fun u e => u = Value.ref e.1) us qs → Paired RelV (qs.map fun e => V.ref e.1) us
  | _, _, .nil => .nil
  | _, _, .cons r rr => .cons r (refs_each rr)
def rSortedT : List V → Hp → VK → Prop := fun vs H Q => ∃ (a : Addr) (kvs : List (List Key × V)), vs = [V.ref a] ∧ H a = some (.dT kvs) ∧
  (∀ k ∈ kvs.map (·.1), ∃ i j : Int, k = [Sum.inl i, Sum.inl j]) ∧
  ∀ (qs : List (Addr × List Key)) (p : Addr), qs.map (·.2) = kvs.map (·.1) → (∀ e ∈ qs, H e.1 = some (.tup (e.2.map kV))) → H p = none →
    Q (.ref p) (upd H p (.lst ((qs.mergeSort (PySem.W.dataLe false keyD)).map fun e => V.ref e.1)))
section
variable {X : Cx}
theorem cr_sortedT (hcalm : X.calm = true) (hu : X.A.units + 64 < cLine) : CallR X (.builtin "sorted") rSortedT := by
  intro pins s σ H vs us Q I r h
  obtain ⟨a, kvs, rfl, hd, hk2, q⟩ := h
  obtain ⟨u, rfl, ru⟩ := vals1 r
  obtain rfl : u = Value.ref a := ru
  obtain ⟨z, lo, xs, pr, o, es, ep, ho, hx, hdt, he, _⟩ := I.hok a _ hd
  have l1 : kvs.length = xs.length := Paired.length pr
  have l2 : es.size = xs.length := size_of_entries he
  have eq : (xs.map fun x => (x.2.1, x.1)).map (·.2) = kvs.map (·.1) := by
    rw [List.map_map]
    refine List.ext_getElem? fun i => ?_
    rw [List.getElem?_map, List.getElem?_map]
    cases e : kvs[i]? with
    | none => rw [List.getElem?_eq_none (by have := List.getElem?_eq_none_iff.mp e; omega)]; rfl
    | some p =>
      obtain ⟨b, hb, e1, _, _⟩ := paired_get pr e
      rw [hb]
      exact congrArg some e1.symm
  have hq : ∀ e ∈ xs.map fun x => (x.2.1, x.1), H e.1 = some (.tup (e.2.map kV)) := fun e m => by
    obtain ⟨x, mx, rfl⟩ := List.mem_map.mp m
    obtain ⟨i, hi⟩ := List.mem_iff_getElem?.mp mx
    have li : i < kvs.length := by have := (List.getElem?_eq_some_iff.mp hi).1; omega
    obtain ⟨b, hb, e1, e2, _⟩ := paired_get pr (List.getElem?_eq_getElem li)
    rw [hi] at hb
    cases hb
    rw [e1] at e2
    exact e2
  generalize hqs : (xs.map fun x => (x.2.1, x.1)) = qs at eq hq
  have lq : qs.length = es.size := by rw [← hqs, List.length_map, l2]
  refine Calls.call_function_entry kind_sorted plain_sorted entry_sorted (args_sorted1 _) ?_
  unfold Builtin.«sorted»
  refine wpAny_bind (m := checkCount "sorted" 1 1 _) (wpAny_pure ?_)
  refine wpAny_bind (PySem.W.kdu_collect (A := X.A.in1) (src_raw lo hx hdt) (I.ok.hd hcalm) ho (by omega) fun h' tk acc hk hacc => ?_)
  have eacc : acc.toList = qs.map fun e => Value.ref e.1 := by
    have la : acc.toList.length = qs.length := by rw [Array.length_toList, hacc.1, lq]
    refine List.ext_getElem? fun i => ?_
    rw [List.getElem?_map]
    by_cases hi : i < qs.length
    · have ha : acc[i]? = some (acc[i]'(by rw [← Array.length_toList, la]; exact hi)) := by simp
      obtain ⟨en, hen, ev⟩ := hacc.2 i _ ha
      obtain ⟨x0, hx2⟩ : ∃ x, xs[i]? = some x := ⟨_, List.getElem?_eq_getElem (by omega)⟩
      have q1 := entry_at he i
      rw [hx2, hen] at q1
      have q2 : qs[i]? = some (x0.2.1, x0.1) := by rw [← hqs, List.getElem?_map, hx2]; rfl
      rw [Array.getElem?_toList, ha, q2, ev, Option.some.inj q1]
      rfl
    · rw [List.getElem?_eq_none (by omega), List.getElem?_eq_none (by omega)]
      rfl
  have I1 : Inv X pins σ H { s with heap := h', toks := tk } := I.kept hk
  have hz : acc.toList.length ≤ sizeLine := by rw [eacc, List.length_map]; omega
  refine wpAny_bind (wpAny_newList ?_ hz)
  have hoL : (h'.push (seqObj "list" acc.toList.toArray 0)).get? h'.objs.size = some (seqObj "list" acc.toList.toArray 0) := Heap.get?_push_size _ rfl
  have rd : ∀ e ∈ qs, ∃ as, Reads h' (.ref e.1) (keyD e) as := fun e m => by
    refine Dp.reads I1 (keyD e) (.ref e.1) (.ref e.1) ?_ rfl
    refine .tup (SqT.of (hq e m)) ?_
    have : ∀ ks : List Key, DpAll X.K H (ks.map kV) (ks.map kD) := fun ks => by
      induction ks with
      | nil => exact .nil
      | cons k ks ih =>
        cases k with
        | inl i => exact .cons (.int i) ih
        | inr t => exact .cons (.str t) ih
    exact this e.2
  have two : ∀ e ∈ qs, ∃ i j : Int, e.2 = [Sum.inl i, Sum.inl j] := fun e m => hk2 _ (by rw [← eq]; exact List.mem_map.mpr ⟨e, m, rfl⟩)
  have hal : PySem.W.AllAlike (qs.map keyD) := fun x m y m' => by
    obtain ⟨e, me, rfl⟩ := List.mem_map.mp m
    obtain ⟨e', me', rfl⟩ := List.mem_map.mp m'
    obtain ⟨i, j, g⟩ := two e me
    obtain ⟨i', j', g'⟩ := two e' me'
    unfold keyD
    rw [g, g']
    simp [kD, PySem.W.alike, PySem.W.alikeAll]
  have hso : PySem.W.Sortable (qs.map keyD) := .inl fun x m => by
    obtain ⟨e, me, rfl⟩ := List.mem_map.mp m
    obtain ⟨i, j, g⟩ := two e me
    unfold keyD
    rw [g]
    exact ⟨_, _, rfl⟩
  have dep : ∀ d ∈ qs.map keyD, X.A.in1.in1.units + d.depth < cLine := fun x m => by
    obtain ⟨e, me, rfl⟩ := List.mem_map.mp m
    obtain ⟨i, j, g⟩ := two e me
    have hd2 : (keyD e).depth = 1 := by unfold keyD; rw [g]; simp [kD, PyData.depth, PyData.depthAll]
    rw [hd2]
    show X.A.units + 1 + 1 + 1 < cLine
    omega
  have old : ∀ b ob, h'.get? b = some ob → (PySem.W.sortingHeap (h'.push (seqObj "list" acc.toList.toArray 0)) h'.objs.size acc.toList).get? b = some ob := fun b ob e =>
    PySem.W.sortingHeap_old (Nat.ne_of_lt (Heap.lt_size e)) (Heap.get?_push_of_some _ e)
  have er : PySem.W.EachIs (fun v e => ∃ as, Reads (PySem.W.sortingHeap (h'.push (seqObj "list" acc.toList.toArray 0)) h'.objs.size acc.toList) v (keyD e) as) acc.toList qs := by
    have := each_refs (R := fun v e => ∃ as, Reads (PySem.W.sortingHeap (h'.push (seqObj "list" acc.toList.toArray 0)) h'.objs.size acc.toList) v (keyD e) as) qs fun e m => by
      obtain ⟨as, r⟩ := rd e m
      exact ⟨as, PyProof.Rows.Reads.keeps old r⟩
    rw [← eacc] at this
    exact this
  have eR : PySem.W.EachIs (fun (u : Value) (e : Addr × List Key) => u = Value.ref e.1) acc.toList qs := by
    have := each_refs (R := fun u e => u = Value.ref e.1) qs fun e m => rfl
    rw [← eacc] at this
    exact this
  refine wpAny_bind (wpAny_holding (wpAny_call_entry slot_list_sort ⟨_, hoL, rfl⟩ entry_list_sort
    (PySem.W.list_sort_vals (s := { s with heap := h'.push (seqObj "list" acc.toList.toArray 0), toks := tk }) hoL
      (PySem.W.SortsAt.data (PySem.W.each_map (R := fun v d => ∃ as, Reads (PySem.W.sortingHeap (h'.push (seqObj "list" acc.toList.toArray 0)) h'.objs.size acc.toList) v d as) keyD er) hal hso dep) hz ⟨_, rfl, ?_⟩)
    (args_list_sort _)))
  have eo := PySem.W.sortVals_data false eR er hal
  obtain ⟨n, hn⟩ := sortedHeap_at (vs := acc.toList) (out := (PySem.W.sortVals (PySem.W.dataKind (PySem.W.sortingHeap (h'.push (seqObj "list" acc.toList.toArray 0)) h'.objs.size acc.toList) (qs.map keyD)) false acc.toList acc.toList).toArray) hoL
  refine wpAny_pure ⟨_, rfl, .ref h'.objs.size, _, I1.laid (a := h'.objs.size) (o := .lst ((qs.mergeSort (PySem.W.dataLe false keyD)).map fun e => V.ref e.1)) (t' := tk) (fun b ob e => ?_) (Nat.le_refl _) ⟨?_, _, n, refs_each eo, hn⟩, rfl, q qs _ eq hq (I1.hok.fresh (Nat.le_refl _))⟩
  · have hb : b < h'.objs.size := Heap.lt_size e
    rw [sortedHeap_old (Nat.ne_of_lt hb) (by rw [size_push']; exact Nat.lt_succ_of_lt hb)]
    exact Heap.get?_push_of_some _ e
  · rw [List.length_map, List.length_mergeSort]
    omega
end
end L2
/-! x >= y of data of one shape -/
namespace L2
open PySem PySem.Spec PyProof.Rows
section
variable {X : Cx}
theorem op_geD (hu : X.A.units + 64 < cLine) : OpR X (compareOp .GtE) (fun x y H Q => ∃ d e, Dp X.K H x d ∧ Dp X.K H y e ∧
    PySem.W.alike d e = true ∧ d ≠ .none ∧ d.depth ≤ 40 ∧ Q (.bl (!PySem.W.dataLt d e)) H) := by
  intro pins s σ H x y v u Q I rx ry h
  obtain ⟨d, e, hd, he, al, nn, dp, q⟩ := h
  obtain ⟨as, r1⟩ := Dp.reads I d x v hd rx
  obtain ⟨bs, r2⟩ := Dp.reads I e y u he ry
  refine PySem.W.rcGe_alike d e X.A s v u as bs r1 r2 al nn (by omega) _ _ _ _ ?_
  exact ⟨.bl _, H, I, rfl, q⟩
end
end L2
namespace PP
open PySem L2
def top (i : Nat) : Stmt := (PySem.Challenge.pw_paritypool_k25_schedule).main.body.getD i (.Pass ⟨0, 0, 0, 0⟩)
abbrev s_schedule : Stmt := top 1
abbrev s_ordered_writes : Stmt := top 2
abbrev s_law_pot : Stmt := top 4
abbrev s_law_next : Stmt := top 5
abbrev s_law_states : Stmt := top 6
abbrev s_law_in_order : Stmt := top 7
abbrev s_law : Stmt := top 8
/-! small rules of one's own -/
section
variable {X : Cx}
theorem pe_const {x : Str} {v : V} {pos : Pos} (h : ∃ u, X.mg x = some u ∧ RelV v u) (hg : Gl X x := by rfl) (hd : (x == ("__debug__" : Str)) = false := by decide) : PE X (.Name x pos) (tC v) := by
  obtain ⟨u, h1, h2⟩ := h
  exact pe_glob hg h1 h2 hd
/-- isinstance of a caught error, whatever class the clause has caught -/
theorem call_isE' {a : Addr} {cls : Value} {d : Option Addr} {oe : Obj} {pn : List (Addr × Obj)} (hz : Zc cls d oe) (hf : ∃ vs, oe.data = .fields vs) :
    CallR (X.suite a ((a, oe) :: pn)) (.builtin "isinstance") (fun xs H Q => ∃ D, cls = .ref D ∧ d = none ∧ ExcC X.K D ∧ rIsE X.K D a xs H Q) := by
  intro pins s σ H xs us Q I r h
  obtain ⟨D, rfl, rfl, C, h⟩ := h
  exact call_isE C hz hf pins s σ H xs us Q I r h
end
/-- all but p is as it was, what is free too -/
def Only (p : Addr) (H H' : Hp) : Prop := ∀ b, b ≠ p → H' b = H b
theorem Only.upd {p : Addr} {H : Hp} {o : HO} : Only p H (upd H p o) := fun _ h => upd_ne h
theorem Only.refl {p : Addr} {H : Hp} : Only p H H := fun _ _ => rfl
theorem Only.trans {p : Addr} {H H1 H2 : Hp} (x : Only p H H1) (y : Only p H1 H2) : Only p H H2 := fun b h => (y b h).trans (x b h)
/-! which class is asked of a caught error -/
theorem kit_self {K : PySem.W.Frag} {c : Value} : PySem.W.kitOne K c c = some true := by
  unfold PySem.W.kitOne
  rw [if_pos (by simp)]
theorem kit_type {K : PySem.W.Frag} {D : Addr} {n : String} {b : Bool} (m : PySem.W.kitMeta n = true) (h : PySem.W.subIn K (.ref D) (.type n) = some b) : PySem.W.kitOne K (.ref D) (.type n) = some b := by
  unfold PySem.W.kitOne
  rw [if_neg (by intro z; cases (beq_iff_eq.mp z))]
  show (if PySem.W.kitMeta n = true then PySem.W.subIn K (.ref D) (.type n) else none) = some b
  rw [if_pos m]
  exact h
theorem kit_cls_of {K : PySem.W.Frag} {C : Addr} {t : Value} {b : Bool} (hd : PySem.W.hasDictIn K C = true) (ht : PySem.W.typeIn K (.ref C) = some (.type "type")) (h : PySem.W.subIn K t (.ref C) = some b) : PySem.W.kitCls K t (.ref C) = some b := by
  obtain ⟨cd, hc, _⟩ := PySem.W.any_some hd
  show (if ((PySem.W.clsIn K C).isSome && PySem.W.typeIn K (.ref C) == some (.type "type")) = true then PySem.W.subIn K t (.ref C) else none) = some b
  rw [if_pos (by rw [hc, ht]; rfl)]
  exact h
theorem kit_yes {K : PySem.W.Frag} {C D : Addr} (hd : PySem.W.hasDictIn K C = true) (ht : PySem.W.typeIn K (.ref C) = some (.type "type")) (h : PySem.W.subIn K (.ref D) (.ref C) = some true) : PySem.W.kitOne K (.ref D) (.ref C) = some true := by
  unfold PySem.W.kitOne
  split
  · rfl
  · exact kit_cls_of hd ht h
theorem kit_no {K : PySem.W.Frag} {C D : Addr} (hd : PySem.W.hasDictIn K C = true) (ht : PySem.W.typeIn K (.ref C) = some (.type "type")) (h : PySem.W.subIn K (.ref D) (.ref C) = some false) (hs : PySem.W.subIn K (.ref D) (.ref D) = some true) : PySem.W.kitOne K (.ref D) (.ref C) = some false := by
  unfold PySem.W.kitOne
  split
  · rename_i z
    have e : D = C := by
      have := beq_iff_eq.mp z
      injection this
    rw [← e] at h
    rw [h] at hs
    cases hs
  · exact kit_cls_of hd ht h
/-- len of a list or tuple; list of one -/
abbrev rLenS (K : PySem.W.Frag) := Evl.rLenS K
abbrev rListOf (K : PySem.W.Frag) := Evl.rListS K
/-! the prime, the inverse -/
theorem no_div (d : Nat) (h1 : 2 ≤ d) (h2 : d ≤ 255) : ¬ d ∣ 65521 := by
  intro h
  have e : 65521 % d = 0 := Nat.mod_eq_zero_of_dvd h
  have key : ∀ d : Fin 256, 2 ≤ d.val → ¬ 65521 % d.val = 0 := by decide +kernel
  exact key ⟨d, by omega⟩ h1 e
theorem prime_q (d : Nat) (h : d ∣ 65521) : d = 1 ∨ d = 65521 := by
  obtain ⟨e, he⟩ := h
  by_cases a : d ≤ 255
  · by_cases b : 2 ≤ d
    · exact absurd ⟨e, he⟩ (no_div d b a)
    · have : d ≠ 0 := by rintro rfl; omega
      omega
  · by_cases b : 2 ≤ e
    · by_cases c : e ≤ 255
      · exact absurd ⟨d, by rw [Nat.mul_comm]; exact he⟩ (no_div e b c)
      · have h1 : 256 * 256 ≤ d * e := Nat.mul_le_mul (by omega) (by omega)
        omega
    · have : e ≠ 0 := by rintro rfl; omega
      have e1 : e = 1 := by omega
      subst e1
      omega
theorem gcd_q (x : Int) (h : x % 65521 ≠ 0) : Int.gcd 65521 (x % 65521) = 1 := by
  have d1 : (Int.gcd 65521 (x % 65521) : Nat) ∣ 65521 := by
    have := Int.gcd_dvd_left (65521 : Int) (x % 65521)
    have h2 : ((Int.gcd 65521 (x % 65521) : Nat) : Int) ∣ ((65521 : Nat) : Int) := this
    exact Int.natCast_dvd_natCast.mp h2
  rcases prime_q _ d1 with e | e
  · exact e
  · exfalso
    have d2 := Int.gcd_dvd_right (65521 : Int) (x % 65521)
    rw [e] at d2
    obtain ⟨c, hc⟩ := d2
    have e2 : ((65521 : Nat) : Int) = 65521 := rfl
    rw [e2] at hc
    have p1 := Int.emod_nonneg x (show (65521 : Int) ≠ 0 by decide)
    have p2 := Int.emod_lt_of_pos x (show (0 : Int) < 65521 by decide)
    omega
theorem gcd_turn {n m : Int} (h : Int.gcd n m = 1) : Int.gcd m (n - n / m * m) = 1 := by
  rw [Int.gcd_sub_mul_right_right, Int.gcd_comm]
  exact h
/-- the inverse of a word, by what it is -/
noncomputable def invP (x : Int) : Int := open Classical in if h : ∃ b : Int, 0 ≤ b ∧ b < 65521 ∧ x * b % 65521 = 1 then h.choose else 0
theorem inv_unique {x b c : Int} (hb : 0 ≤ b ∧ b < 65521 ∧ x * b % 65521 = 1) (hc : 0 ≤ c ∧ c < 65521 ∧ x * c % 65521 = 1) : b = c := by
  have e1 : b * (x * c) % 65521 = b := by
    rw [Int.mul_emod, hc.2.2, Int.mul_one, Int.emod_emod_of_dvd _ (Int.dvd_refl _), Int.emod_eq_of_lt hb.1 hb.2.1]
  have e2 : c * (x * b) % 65521 = c := by
    rw [Int.mul_emod, hb.2.2, Int.mul_one, Int.emod_emod_of_dvd _ (Int.dvd_refl _), Int.emod_eq_of_lt hc.1 hc.2.1]
  have e3 : b * (x * c) = c * (x * b) := by grind
  rw [← e1, e3, e2]
theorem invP_eq {x b : Int} (h : 0 ≤ b ∧ b < 65521 ∧ x * b % 65521 = 1) : invP x = b := by
  have hx : ∃ b : Int, 0 ≤ b ∧ b < 65521 ∧ x * b % 65521 = 1 := ⟨b, h⟩
  unfold invP
  rw [dif_pos hx]
  exact inv_unique hx.choose_spec h
/-- one turn of Euclid's algorithm -/
theorem euclid_turn {x n m f g : Int} (h1 : (x * f - n) % 65521 = 0) (h2 : (x * g - m) % 65521 = 0) : (x * (f - n / m * g) - (n - n / m * m)) % 65521 = 0 := by
  have e : x * (f - n / m * g) - (n - n / m * m) = (x * f - n) - n / m * (x * g - m) := by grind
  rw [e, Int.sub_emod, h1, Int.mul_emod, h2, Int.mul_zero]
  rfl
theorem euclid_end {x f : Int} (h : (x * f - 1) % 65521 = 0) : 0 ≤ f % 65521 ∧ f % 65521 < 65521 ∧ x * (f % 65521) % 65521 = 1 := by
  refine ⟨Int.emod_nonneg _ (by decide), Int.emod_lt_of_pos _ (by decide), ?_⟩
  have e : x * (f % 65521) % 65521 = x * f % 65521 := by rw [Int.mul_emod, Int.emod_emod_of_dvd _ (Int.dvd_refl _), ← Int.mul_emod]
  rw [e]
  omega
/-- the inverse exists (Euclid, run in the mathematics) -/
theorem inv_ex : ∀ (k : Nat) (x n m f g : Int), m.toNat ≤ k → 0 ≤ m → 0 < n → (x * f - n) % 65521 = 0 → (x * g - m) % 65521 = 0 → Int.gcd n m = 1 → ∃ b : Int, 0 ≤ b ∧ b < 65521 ∧ x * b % 65521 = 1
  | k, x, n, m, f, g, hk, hm, hn, h1, h2, hg => by
    by_cases e : m = 0
    · subst e
      have : n = 1 := by
        rw [Int.gcd_zero_right] at hg
        omega
      subst this
      exact ⟨_, euclid_end h1⟩
    · have hm' : 0 < m := by omega
      match k, hk with
      | 0, hk => omega
      | k + 1, hk =>
        have r : n - n / m * m = n % m := by
          have := Int.mul_ediv_add_emod n m
          rw [Int.mul_comm] at this
          omega
        have r1 := Int.emod_nonneg n (show m ≠ 0 by omega)
        have r2 := Int.emod_lt_of_pos n hm'
        exact inv_ex k x m (n - n / m * m) g (f - n / m * g) (by omega) (by omega) hm' h2 (euclid_turn h1 h2) (gcd_turn hg)
theorem invP_spec {x : Int} (h : x % 65521 ≠ 0) : 0 ≤ invP x ∧ invP x < 65521 ∧ x * invP x % 65521 = 1 := by
  have p1 := Int.emod_nonneg x (show (65521 : Int) ≠ 0 by decide)
  obtain ⟨b, hb⟩ := inv_ex (x % 65521).toNat x 65521 (x % 65521) 0 1 (Nat.le_refl _) p1 (by decide) (by omega) (by omega) (gcd_q x h)
  rw [invP_eq hb]
  exact hb
/-! the field of words -/
def Zp : Type := Fin 65521
instance : Lean.Grind.CommRing Zp := inferInstanceAs (Lean.Grind.CommRing (Fin 65521))
instance : Lean.Grind.IsCharP Zp 65521 := inferInstanceAs (Lean.Grind.IsCharP (Fin 65521) 65521)
instance : DecidableEq Zp := inferInstanceAs (DecidableEq (Fin 65521))
def z (n : Int) : Zp := Lean.Grind.Ring.intCast.intCast n
theorem z_eq {a b : Int} : z a = z b ↔ a % 65521 = b % 65521 := Lean.Grind.IsCharP.intCast_ext_iff (α := Zp) 65521
theorem z_mod (a : Int) : z (a % 65521) = z a := z_eq.mpr (Int.emod_emod_of_dvd _ (Int.dvd_refl _))
theorem z_add (a b : Int) : z (a + b) = z a + z b := Lean.Grind.Ring.intCast_add a b
theorem z_sub (a b : Int) : z (a - b) = z a - z b := Lean.Grind.Ring.intCast_sub a b
theorem z_mul (a b : Int) : z (a * b) = z a * z b := Lean.Grind.Ring.intCast_mul a b
theorem z_neg (a : Int) : z (-a) = -z a := Lean.Grind.Ring.intCast_neg a
theorem z_zero : z 0 = 0 := Lean.Grind.Ring.intCast_zero
theorem z_one : z 1 = 1 := Lean.Grind.Ring.intCast_one
theorem z_z (a : Int) : z a = 0 ↔ a % 65521 = 0 := by
  rw [← z_zero, z_eq]
  rfl
theorem z_inj {a b : Int} (ha : 0 ≤ a) (ha' : a < 65521) (hb : 0 ≤ b) (hb' : b < 65521) (h : z a = z b) : a = b := by
  have := z_eq.mp h
  rw [Int.emod_eq_of_lt ha ha', Int.emod_eq_of_lt hb hb'] at this
  exact this
theorem z_mod_eq {a b : Int} (h : z a = z b) : a % 65521 = b % 65521 := z_eq.mp h
theorem z_surj (x : Zp) : ∃ n : Int, 0 ≤ n ∧ n < 65521 ∧ z n = x := by
  refine ⟨((show Fin 65521 from x).val : Int), by omega, by omega, ?_⟩
  show (Fin.intCast ((show Fin 65521 from x).val : Int) : Fin 65521) = x
  unfold Fin.intCast
  rw [if_pos (by omega), Int.natAbs_natCast]
  exact Fin.ofNat_val_eq_self _
theorem z_invP {n : Int} (h : z n ≠ 0) : z n * z (invP n) = 1 := by
  have h' : n % 65521 ≠ 0 := fun e => h ((z_z n).mpr e)
  obtain ⟨b0, b1, b2⟩ := invP_spec h'
  rw [← z_mul, ← z_one, z_eq]
  exact b2
theorem zp_inv {a : Zp} (h : a ≠ 0) : ∃ b : Zp, a * b = 1 := by
  obtain ⟨n, _, _, rfl⟩ := z_surj a
  exact ⟨_, z_invP h⟩
theorem zp_div {a b : Zp} (h : a * b = 0) : a = 0 ∨ b = 0 := by
  by_cases ha : a = 0
  · exact .inl ha
  · obtain ⟨c, hc⟩ := zp_inv ha
    right
    have : b = c * (a * b) := by grind
    rw [this, h]
    grind
theorem zp_01 : (1 : Zp) ≠ 0 := by
  rw [← z_one, ← z_zero]
  intro h
  have := z_eq.mp h
  omega
theorem zp_mul_ne {a b : Zp} (ha : a ≠ 0) (hb : b ≠ 0) : a * b ≠ 0 := fun h => (zp_div h).elim ha hb
/-! ### functions that are polynomials with n coefficients -/
def Pol : Nat → (Zp → Zp) → Prop
  | 0, f => ∀ x, f x = 0
  | n + 1, f => ∃ (c : Zp) (g : Zp → Zp), Pol n g ∧ ∀ x, f x = c + x * g x
theorem Pol.ext : ∀ {n : Nat} {f g : Zp → Zp}, Pol n f → (∀ x, g x = f x) → Pol n g
  | 0, _, _, h, e => fun x => (e x).trans (h x)
  | _ + 1, _, _, ⟨c, g, h, q⟩, e => ⟨c, g, h, fun x => (e x).trans (q x)⟩
theorem pol_nil : ∀ n : Nat, Pol n fun _ => 0
  | 0 => fun _ => rfl
  | n + 1 => ⟨0, fun _ => 0, pol_nil n, fun x => by grind⟩
theorem Pol.up : ∀ {n : Nat} {f : Zp → Zp}, Pol n f → Pol (n + 1) f
  | 0, f, h => ⟨0, fun _ => 0, fun _ => rfl, fun x => by rw [h x]; grind⟩
  | n + 1, _, ⟨c, g, h, q⟩ => ⟨c, g, h.up, q⟩
theorem Pol.mono {n m : Nat} {f : Zp → Zp} (h : Pol n f) (l : n ≤ m) : Pol m f := by
  induction l with
  | refl => exact h
  | step _ ih => exact ih.up
theorem Pol.add : ∀ {n : Nat} {f g : Zp → Zp}, Pol n f → Pol n g → Pol n fun x => f x + g x
  | 0, f, g, h, k => fun x => by show f x + g x = 0; rw [h x, k x]; grind
  | n + 1, f, g, ⟨c, u, h, p⟩, ⟨d, v, k, q⟩ => ⟨c + d, fun x => u x + v x, Pol.add h k, fun x => by show f x + g x = _; rw [p x, q x]; grind⟩
theorem Pol.smul : ∀ {n : Nat} {f : Zp → Zp} (a : Zp), Pol n f → Pol n fun x => f x * a
  | 0, f, a, h => fun x => by show f x * a = 0; rw [h x]; grind
  | n + 1, f, a, ⟨c, u, h, p⟩ => ⟨c * a, fun x => u x * a, Pol.smul a h, fun x => by show f x * a = _; rw [p x]; grind⟩
theorem Pol.const (c : Zp) : Pol 1 fun _ => c := ⟨c, fun _ => 0, fun _ => rfl, fun x => by grind⟩
theorem Pol.xmul {n : Nat} {f : Zp → Zp} (h : Pol n f) : Pol (n + 1) fun x => x * f x := ⟨0, f, h, fun x => by grind⟩
theorem Pol.lin {n : Nat} {f : Zp → Zp} (a : Zp) (h : Pol n f) : Pol (n + 1) fun x => (x - a) * f x :=
  (h.xmul.add (h.up.smul (-a))).ext fun x => by grind
theorem Pol.sub {n : Nat} {f g : Zp → Zp} (h : Pol n f) (k : Pol n g) : Pol n fun x => f x - g x :=
  (h.add (k.smul (-1))).ext fun x => by grind
/-- a polynomial less its value at a is a multiple of x - a -/
theorem Pol.at : ∀ {n : Nat} {f : Zp → Zp} (a : Zp), Pol (n + 1) f → ∃ g, Pol n g ∧ ∀ x, f x = f a + (x - a) * g x
  | 0, f, a, ⟨c, g, h, q⟩ => ⟨fun _ => 0, fun _ => rfl, fun x => by rw [q x, q a, h x, h a]; grind⟩
  | n + 1, f, a, ⟨c, g, h, q⟩ => by
    obtain ⟨k, hk, e⟩ := Pol.at a h
    refine ⟨fun x => g a + x * k x, ⟨g a, k, hk, fun _ => rfl⟩, fun x => ?_⟩
    have e1 := e x
    rw [q x, q a]
    grind
/-- as many zeros as coefficients: it is zero -/
theorem Pol.roots : ∀ {n : Nat} {f : Zp → Zp} (xs : List Zp), Pol n f → xs.Nodup → n ≤ xs.length → (∀ a ∈ xs, f a = 0) → ∀ x, f x = 0
  | 0, _, _, h, _, _, _ => h
  | n + 1, f, [], _, _, hl, _ => absurd hl (by simp)
  | n + 1, f, a :: r, h, hn, hl, hz => by
    obtain ⟨g, hg, e⟩ := Pol.at a h
    have ha : f a = 0 := hz a (by simp)
    have hn' := List.nodup_cons.mp hn
    have g0 : ∀ x, g x = 0 := Pol.roots r hg hn'.2 (by simpa using hl) fun b hb => by
      have hb0 := hz b (List.mem_cons_of_mem _ hb)
      rw [e b, ha] at hb0
      have : (b - a) * g b = 0 := by grind
      rcases zp_div this with q | q
      · exfalso
        have : b = a := by grind
        exact hn'.1 (this ▸ hb)
      · exact q
    intro x
    rw [e x, ha, g0 x]
    grind
/-! ### products of differences -/
def prodZ : List Int → Zp → Zp
  | [], _ => 1
  | o :: os, x => (x - z o) * prodZ os x
theorem prodZ_pol : ∀ os : List Int, Pol (os.length + 1) (prodZ os)
  | [] => (Pol.const 1).ext fun _ => rfl
  | o :: os => (Pol.lin (z o) (prodZ_pol os)).ext fun _ => rfl
theorem prodZ_root {o : Int} {x : Zp} : ∀ {os : List Int}, o ∈ os → x = z o → prodZ os x = 0
  | [], h, _ => by simp at h
  | p :: os, h, e => by
    show (x - z p) * prodZ os x = 0
    rcases List.mem_cons.mp h with q | q
    · rw [e, q]
      grind
    · rw [prodZ_root q e]
      grind
theorem prodZ_ne {x : Zp} : ∀ {os : List Int}, (∀ o ∈ os, x ≠ z o) → prodZ os x ≠ 0
  | [], _ => zp_01
  | p :: os, h => by
    refine zp_mul_ne (fun e => h p (by simp) ?_) (prodZ_ne fun o ho => h o (List.mem_cons_of_mem _ ho))
    grind
/-- as the program multiplies -/
def prodM (os : List Int) (x acc : Int) : Int := os.foldl (fun acc o => acc * (x - o) % 65521) acc
theorem prodM_z : ∀ (os : List Int) (x acc : Int), z (prodM os x acc) = z acc * prodZ os (z x)
  | [], x, acc => by
    show z acc = z acc * 1
    grind
  | o :: os, x, acc => by
    show z (prodM os x (acc * (x - o) % 65521)) = z acc * ((z x - z o) * prodZ os (z x))
    rw [prodM_z os x, z_mod, z_mul, z_sub]
    grind
theorem prodM_word : ∀ (os : List Int) (x acc : Int), 0 ≤ acc → acc < 65521 → 0 ≤ prodM os x acc ∧ prodM os x acc < 65521
  | [], _, _, h0, h1 => ⟨h0, h1⟩
  | o :: os, x, acc, _, _ => prodM_word os x _ (Int.emod_nonneg _ (by decide)) (Int.emod_lt_of_pos _ (by decide))
theorem prodM_snoc (os : List Int) (o x acc : Int) : prodM (os ++ [o]) x acc = prodM os x acc * (x - o) % 65521 := by
  unfold prodM
  rw [List.foldl_append]
  rfl
/-- a place's factor -/
noncomputable def wgt (p : Int) (os : List Int) (x : Int) : Int := prodM os x 1 * invP (prodM os p 1) % 65521
theorem wgt_word (p : Int) (os : List Int) (x : Int) : 0 ≤ wgt p os x ∧ wgt p os x < 65521 := ⟨Int.emod_nonneg _ (by decide), Int.emod_lt_of_pos _ (by decide)⟩
theorem wgt_z (p : Int) (os : List Int) (x : Int) : z (wgt p os x) = prodZ os (z x) * z (invP (prodM os p 1)) := by
  unfold wgt
  rw [z_mod, z_mul, prodM_z, z_one]
  grind
theorem wgt_ok {p : Int} {os : List Int} (h : ∀ o ∈ os, z p ≠ z o) : prodM os p 1 % 65521 ≠ 0 := fun e => by
  have := (z_z _).mpr e
  rw [prodM_z, z_one] at this
  refine prodZ_ne h ?_
  grind
/-- all places but the i-th -/
def others (ws : List Int) (i : Nat) : List Int := ws.take i ++ ws.drop (i + 1)
noncomputable def weightsM (ws : List Int) (x : Int) : List Int := (List.range ws.length).map fun i => wgt (ws.getD i 0) (others ws i) x
theorem weightsM_length (ws : List Int) (x : Int) : (weightsM ws x).length = ws.length := by simp [weightsM]
theorem weightsM_get {ws : List Int} {x : Int} {i : Nat} (h : i < ws.length) : (weightsM ws x)[i]? = some (wgt (ws.getD i 0) (others ws i) x) := by
  unfold weightsM
  rw [List.getElem?_map, List.getElem?_range h]
  rfl
/-- no two places are equal modulo the prime -/
def Apart (ws : List Int) : Prop := (ws.map z).Nodup
theorem apart_ne {ws : List Int} (h : Apart ws) {i j : Nat} (hi : i < ws.length) (hj : j < ws.length) (n : i ≠ j) : z (ws.getD i 0) ≠ z (ws.getD j 0) := fun e => by
  refine n ((List.getElem_inj (xs := ws.map z) (h₀ := by simpa using hi) (h₁ := by simpa using hj) h).mp ?_)
  rw [List.getElem_map, List.getElem_map]
  simpa [List.getD_eq_getElem?_getD, hi, hj] using e
theorem mem_others {ws : List Int} {i : Nat} {o : Int} : o ∈ others ws i ↔ ∃ j, j < ws.length ∧ j ≠ i ∧ o = ws.getD j 0 := by
  unfold others
  rw [List.mem_append, List.mem_iff_getElem?, List.mem_iff_getElem?]
  constructor
  · rintro (⟨j, h⟩ | ⟨j, h⟩)
    · rw [List.getElem?_take] at h
      by_cases c : j < i
      · rw [if_pos c] at h
        obtain ⟨hl, e⟩ := List.getElem?_eq_some_iff.mp h
        exact ⟨j, hl, by omega, by simp [List.getD_eq_getElem?_getD, hl, e]⟩
      · rw [if_neg c] at h
        cases h
    · rw [List.getElem?_drop] at h
      obtain ⟨hl, e⟩ := List.getElem?_eq_some_iff.mp h
      exact ⟨_, hl, by omega, by simp [List.getD_eq_getElem?_getD, hl, e]⟩
  · rintro ⟨j, hl, n, rfl⟩
    by_cases c : j < i
    · exact .inl ⟨j, by rw [List.getElem?_take, if_pos c, List.getElem?_eq_getElem hl]; simp [List.getD_eq_getElem?_getD, hl]⟩
    · refine .inr ⟨j - (i + 1), ?_⟩
      rw [List.getElem?_drop, show i + 1 + (j - (i + 1)) = j by omega, List.getElem?_eq_getElem hl]
      simp [List.getD_eq_getElem?_getD, hl]
theorem others_length {ws : List Int} {i : Nat} (h : i < ws.length) : (others ws i).length + 1 = ws.length := by
  unfold others
  rw [List.length_append, List.length_take, List.length_drop]
  omega
theorem others_apart {ws : List Int} (h : Apart ws) {i : Nat} (hi : i < ws.length) : ∀ o ∈ others ws i, z (ws.getD i 0) ≠ z o := fun o ho => by
  obtain ⟨j, hl, n, rfl⟩ := mem_others.mp ho
  exact apart_ne h hi hl (Ne.symm n)
/-! ### sums -/
def sumR : Nat → (Nat → Zp) → Zp
  | 0, _ => 0
  | n + 1, g => sumR n g + g n
theorem sumR_ext : ∀ {n : Nat} {f g : Nat → Zp}, (∀ i, i < n → f i = g i) → sumR n f = sumR n g
  | 0, _, _, _ => rfl
  | n + 1, f, g, h => by
    show sumR n f + f n = sumR n g + g n
    rw [sumR_ext fun i hi => h i (by omega), h n (by omega)]
theorem sumR_zero : ∀ {n : Nat} {f : Nat → Zp}, (∀ i, i < n → f i = 0) → sumR n f = 0
  | 0, _, _ => rfl
  | n + 1, f, h => by
    show sumR n f + f n = 0
    rw [sumR_zero fun i hi => h i (by omega), h n (by omega)]
    grind
theorem sumR_one : ∀ {n : Nat} {f : Nat → Zp} {j : Nat}, j < n → (∀ i, i < n → i ≠ j → f i = 0) → sumR n f = f j
  | n + 1, f, j, hj, h => by
    show sumR n f + f n = f j
    by_cases c : j = n
    · subst c
      rw [sumR_zero fun i hi => h i (by omega) (by omega)]
      grind
    · rw [sumR_one (j := j) (by omega) fun i hi n' => h i (by omega) n', h n (by omega) (by omega)]
      grind
theorem sumR_pol {m : Nat} : ∀ {n : Nat} {F : Nat → Zp → Zp}, (∀ i, i < n → Pol m (F i)) → Pol m fun x => sumR n fun i => F i x
  | 0, _, _ => (pol_nil m).ext fun _ => rfl
  | n + 1, F, h => (Pol.add (sumR_pol (n := n) fun i hi => h i (by omega)) (h n (by omega))).ext fun _ => rfl
/-- the sum of factors times values -/
def dotR (us vs : List Int) : Int := ((List.range us.length).map fun i => us.getD i 0 * vs.getD i 0).sum
theorem sum_range_z : ∀ (n : Nat) (f : Nat → Int), z ((List.range n).map f).sum = sumR n fun i => z (f i)
  | 0, _ => z_zero
  | n + 1, f => by
    rw [List.range_succ, List.map_append, List.sum_append, z_add, sum_range_z n f]
    show _ + z ((f n) + 0) = _
    rw [Int.add_zero]
    rfl
theorem dotR_z (us vs : List Int) : z (dotR us vs) = sumR us.length fun i => z (us.getD i 0) * z (vs.getD i 0) := by
  unfold dotR
  rw [sum_range_z]
  exact sumR_ext fun i _ => z_mul _ _
/-- the value at x, as the program reckons it -/
noncomputable def valM (ws ys : List Int) (x : Int) : Int := dotR (weightsM ws x) ys % 65521
theorem valM_word (ws ys : List Int) (x : Int) : 0 ≤ valM ws ys x ∧ valM ws ys x < 65521 := ⟨Int.emod_nonneg _ (by decide), Int.emod_lt_of_pos _ (by decide)⟩
theorem valM_z (ws ys : List Int) (x : Int) : z (valM ws ys x) = sumR ws.length fun i => prodZ (others ws i) (z x) * (z (invP (prodM (others ws i) (ws.getD i 0) 1)) * z (ys.getD i 0)) := by
  unfold valM
  rw [z_mod, dotR_z, weightsM_length]
  refine sumR_ext fun i hi => ?_
  have e : (weightsM ws x).getD i 0 = wgt (ws.getD i 0) (others ws i) x := by rw [List.getD_eq_getElem?_getD, weightsM_get hi]; rfl
  rw [e, wgt_z]
  grind
/-- at a place it is the point's own value -/
theorem valM_node {ws ys : List Int} (h : Apart ws) {x : Int} {j : Nat} (hj : j < ws.length) (e : z x = z (ws.getD j 0)) : z (valM ws ys x) = z (ys.getD j 0) := by
  rw [valM_z, sumR_one hj fun i hi n => ?_]
  · have p := others_apart h hj
    have q := wgt_ok p
    have r : z (prodM (others ws j) (ws.getD j 0) 1) * z (invP (prodM (others ws j) (ws.getD j 0) 1)) = 1 := z_invP fun e => q ((z_z _).mp e)
    rw [prodM_z, z_one] at r
    rw [e]
    grind
  · rw [prodZ_root (mem_others.mpr ⟨j, hj, Ne.symm n, rfl⟩) e]
    grind
/-- the values of a polynomial at the places give its value anywhere -/
theorem valM_pol {ws ys : List Int} (h : Apart ws) {f : Zp → Zp} (hf : Pol ws.length f) (hy : ∀ i, i < ws.length → z (ys.getD i 0) = f (z (ws.getD i 0))) (x : Int) : z (valM ws ys x) = f (z x) := by
  have P : Pol ws.length fun x => (sumR ws.length fun i => prodZ (others ws i) x * (z (invP (prodM (others ws i) (ws.getD i 0) 1)) * z (ys.getD i 0))) - f x := by
    refine Pol.sub (sumR_pol fun i hi => Pol.smul _ ?_) hf
    have := prodZ_pol (others ws i)
    rw [others_length hi] at this
    exact this
  have R := Pol.roots (ws.map z) P h (by simp) (fun a ha => ?_) (z x)
  · rw [valM_z]
    have R' : (sumR ws.length fun i => prodZ (others ws i) (z x) * (z (invP (prodM (others ws i) (ws.getD i 0) 1)) * z (ys.getD i 0))) - f (z x) = 0 := R
    grind
  · obtain ⟨p, hp, rfl⟩ := List.mem_map.mp ha
    obtain ⟨j, hj⟩ := List.mem_iff_getElem?.mp hp
    obtain ⟨hl, e⟩ := List.getElem?_eq_some_iff.mp hj
    have ep : ws.getD j 0 = p := by simp [List.getD_eq_getElem?_getD, hl, e]
    have v := valM_node (ys := ys) h (x := p) hl (by rw [ep])
    rw [valM_z, hy j hl, ep] at v
    show (sumR ws.length fun i => prodZ (others ws i) (z p) * (z (invP (prodM (others ws i) (ws.getD i 0) 1)) * z (ys.getD i 0))) - f (z p) = 0
    rw [v]
    grind
theorem z_small {n : Int} (h0 : 0 < n) (h1 : n < 65521) : z n ≠ 0 := fun e => by
  have := (z_z n).mp e
  omega
/-! a polynomial's value -/
def pev : List Int → Zp → Zp
  | [], _ => 0
  | c :: r, x => z c + x * pev r x
theorem pev_pol : ∀ ns : List Int, Pol ns.length (pev ns)
  | [] => fun _ => rfl
  | c :: r => ⟨z c, pev r, pev_pol r, fun _ => rfl⟩
/-- as it is reckoned: from the highest coefficient down -/
def horn : List Int → Int → Int
  | [], _ => 0
  | c :: r, x => (horn r x * x + c) % 65521
theorem horn_z : ∀ (ns : List Int) (x : Int), z (horn ns x) = pev ns (z x)
  | [], _ => z_zero
  | c :: r, x => by
    show z ((horn r x * x + c) % 65521) = z c + z x * pev r (z x)
    rw [z_mod, z_add, z_mul, horn_z r x]
    grind
theorem horn_word : ∀ (ns : List Int) (x : Int), 0 ≤ horn ns x ∧ horn ns x < 65521
  | [], _ => by show (0 : Int) ≤ 0 ∧ (0 : Int) < 65521; omega
  | _ :: _, _ => ⟨Int.emod_nonneg _ (by decide), Int.emod_lt_of_pos _ (by decide)⟩
theorem horn_drop {ns : List Int} {x c : Int} {i : Nat} (h : ns[i]? = some c) : horn (ns.drop i) x = (horn (ns.drop (i + 1)) x * x + c) % 65521 := by
  obtain ⟨hl, e⟩ := List.getElem?_eq_some_iff.mp h
  rw [List.drop_eq_getElem_cons hl, e]
  rfl
/-! polynomials by their values: degree, normal forms -/
def Wd (w : Int) : Prop := 0 ≤ w ∧ w < 65521
/-- a list of words whose last one is not 0 -/
def Norm (r : List Int) : Prop := (∀ w ∈ r, Wd w) ∧ (r = [] ∨ r.getD (r.length - 1) 0 ≠ 0)
def pw (x : Zp) : Nat → Zp
  | 0 => 1
  | n + 1 => x * pw x n
theorem pev_append : ∀ (a b : List Int) (x : Zp), pev (a ++ b) x = pev a x + pw x a.length * pev b x
  | [], b, x => by
    show pev b x = 0 + 1 * pev b x
    grind
  | c :: a, b, x => by
    show z c + x * pev (a ++ b) x = (z c + x * pev a x) + (x * pw x a.length) * pev b x
    rw [pev_append a b x]
    grind
theorem pev_zeros : ∀ {a : List Int}, (∀ w ∈ a, z w = 0) → ∀ x, pev a x = 0
  | [], _, _ => rfl
  | c :: a, h, x => by
    show z c + x * pev a x = 0
    rw [h c (by simp), pev_zeros (fun w m => h w (List.mem_cons_of_mem _ m))]
    grind
theorem pev_mod : ∀ (a : List Int) (x : Zp), pev (a.map (· % 65521)) x = pev a x
  | [], _ => rfl
  | c :: a, x => by
    show z (c % 65521) + x * pev (a.map (· % 65521)) x = z c + x * pev a x
    rw [z_mod, pev_mod a x]
/-- one place of the list gets another number -/
theorem pev_set : ∀ {a : List Int} {i : Nat} {c d : Int} (x : Zp), a[i]? = some c → pev (a.set i d) x = pev a x + pw x i * (z d - z c)
  | [], _, _, _, _, h => by simp at h
  | b :: a, 0, c, d, x, h => by
    have e : b = c := Option.some.inj h
    subst e
    show z d + x * pev a x = (z b + x * pev a x) + 1 * (z d - z b)
    grind
  | b :: a, i + 1, c, d, x, h => by
    show z b + x * pev (a.set i d) x = (z b + x * pev a x) + (x * pw x i) * (z d - z c)
    rw [pev_set (i := i) (c := c) x h]
    grind
theorem pw_add (x : Zp) : ∀ n m : Nat, pw x (n + m) = pw x n * pw x m
  | 0, m => by
    rw [Nat.zero_add]
    show pw x m = 1 * pw x m
    grind
  | n + 1, m => by
    rw [Nat.succ_add]
    show x * pw x (n + m) = (x * pw x n) * pw x m
    rw [pw_add x n m]
    grind
theorem pev_snoc (a : List Int) (c : Int) (x : Zp) : pev (a ++ [c]) x = pev a x + pw x a.length * z c := by
  rw [pev_append]
  show _ + _ * (z c + x * 0) = _
  grind
/-! all words as places -/
def allZ (n : Nat) : List Zp := (List.range n).map fun (k : Nat) => z ((k : Int) + 1)
theorem allZ_nodup {n : Nat} (h : n ≤ 65520) : (allZ n).Nodup := by
  unfold allZ List.Nodup
  rw [List.pairwise_map]
  refine (List.nodup_range (n := n)).imp_of_mem fun {a b} ha hb ne e => ?_
  have h1 := List.mem_range.mp ha
  have h2 := List.mem_range.mp hb
  have := z_eq.mp e
  omega
theorem allZ_ne {n : Nat} (h : n ≤ 65520) : ∀ a ∈ allZ n, a ≠ 0 := fun a ha e => by
  obtain ⟨k, hk, rfl⟩ := List.mem_map.mp ha
  have h1 := List.mem_range.mp hk
  have := (z_z _).mp e
  omega
/-- zero but perhaps at 0: zero -/
theorem Pol.punct {n : Nat} {f : Zp → Zp} (h : Pol n f) (hn : n ≤ 65520) (hz : ∀ x, x ≠ 0 → f x = 0) : ∀ x, f x = 0 :=
  Pol.roots (allZ n) h (allZ_nodup hn) (by simp [allZ]) fun a ha => hz a (allZ_ne hn a ha)
theorem Pol.pw : ∀ (n : Nat) (c : Zp), Pol (n + 1) fun x => c * PP.pw x n
  | 0, c => (Pol.const c).ext fun x => by show c * 1 = c; grind
  | n + 1, c => ((Pol.pw n c).xmul).ext fun x => by show c * (x * PP.pw x n) = x * (c * PP.pw x n); grind
/-- a power beyond the coefficients has the factor 0 -/
theorem lead_zero : ∀ (n : Nat) {c : Zp} {h : Zp → Zp}, n ≤ 60000 → Pol n h → (∀ x, c * pw x n = h x) → c = 0
  | 0, c, h, _, hp, e => by
    have := e 0
    rw [hp 0] at this
    have : c * 1 = 0 := this
    grind
  | n + 1, c, h, hn, ⟨d, g, hg, q⟩, e => by
    have e0 : d = 0 := by
      have h0 := e 0
      rw [q 0] at h0
      have : c * (0 * pw 0 n) = d + 0 * g 0 := h0
      grind
    have F : ∀ x, c * pw x n - g x = 0 := Pol.punct (n := n + 1) (Pol.sub (Pol.pw n c) hg.up) (by omega) fun x hx => by
      have h1 := e x
      rw [q x, e0] at h1
      have h2 : c * (x * pw x n) = 0 + x * g x := h1
      have h3 : x * (c * pw x n - g x) = 0 := by grind
      exact (zp_div h3).resolve_left hx
    exact lead_zero n (by omega) hg fun x => by
      have := F x
      grind
/-- a normal list has no more words than its values need -/
theorem norm_le {r : List Int} {n : Nat} (h : Norm r) (hn : n ≤ 60000) (hp : Pol n (pev r)) (hr : r.length ≤ 60000) : r.length ≤ n := by
  refine Classical.byContradiction fun c => ?_
  obtain ⟨hw, hl⟩ := h
  have rne : r ≠ [] := fun e => by rw [e] at c; simp at c
  have hl := hl.resolve_left rne
  have e : r = r.take (r.length - 1) ++ [r.getD (r.length - 1) 0] := by
    have hlt : r.length - 1 < r.length := by
      have := List.length_pos_iff.mpr rne
      omega
    conv => lhs; rw [← List.take_append_drop (r.length - 1) r]
    rw [List.drop_eq_getElem_cons hlt, show r.length - 1 + 1 = r.length by omega, List.drop_length]
    simp [List.getD_eq_getElem?_getD, hlt]
  have P1 : Pol (r.length - 1) (pev (r.take (r.length - 1))) := (pev_pol _).mono (by rw [List.length_take]; omega)
  have P2 : Pol (r.length - 1) (pev r) := hp.mono (by omega)
  have z0 := lead_zero (r.length - 1) (c := z (r.getD (r.length - 1) 0)) (by omega) (Pol.sub P2 P1) fun x => by
    have := pev_snoc (r.take (r.length - 1)) (r.getD (r.length - 1) 0) x
    rw [← e, List.length_take, Nat.min_eq_left (by omega)] at this
    show _ = pev r x - pev (r.take (r.length - 1)) x
    grind
  have w := hw (r.getD (r.length - 1) 0) (by
    have hlt : r.length - 1 < r.length := by
      have := List.length_pos_iff.mpr rne
      omega
    rw [List.getD_eq_getElem?_getD, List.getElem?_eq_getElem hlt]
    exact List.getElem_mem hlt)
  have := (z_z _).mp z0
  obtain ⟨w0, w1⟩ := w
  omega
/-- the same values everywhere: the same words -/
theorem pev_inj : ∀ {a b : List Int}, a.length = b.length → a.length ≤ 60000 → (∀ w ∈ a, Wd w) → (∀ w ∈ b, Wd w) → (∀ x, pev a x = pev b x) → a = b
  | [], [], _, _, _, _, _ => rfl
  | [], _ :: _, h, _, _, _, _ => by simp at h
  | _ :: _, [], h, _, _, _, _ => by simp at h
  | c :: a, d :: b, hl, hz, ha, hb, e => by
    have e0 : z c = z d := by
      have : z c + 0 * pev a 0 = z d + 0 * pev b 0 := e 0
      grind
    have wc := ha c (by simp)
    have wd := hb d (by simp)
    have ecd : c = d := z_inj wc.1 wc.2 wd.1 wd.2 e0
    have hl' : a.length = b.length := by simpa using hl
    have hz' : a.length + 1 ≤ 60000 := by simpa using hz
    have F : ∀ x, pev a x - pev b x = 0 := Pol.punct (n := a.length) (Pol.sub (pev_pol a) ((pev_pol b).mono (by omega))) (by omega) fun x hx => by
      have h1 : z c + x * pev a x = z d + x * pev b x := e x
      have h3 : x * (pev a x - pev b x) = 0 := by grind
      exact (zp_div h3).resolve_left hx
    rw [ecd, pev_inj hl' (by omega) (fun w m => ha w (List.mem_cons_of_mem _ m)) (fun w m => hb w (List.mem_cons_of_mem _ m)) fun x => by have := F x; grind]
theorem norm_inj {a b : List Int} (ha : Norm a) (hb : Norm b) (la : a.length ≤ 60000) (lb : b.length ≤ 60000) (e : ∀ x, pev a x = pev b x) : a = b := by
  have h1 := norm_le ha lb ((pev_pol b).ext e) la
  have h2 := norm_le hb la ((pev_pol a).ext fun x => (e x).symm) lb
  exact pev_inj (by omega) la ha.1 hb.1 e
/-! products -/
theorem Pol.mul : ∀ {n m : Nat} {f g : Zp → Zp}, Pol n f → Pol m g → Pol (n + m) fun x => f x * g x
  | 0, m, f, g, h, _ => (pol_nil (0 + m)).ext fun x => by show f x * g x = 0; rw [h x]; grind
  | n + 1, m, f, g, ⟨c, u, h, q⟩, k => by
    have A := (Pol.mul h k).xmul
    have B := (k.smul c).mono (show m ≤ n + m + 1 by omega)
    rw [show n + 1 + m = n + m + 1 by omega]
    exact (B.add A).ext fun x => by show f x * g x = g x * c + x * (u x * g x); rw [q x]; grind
/-- the highest coefficient -/
theorem norm_lead {a : List Int} (h : Norm a) (ne : a ≠ []) : ∃ (c : Zp) (g : Zp → Zp), c ≠ 0 ∧ Pol (a.length - 1) g ∧ ∀ x, pev a x = g x + c * pw x (a.length - 1) := by
  have hlt : a.length - 1 < a.length := by
    have := List.length_pos_iff.mpr ne
    omega
  refine ⟨z (a.getD (a.length - 1) 0), pev (a.take (a.length - 1)), fun e => ?_, (pev_pol _).mono (by rw [List.length_take]; omega), fun x => ?_⟩
  · have w : Wd (a.getD (a.length - 1) 0) := h.1 _ (by rw [List.getD_eq_getElem?_getD, List.getElem?_eq_getElem hlt]; exact List.getElem_mem hlt)
    have := (z_z _).mp e
    have ne0 := h.2.resolve_left ne
    obtain ⟨w0, w1⟩ := w
    omega
  · have e : a = a.take (a.length - 1) ++ [a.getD (a.length - 1) 0] := by
      conv => lhs; rw [← List.take_append_drop (a.length - 1) a]
      rw [List.drop_eq_getElem_cons hlt, show a.length - 1 + 1 = a.length by omega, List.drop_length]
      simp [List.getD_eq_getElem?_getD, hlt]
    have := pev_snoc (a.take (a.length - 1)) (a.getD (a.length - 1) 0) x
    rw [← e, List.length_take, Nat.min_eq_left (by omega)] at this
    rw [this]
    grind
theorem norm_mul {a b r : List Int} (ha : Norm a) (hb : Norm b) (hr : Norm r) (na : a ≠ []) (nb : b ≠ []) (la : a.length ≤ 1000) (lb : b.length ≤ 1000) (lr : r.length ≤ 60000) (e : ∀ x, pev r x = pev a x * pev b x) : r.length = a.length + b.length - 1 := by
  obtain ⟨c, g, hc, hg, eg⟩ := norm_lead ha na
  obtain ⟨d, k, hd, hk, ek⟩ := norm_lead hb nb
  have pa := List.length_pos_iff.mpr na
  have pb := List.length_pos_iff.mpr nb
  -- what is below the highest power
  have low : Pol (a.length - 1 + (b.length - 1)) fun x => pev r x - (c * d) * pw x (a.length - 1 + (b.length - 1)) := by
    have A := (hg.mul ((Pol.pw (b.length - 1) d).add hk.up)).mono (show a.length - 1 + (b.length - 1 + 1) ≤ a.length - 1 + (b.length - 1) + 1 by omega)
    have B : ∀ n m : Nat, ∀ u : Zp → Zp, Pol m u → Pol (n + m) fun x => pw x n * u x := by
      intro n
      induction n with
      | zero => exact fun m u hu => by rw [Nat.zero_add]; exact hu.ext fun x => by show 1 * u x = u x; grind
      | succ n ih => exact fun m u hu => by rw [Nat.succ_add]; exact ((ih m u hu).xmul).ext fun x => by show (x * pw x n) * u x = x * (pw x n * u x); grind
    have C := (B (a.length - 1) (b.length - 1) k hk).smul c
    have D := (B (b.length - 1) (a.length - 1) g hg).smul d
    have G : Pol (a.length - 1 + (b.length - 1)) fun x => g x * k x := hg.mul hk
    rw [Nat.add_comm (b.length - 1)] at D
    refine ((C.add D).add G).ext fun x => ?_
    show pev r x - (c * d) * pw x (a.length - 1 + (b.length - 1)) = (pw x (a.length - 1) * k x * c + pw x (b.length - 1) * g x * d) + g x * k x
    rw [e x, eg x, ek x, pw_add]
    grind
  have up : Pol (a.length - 1 + (b.length - 1) + 1) (pev r) := (low.up.add (Pol.pw _ (c * d))).ext fun x => by
    show pev r x = (pev r x - (c * d) * pw x _) + (c * d) * pw x _
    grind
  have h1 := norm_le hr (by omega) up lr
  by_cases q : r.length ≤ a.length - 1 + (b.length - 1)
  · exfalso
    have P := (pev_pol r).mono q
    have := lead_zero (a.length - 1 + (b.length - 1)) (c := c * d) (by omega) (P.sub low) fun x => by
      show _ = pev r x - (pev r x - (c * d) * pw x _)
      grind
    exact zp_mul_ne hc hd this
  · omega
theorem norm_snoc {a : List Int} {c : Int} (h : ∀ w ∈ a, Wd w) (hc : Wd c) (n : c ≠ 0) : Norm (a ++ [c]) := by
  refine ⟨fun w m => ?_, .inr ?_⟩
  · rcases List.mem_append.mp m with m | m
    · exact h w m
    · have : w = c := by simpa using m
      rw [this]
      exact hc
  · rw [List.length_append, List.length_singleton, Nat.add_sub_cancel, List.getD_eq_getElem?_getD]
    simpa using n
theorem norm_nil : Norm [] := ⟨fun _ m => (nomatch m), .inl rfl⟩
theorem pev_smul (fa : Int) : ∀ (b : List Int) (x : Zp), pev (b.map fun c => fa * c) x = z fa * pev b x
  | [], x => by show (0 : Zp) = _ * 0; grind
  | c :: r, x => by
    show z (fa * c) + x * pev (r.map fun c => fa * c) x = z fa * (z c + x * pev r x)
    rw [pev_smul fa r x, z_mul]
    grind
/-! heaps, slices, points -/
theorem _root_.L2.Same.tup {K : PySem.W.Frag} {H H' : Hp} {a : Addr} {xs : List V} (e : Same H H') (h : SqT K H a xs) : SqT K H' a xs := by
  rcases h with (h | ⟨o, h⟩) | h
  · exact .inl (.inl (e _ _ h))
  · exact .inl (.inr ⟨o, e _ _ h⟩)
  · exact .inr h
theorem _root_.L2.Same.new {H : Hp} {p : Addr} {o : HO} (h : H p = none) : Same H (upd H p o) := fun _ _ e => by
  rw [upd_ne (ne_of_none e h)]
  exact e
/-- what was tracked is as it was, but for p -/
def But (p : Addr) (H H' : Hp) : Prop := ∀ b o, H b = some o → b ≠ p → H' b = some o
theorem Only.but {p : Addr} {H H' : Hp} (h : Only p H H') : But p H H' := fun b _ e n => (h b n).trans e
theorem _root_.L2.Same.but {p : Addr} {H H' : Hp} (h : Same H H') : But p H H' := fun b o e _ => h b o e
theorem But.trans {p : Addr} {H H1 H2 : Hp} (x : But p H H1) (y : But p H1 H2) : But p H H2 := fun b o e n => y b o (x b o e n) n
theorem But.same {p : Addr} {H0 H H' : Hp} (y : But p H H') (x : Same H0 H) (h : H0 p = none) : Same H0 H' := fun b o e => y b o (x b o e) (ne_of_none e h)
theorem But.new {p q : Addr} {H H' : Hp} {o : HO} (x : But p H H') (h : H' q = none) : But p H (upd H' q o) := x.trans (Same.new h).but
theorem _root_.L2.Same.at {H H' : Hp} {b : Addr} {o : HO} (s : Same H H') (e : H b = some o) : H' b = some o := s b o e
theorem cut_take (xs : List V) (i : Nat) : cutV xs none (some (i : Int)) = xs.take i := by
  unfold cutV
  rw [HT.sIx_none, HT.sIx_nat, List.drop_zero, Nat.sub_zero]
  by_cases h : i ≤ xs.length
  · rw [Nat.min_eq_left h]
  · rw [Nat.min_eq_right (by omega), List.take_of_length_le (by omega), List.take_of_length_le (by omega)]
theorem cut_drop (xs : List V) (i : Nat) : cutV xs (some (i : Int)) none = xs.drop i := by
  unfold cutV
  rw [HT.sIx_none, HT.sIx_nat]
  by_cases h : i ≤ xs.length
  · rw [Nat.min_eq_left h, List.take_of_length_le (by rw [List.length_drop]; omega)]
  · rw [Nat.min_eq_right (by omega), List.drop_of_length_le (by omega), List.drop_of_length_le (by omega), List.take_nil]
theorem take_snoc {α : Type} {l : List α} {i : Nat} {x : α} (h : l[i]? = some x) : l.take (i + 1) = l.take i ++ [x] := by
  rw [List.take_add_one, h]
  rfl
theorem item_lt {α : Type} {l : List α} {i : Nat} {x : α} (h : l[i]? = some x) : i < l.length := (List.getElem?_eq_some_iff.mp h).1
theorem small (n : Nat) (h : n ≤ 60000) : n < sizeLine := Nat.lt_of_le_of_lt h (by decide)
theorem getD_item {α : Type} {l : List α} {i : Nat} {x d : α} (h : l[i]? = some x) : l.getD i d = x := by rw [List.getD_eq_getElem?_getD, h]; rfl
theorem seq_off {K : PySem.W.Frag} {H : Hp} {a b : Addr} {xs : List V} {o : HO} (h : SqL K H a xs) (n : a ≠ b) : SqL K (upd H b o) a xs := by
  rcases h with (h | ⟨u, h⟩) | h
  · exact .inl (.inl (by rw [upd_ne n]; exact h))
  · exact .inl (.inr ⟨u, by rw [upd_ne n]; exact h⟩)
  · exact .inr h
/-- one more thing at a place that was free at the entry -/
theorem same_put {H H' : Hp} {p : Addr} {o : HO} (s : Same H H') (n : H p = none) : Same H (upd H' p o) := fun b u e => by
  rw [upd_ne (ne_of_none e n)]
  exact s b u e
theorem item_set {α : Type} {l : List α} {i j : Nat} {x y : α} (h : (l.set i x)[j]? = some y) : (i = j ∧ y = x ∧ j < l.length) ∨ (i ≠ j ∧ l[j]? = some y) := by
  rw [List.getElem?_set] at h
  by_cases e : i = j
  · subst e
    rw [if_pos rfl] at h
    split at h
    · exact .inl ⟨rfl, (Option.some.inj h).symm, by assumption⟩
    · cases h
  · rw [if_neg e] at h
    exact .inr ⟨e, h⟩
theorem same_none {H H' : Hp} {b : Addr} (s : Same H H') (n : H' b = none) : H b = none := by
  cases q : H b with
  | none => rfl
  | some o => rw [s _ _ q] at n; cases n
theorem getD_set {w : List Int} {i k : Nat} {v : Int} (h : k < w.length) : (w.set i v).getD k 0 = if i = k then v else w.getD k 0 := by
  rw [List.getD_eq_getElem?_getD, List.getElem?_set]
  split
  · next e =>
    subst e
    rw [if_pos h]
    rfl
  · rw [List.getD_eq_getElem?_getD]
/-! data: == of lists of ints, of pairs -/
theorem eqvAll_ints : ∀ xs ys : List Int, PyData.eqvAll (xs.map .int) (ys.map .int) = decide (xs = ys)
  | [], [] => by simp [PyData.eqvAll]
  | [], _ :: _ => by simp [PyData.eqvAll]
  | _ :: _, [] => by simp [PyData.eqvAll]
  | x :: xs, y :: ys => by
    simp only [List.map_cons, PyData.eqvAll, PyData.eqv, eqvAll_ints xs ys]
    by_cases h : x = y <;> by_cases k : xs = ys <;> simp [h, k]
theorem canLayAll_ints : ∀ xs : List Int, PyData.canLayAll0 (xs.map .int) = true
  | [] => rfl
  | x :: xs => by simp [PyData.canLayAll0, PyData.canLay0, canLayAll_ints xs]
theorem depthAll_ints : ∀ xs : List Int, PyData.depthAll (xs.map .int) = 0
  | [] => rfl
  | x :: xs => by simp [PyData.depthAll, PyData.depth, depthAll_ints xs]
theorem shaped_ints (xs : List Int) : SeqAt.shaped (.list (xs.map .int)) = true := by
  simp [SeqAt.shaped, PyData.canLay0, canLayAll_ints, PyData.depth, depthAll_ints]
theorem dpAll_ints {K : PySem.W.Frag} {H : Hp} : ∀ xs : List Int, DpAll K H (xs.map V.int) (xs.map .int)
  | [] => .nil
  | x :: xs => .cons (.int x) (dpAll_ints xs)
theorem dp_ints {K : PySem.W.Frag} {H : Hp} {a : Addr} {xs : List Int} (h : SqL K H a (xs.map V.int)) : Dp K H (.ref a) (.list (xs.map .int)) := .lst h (dpAll_ints xs)
theorem eqv_ints (xs ys : List Int) : PyData.eqv (.list (xs.map .int)) (.list (ys.map .int)) = decide (xs = ys) := by
  simp only [PyData.eqv]
  exact eqvAll_ints xs ys
/-- rows of ints -/
def rowD (xs : List Int) : PyData := .list (xs.map .int)
theorem rows_data : ∀ xss : List (List Int), PyData.canLayAll0 (xss.map rowD) = true ∧ PyData.depthAll (xss.map rowD) ≤ 1
  | [] => ⟨rfl, Nat.zero_le _⟩
  | xs :: xss => by
    obtain ⟨h1, h2⟩ := rows_data xss
    refine ⟨by simp [PyData.canLayAll0, PyData.canLay0, rowD, canLayAll_ints, h1], ?_⟩
    simp only [List.map_cons, PyData.depthAll, rowD, PyData.depth, depthAll_ints]
    omega
theorem rows_shaped (xss : List (List Int)) : SeqAt.shaped (.list (xss.map rowD)) = true := by
  obtain ⟨h1, h2⟩ := rows_data xss
  have e : PyData.depth (.list (xss.map rowD)) = PyData.depthAll (xss.map rowD) + 1 := by simp only [PyData.depth]
  unfold SeqAt.shaped
  rw [Bool.and_eq_true]
  exact ⟨by simp only [PyData.canLay0]; exact h1, decide_eq_true (by rw [e]; omega)⟩
theorem eqvAll_rows : ∀ xss yss : List (List Int), PyData.eqvAll (xss.map rowD) (yss.map rowD) = decide (xss = yss)
  | [], [] => by simp [PyData.eqvAll]
  | [], _ :: _ => by simp [PyData.eqvAll]
  | _ :: _, [] => by simp [PyData.eqvAll]
  | x :: xs, y :: ys => by
    have h := eqv_ints x y
    simp only [List.map_cons, PyData.eqvAll, rowD, eqvAll_rows xs ys, h]
    by_cases h : x = y <;> by_cases k : xs = ys <;> simp [h, k]
theorem eqv_rows (xss yss : List (List Int)) : PyData.eqv (.list (xss.map rowD)) (.list (yss.map rowD)) = decide (xss = yss) := by
  simp only [PyData.eqv]
  exact eqvAll_rows xss yss
theorem dp_two {K : PySem.W.Frag} {H : Hp} {a b c : Addr} {xs ys : List Int} (h : SqL K H a [V.ref b, V.ref c]) (hb : SqL K H b (xs.map V.int)) (hc : SqL K H c (ys.map V.int)) : Dp K H (.ref a) (.list ([xs, ys].map rowD)) :=
  .lst h (.cons (dp_ints hb) (.cons (dp_ints hc) .nil))
/-! xs[i] op= e, i not below 0 -/
def rGetL (K : PySem.W.Frag) : V → V → Hp → VK → Prop := fun x y H Q => ∃ (p : Addr) (xs : List V) (i : Int) (j : Nat) (v : V), x = .ref p ∧ y = .int i ∧ i = (j : Int) ∧ SqL K H p xs ∧ xs[j]? = some v ∧ Q v H
theorem pget_list {X : Cx} : PGet X (rGetL X.K) := by
  intro pins s σ H o i ov iv Q I ro ri h
  obtain ⟨p, xs, _, j, v, rfl, rfl, rfl, hS, hv, q⟩ := h
  cases ro
  obtain ⟨t, rfl⟩ := ri
  obtain ⟨its, r, pl, hz⟩ := I.list hS
  obtain ⟨u, hu, ru⟩ := r.get hv
  have hl : j < xs.length := (List.getElem?_eq_some_iff.mp hv).1
  have hn := line63
  exact PySem.wpAny_getItem_list pl.isList (by omega) (by omega) (by rw [Int.toNat_natCast]; simpa using hu) ⟨v, H, I, ru, q⟩
theorem rep_zero (n : Nat) : (List.replicate n [V.int 0]).flatten = (List.replicate n (0 : Int)).map V.int := by
  induction n with
  | zero => rfl
  | succ n ih => rw [List.replicate_succ, List.flatten_cons, ih, List.replicate_succ]; rfl
theorem pev_rep (n : Nat) (x : Zp) : pev (List.replicate n (0 : Int)) x = 0 := pev_zeros (fun w m => by rw [(List.mem_replicate.mp m).2]; exact z_zero) x
theorem ixN_nat {n j : Nat} (h : j < n) : ixN n (j : Int) = some j := by
  unfold ixN
  rw [if_pos (by omega), if_pos (by omega), Int.toNat_natCast]
/-! scheduled requests: none is a flush, some (disk, row, words) a write -/
abbrev Kp := Int × Int
abbrev As := List (Kp × List Int)
abbrev Req := Option (Int × Int × List Int)
theorem rev_ind {α : Type} {P : List α → Prop} (h0 : P []) (hs : ∀ l a, P l → P (l ++ [a])) (l : List α) : P l := by
  have h : ∀ l : List α, P l.reverse := fun l => by
    induction l with
    | nil => exact h0
    | cons a l ih => rw [List.reverse_cons]; exact hs _ _ ih
  have := h l.reverse
  rw [List.reverse_reverse] at this
  exact this
def putA (w : As) (k : Kp) (v : List Int) : As := if (w.any fun e => decide (e.1 = k)) = true then w.map (fun e => if e.1 = k then (e.1, v) else e) else w ++ [(k, v)]
def getA (w : As) (k : Kp) : Option (List Int) := (w.find? fun e => decide (e.1 = k)).map (·.2)
def ltK (a b : Kp) : Bool := decide (a.1 < b.1 ∨ (a.1 = b.1 ∧ a.2 < b.2))
def leA (x y : Kp × List Int) : Bool := !ltK y.1 x.1
def sortA (w : As) : As := w.mergeSort leA
def wrM (e : Kp × List Int) : Req := some (e.1.1, e.1.2, e.2)
def ordM (w : As) : List Req := (sortA w).map wrM
def Nd (w : As) : Prop := (w.map (·.1)).Nodup
theorem ltK_iff {a b : Kp} : ltK a b = true ↔ (a.1 < b.1 ∨ (a.1 = b.1 ∧ a.2 < b.2)) := decide_eq_true_iff
theorem leA_trans (x y z : Kp × List Int) (h1 : leA x y = true) (h2 : leA y z = true) : leA x z = true := by
  unfold leA at *
  rw [Bool.not_eq_true'] at *
  unfold ltK at *
  rw [decide_eq_false_iff_not] at *
  omega
theorem leA_total (x y : Kp × List Int) : (leA x y || leA y x) = true := by
  unfold leA
  cases h : ltK y.1 x.1 with
  | false => rfl
  | true =>
    have h := ltK_iff.mp h
    have : ltK x.1 y.1 = false := by unfold ltK; rw [decide_eq_false_iff_not]; omega
    rw [this]
    rfl
theorem leA_anti {x y : Kp × List Int} (h1 : leA x y = true) (h2 : leA y x = true) : x.1 = y.1 := by
  unfold leA at *
  rw [Bool.not_eq_true'] at *
  unfold ltK at *
  rw [decide_eq_false_iff_not] at *
  exact Prod.ext (by omega) (by omega)
theorem getA_any (w : As) (k : Kp) : (w.any fun e => decide (e.1 = k)) = (getA w k).isSome := by
  unfold getA
  induction w with
  | nil => rfl
  | cons e w ih =>
    rw [List.any_cons, List.find?_cons]
    by_cases h : e.1 = k
    · rw [decide_eq_true h]
      rfl
    · rw [decide_eq_false h, Bool.false_or, ih]
theorem getA_mem {w : As} (n : Nd w) {k : Kp} {v : List Int} : (k, v) ∈ w ↔ getA w k = some v := by
  induction w with
  | nil => simp [getA]
  | cons e w ih =>
    unfold Nd at n
    rw [List.map_cons, List.nodup_cons] at n
    unfold getA
    rw [List.find?_cons]
    by_cases h : e.1 = k
    · rw [decide_eq_true h]
      constructor
      · intro m
        rcases List.mem_cons.mp m with z | z
        · rw [← z]
          rfl
        · exact absurd (List.mem_map.mpr ⟨_, z, h.symm⟩) n.1
      · intro z
        have z : e.2 = v := Option.some.inj z
        have : e = (k, v) := Prod.ext h z
        rw [this]
        simp
    · rw [decide_eq_false h]
      have := ih n.2
      unfold getA at this
      rw [← this]
      constructor
      · intro m
        rcases List.mem_cons.mp m with z | z
        · rw [← z] at h
          exact absurd rfl h
        · exact z
      · exact fun z => List.mem_cons_of_mem _ z
theorem getA_none {w : As} {k : Kp} (h : getA w k = none) : k ∉ w.map (·.1) := fun m => by
  obtain ⟨e, me, rfl⟩ := List.mem_map.mp m
  have h2 := getA_any w e.1
  rw [h] at h2
  have := List.any_eq_false.mp h2 e me
  exact this (decide_eq_true rfl)
theorem getA_put (w : As) (k j : Kp) (v : List Int) : getA (putA w k v) j = if j = k then some v else getA w j := by
  unfold putA
  rw [getA_any]
  cases hk : getA w k with
  | some u =>
    rw [if_pos (show (some u).isSome = true from rfl)]
    have gen : ∀ w : As, getA (w.map fun e => if e.1 = k then (e.1, v) else e) j = if j = k then (getA w k).map (fun _ => v) else getA w j := by
      intro w
      induction w with
      | nil => simp [getA]
      | cons e w ih =>
        unfold getA at ih ⊢
        rw [List.map_cons, List.find?_cons, List.find?_cons, List.find?_cons]
        have e1 : (if e.1 = k then (e.1, v) else e).1 = e.1 := by split <;> rfl
        rw [e1]
        by_cases h : e.1 = j
        · rw [decide_eq_true h]
          by_cases g : j = k
          · rw [if_pos g, decide_eq_true (h.trans g)]
            show some (if e.1 = k then (e.1, v) else e).2 = some v
            rw [if_pos (h.trans g)]
          · rw [if_neg g]
            show some (if e.1 = k then (e.1, v) else e).2 = some e.2
            rw [if_neg (by rw [h]; exact g)]
        · rw [decide_eq_false h]
          show Option.map _ (List.find? _ (w.map _)) = _
          rw [ih]
          by_cases g : j = k
          · rw [if_pos g, if_pos g, decide_eq_false (by rw [← g]; exact h)]
          · rw [if_neg g, if_neg g]
    rw [gen w, hk]
    rfl
  | none =>
    rw [if_neg (by decide)]
    unfold getA at hk ⊢
    rw [List.find?_append]
    by_cases h : j = k
    · subst h
      rw [if_pos rfl]
      cases q : w.find? fun e => decide (e.1 = j) with
      | some x => rw [q] at hk; cases hk
      | none => simp
    · rw [if_neg h]
      cases q : w.find? fun e => decide (e.1 = j) with
      | some x => rfl
      | none => simp [Ne.symm h]
theorem putA_keys (w : As) (k : Kp) (v : List Int) : (putA w k v).map (·.1) = if (getA w k).isSome = true then w.map (·.1) else w.map (·.1) ++ [k] := by
  unfold putA
  rw [getA_any]
  split
  · rw [List.map_map]
    refine List.map_congr_left fun e _ => ?_
    show (if e.1 = k then (e.1, v) else e).1 = e.1
    split <;> rfl
  · rw [List.map_append]
    rfl
theorem Nd.put {w : As} (n : Nd w) (k : Kp) (v : List Int) : Nd (putA w k v) := by
  unfold Nd
  rw [putA_keys]
  split
  · exact n
  · next h =>
    have h0 : getA w k = none := by
      cases z : getA w k with
      | none => rfl
      | some u => rw [z] at h; exact absurd rfl h
    rw [List.nodup_append]
    refine ⟨n, by simp, fun a ha b hb => ?_⟩
    have : b = k := by simpa using hb
    rw [this]
    exact fun z => getA_none h0 (by rw [← z]; exact ha)
theorem putA_len (w : As) (k : Kp) (v : List Int) : (putA w k v).length ≤ w.length + 1 := by
  have := congrArg List.length (putA_keys w k v)
  rw [List.length_map] at this
  rw [this]
  split
  · rw [List.length_map]; omega
  · rw [List.length_append, List.length_map]; exact Nat.le_refl _
theorem putA_ne (w : As) (k : Kp) (v : List Int) : putA w k v ≠ [] := fun z => by
  have := getA_put w k k v
  rw [z, if_pos rfl] at this
  cases this
theorem sortA_perm (w : As) : (sortA w).Perm w := List.mergeSort_perm _ _
theorem sortA_pair (w : As) : (sortA w).Pairwise fun x y => leA x y = true := List.pairwise_mergeSort leA_trans leA_total w
theorem Nd.sort {w : As} (n : Nd w) : Nd (sortA w) := ((sortA_perm w).map _).nodup_iff.mpr n
theorem sortA_get {w : As} (n : Nd w) (k : Kp) : getA (sortA w) k = getA w k := by
  cases h : getA w k with
  | some v => exact (getA_mem n.sort).mp ((sortA_perm w).mem_iff.mpr ((getA_mem n).mpr h))
  | none =>
    cases g : getA (sortA w) k with
    | none => rfl
    | some v =>
      have := (getA_mem n).mp ((sortA_perm w).mem_iff.mp ((getA_mem n.sort).mpr g))
      rw [h] at this
      cases this
theorem Nd.nodup {w : As} (n : Nd w) : w.Nodup := (List.pairwise_map.mp n).imp fun h z => h (by rw [z])
/-- the sorted list tells the lookups, and is told by them -/
theorem sortA_one {w u : As} (n : Nd w) (m : Nd u) (h : ∀ k, getA w k = getA u k) : sortA w = sortA u := by
  have p : w.Perm u := (List.perm_ext_iff_of_nodup n.nodup m.nodup).mpr fun ⟨k, v⟩ => by rw [getA_mem n, getA_mem m, h k]
  refine List.Perm.eq_of_pairwise (le := fun x y => leA x y = true) (fun x y hx hy h1 h2 => ?_) (sortA_pair w) (sortA_pair u) ((sortA_perm w).trans (p.trans (sortA_perm u).symm))
  have e := leA_anti h1 h2
  have hy' := (getA_mem n (k := y.1) (v := y.2)).mp (p.mem_iff.mpr ((sortA_perm u).mem_iff.mp hy))
  have hx' := (getA_mem n (k := x.1) (v := x.2)).mp ((sortA_perm w).mem_iff.mp hx)
  rw [e, hy'] at hx'
  exact Prod.ext e (Option.some.inj hx').symm
/-- strictly ascending ones stay -/
theorem sortA_of {w : As} (h : w.Pairwise fun x y => ltK x.1 y.1 = true) : sortA w = w := by
  refine List.mergeSort_of_pairwise (h.imp fun {x y} q => ?_)
  unfold leA
  have q := ltK_iff.mp q
  rw [Bool.not_eq_true']
  unfold ltK
  rw [decide_eq_false_iff_not]
  omega
theorem sortA_strict {w : As} (n : Nd w) : (sortA w).Pairwise fun x y => ltK x.1 y.1 = true := by
  have k := List.pairwise_map.mp n.sort
  refine ((sortA_pair w).and k).imp fun {x y} q => ?_
  have h1 := q.1
  unfold leA at h1
  rw [Bool.not_eq_true'] at h1
  unfold ltK at h1
  rw [decide_eq_false_iff_not] at h1
  refine ltK_iff.mpr ?_
  rcases Int.lt_trichotomy x.1.1 y.1.1 with a | a | a
  · exact .inl a
  · rcases Int.lt_trichotomy x.1.2 y.1.2 with b | b | b
    · exact .inr ⟨a, b⟩
    · exact absurd (Prod.ext a b) q.2
    · exact absurd (.inr ⟨a.symm, b⟩) h1
  · exact absurd (.inl a) h1
/-! the program -/
def stepS (s : List Req × As) (q : Req) : List Req × As := match q with
  | some (d, r, ws) => (s.1, putA s.2 (d, r) ws)
  | none => (if (s.1 ++ ordM s.2).getLast? = some none then s.1 ++ ordM s.2 else s.1 ++ ordM s.2 ++ [none], [])
def runS (L : List Req) : List Req × As := L.foldl stepS ([], [])
def schedM (L : List Req) : List Req := (runS L).1 ++ ordM (runS L).2
theorem runS_snoc (L : List Req) (q : Req) : runS (L ++ [q]) = stepS (runS L) q := by unfold runS; rw [List.foldl_append]; rfl
/-! the law's states -/
def stepT (s : As × List As) (q : Req) : As × List As := match q with
  | some (d, r, ws) => (putA s.1 (d, r) ws, s.2)
  | none => (s.1, if s.2.getLast? = some (sortA s.1) then s.2 else s.2 ++ [sortA s.1])
def runT (L : List Req) : As × List As := L.foldl stepT ([], [])
def statesT (L : List Req) : List As := (runT L).2 ++ [sortA (runT L).1]
theorem runT_snoc (L : List Req) (q : Req) : runT (L ++ [q]) = stepT (runT L) q := by unfold runT; rw [List.foldl_append]; rfl
theorem runT_ord (M : List Req) (n : Nd (runT M).1) : ∀ w : As, Nd w → (runT (M ++ w.map wrM)).2 = (runT M).2 ∧ Nd (runT (M ++ w.map wrM)).1 ∧ ∀ k, getA (runT (M ++ w.map wrM)).1 k = (getA w k).or (getA (runT M).1 k) := by
  refine rev_ind (fun _ => ⟨by simp, by simpa using n, fun k => by simp [getA]⟩) fun w e ih nw => ?_
  unfold Nd at nw
  rw [List.map_append, List.nodup_append] at nw
  obtain ⟨h1, h2, h3⟩ := ih nw.1
  rw [List.map_append, ← List.append_assoc, show [e].map wrM = [wrM e] from rfl, runT_snoc]
  refine ⟨h1, h2.put _ _, fun k => ?_⟩
  show getA (putA (runT (M ++ w.map wrM)).1 (e.1.1, e.1.2) e.2) k = _
  rw [getA_put, h3]
  have hn : getA w e.1 = none := by
    cases z : getA w e.1 with
    | none => rfl
    | some v => exact absurd rfl (nw.2.2 e.1 (List.mem_map.mpr ⟨(e.1, v), (getA_mem nw.1).mpr z, rfl⟩) e.1 (by simp))
  have ga : getA (w ++ [e]) k = if k = e.1 then some e.2 else getA w k := by
    unfold getA at hn ⊢
    rw [List.find?_append]
    by_cases h : k = e.1
    · subst h
      cases q : w.find? fun x => decide (x.1 = e.1) with
      | some x => rw [q] at hn; cases hn
      | none => simp
    · rw [if_neg h]
      cases q : w.find? fun x => decide (x.1 = k) with
      | some x => rfl
      | none => simp [Ne.symm h]
  rw [ga]
  by_cases h : k = e.1
  · rw [if_pos h, if_pos h]
    rfl
  · rw [if_neg h, if_neg h]
/-! what holds of a prefix -/
theorem lastN_none {α : Type} {l : List α} (h : l.getLast? = none) : l = [] := List.getLast?_eq_none_iff.mp h
theorem ordM_nil : ordM [] = [] := by simp [ordM, sortA]
theorem ordM_len (w : As) : (ordM w).length = w.length := by unfold ordM; rw [List.length_map, (sortA_perm w).length_eq]
theorem ordM_last {w : As} (h : w ≠ []) (M : List Req) : (M ++ ordM w).getLast? ≠ some none := by
  have hl : ordM w ≠ [] := fun z => h (List.length_eq_zero_iff.mp (by rw [← ordM_len, z]; rfl))
  rw [List.getLast?_append]
  cases q : (ordM w).getLast? with
  | none => exact absurd (lastN_none q) hl
  | some x =>
    have := List.mem_of_getLast? q
    obtain ⟨e, _, rfl⟩ := List.mem_map.mp this
    exact fun z => by cases z
structure InvS (P : List Req) : Prop where
  nd : Nd (runS P).2
  out : (runS P).1 = [] ∨ (runS P).1.getLast? = some none
  ndT : Nd (runT P).1
  ndO : Nd (runT (runS P).1).1
  found : (runT (runS P).1).2 = (runT P).2
  look : ∀ k, getA (runT P).1 k = (getA (runS P).2 k).or (getA (runT (runS P).1).1 k)
  last : (runS P).1 ≠ [] → (runT (runS P).1).2.getLast? = some (sortA (runT (runS P).1).1)
theorem invS : ∀ P : List Req, InvS P := by
  refine rev_ind ⟨List.nodup_nil, .inl rfl, List.nodup_nil, List.nodup_nil, rfl, fun k => rfl, fun h => absurd rfl h⟩ fun P q I => ?_
  have eS := runS_snoc P q
  have eT := runT_snoc P q
  cases q with
  | some x =>
    obtain ⟨d, r, ws⟩ := x
    have eS' : runS (P ++ [some (d, r, ws)]) = ((runS P).1, putA (runS P).2 (d, r) ws) := eS
    have eT' : runT (P ++ [some (d, r, ws)]) = (putA (runT P).1 (d, r) ws, (runT P).2) := eT
    refine ⟨?_, ?_, ?_, ?_, ?_, fun k => ?_, ?_⟩
    · rw [eS']; exact I.nd.put _ _
    · rw [eS']; exact I.out
    · rw [eT']; exact I.ndT.put _ _
    · rw [eS']; exact I.ndO
    · rw [eS', eT']; exact I.found
    · rw [eS', eT']
      show getA (putA _ _ _) k = (getA (putA _ _ _) k).or _
      rw [getA_put, getA_put, I.look]
      split <;> rfl
    · rw [eS']; exact I.last
  | none =>
    have ro := runT_ord (runS P).1 I.ndO (sortA (runS P).2) I.nd.sort
    obtain ⟨f1, f2, f3⟩ := ro
    have same : sortA (runT ((runS P).1 ++ ordM (runS P).2)).1 = sortA (runT P).1 := sortA_one f2 I.ndT fun k => by
      have := f3 k
      rw [sortA_get I.nd] at this
      rw [I.look]
      exact this
    have eT' : runT (P ++ [none]) = ((runT P).1, if (runT P).2.getLast? = some (sortA (runT P).1) then (runT P).2 else (runT P).2 ++ [sortA (runT P).1]) := eT
    by_cases hw : (runS P).2 = [] ∧ (runS P).1 ≠ []
    · -- nothing is added
      obtain ⟨hw1, hw2⟩ := hw
      have hl : (runS P).1.getLast? = some none := I.out.resolve_left hw2
      have eS' : runS (P ++ [none]) = ((runS P).1, []) := by
        rw [eS]
        show ((if ((runS P).1 ++ ordM (runS P).2).getLast? = some none then (runS P).1 ++ ordM (runS P).2 else (runS P).1 ++ ordM (runS P).2 ++ [none]), ([] : As)) = _
        rw [hw1, ordM_nil, List.append_nil, if_pos hl]
      have lk : ∀ k, getA (runT P).1 k = getA (runT (runS P).1).1 k := fun k => by rw [I.look, hw1]; rfl
      have sm := sortA_one I.ndT I.ndO lk
      have kp : (runT P).2.getLast? = some (sortA (runT P).1) := by rw [← I.found, I.last hw2, sm]
      rw [if_pos kp] at eT'
      refine ⟨by rw [eS']; exact List.nodup_nil, by rw [eS']; exact .inr hl, by rw [eT']; exact I.ndT, by rw [eS']; exact I.ndO, by rw [eS', eT']; exact I.found, fun k => by rw [eS', eT']; exact lk k, by rw [eS']; exact I.last⟩
    · have hl : ((runS P).1 ++ ordM (runS P).2).getLast? ≠ some none := by
        by_cases h : (runS P).2 = []
        · have h1 : (runS P).1 = [] := Classical.byContradiction fun z => hw ⟨h, z⟩
          rw [h, h1, ordM_nil]
          intro z
          cases z
        · exact ordM_last h _
      have eS' : runS (P ++ [none]) = ((runS P).1 ++ ordM (runS P).2 ++ [none], []) := by
        rw [eS]
        show ((if ((runS P).1 ++ ordM (runS P).2).getLast? = some none then (runS P).1 ++ ordM (runS P).2 else (runS P).1 ++ ordM (runS P).2 ++ [none]), ([] : As)) = _
        rw [if_neg hl]
      have eO : runT ((runS P).1 ++ ordM (runS P).2 ++ [none]) = ((runT ((runS P).1 ++ ordM (runS P).2)).1, if (runT P).2.getLast? = some (sortA (runT P).1) then (runT P).2 else (runT P).2 ++ [sortA (runT P).1]) := by
        rw [runT_snoc]
        show (_, if (runT ((runS P).1 ++ ordM (runS P).2)).2.getLast? = some (sortA (runT ((runS P).1 ++ ordM (runS P).2)).1) then (runT ((runS P).1 ++ ordM (runS P).2)).2 else (runT ((runS P).1 ++ ordM (runS P).2)).2 ++ [sortA (runT ((runS P).1 ++ ordM (runS P).2)).1]) = _
        have f1' : (runT ((runS P).1 ++ ordM (runS P).2)).2 = (runT P).2 := f1.trans I.found
        rw [f1', same]
      refine ⟨by rw [eS']; exact List.nodup_nil, by rw [eS']; exact .inr (by simp), by rw [eT']; exact I.ndT, by rw [eS', eO]; exact f2, by rw [eS', eO, eT'], fun k => ?_, fun _ => ?_⟩
      · rw [eS', eO, eT']
        show getA (runT P).1 k = Option.or none (getA (runT ((runS P).1 ++ ordM (runS P).2)).1 k)
        rw [Option.none_or]
        have := f3 k
        rw [sortA_get I.nd] at this
        rw [I.look]
        exact this.symm
      · rw [eS', eO]
        show (if _ then _ else _ : List As).getLast? = some (sortA (runT ((runS P).1 ++ ordM (runS P).2)).1)
        rw [same]
        split
        · next h => exact h
        · simp
/-- the same states -/
theorem states_same (L : List Req) : statesT (schedM L) = statesT L := by
  have I := invS L
  obtain ⟨f1, f2, f3⟩ := runT_ord (runS L).1 I.ndO (sortA (runS L).2) I.nd.sort
  have same : sortA (runT ((runS L).1 ++ ordM (runS L).2)).1 = sortA (runT L).1 := sortA_one f2 I.ndT fun k => by
    have := f3 k
    rw [sortA_get I.nd] at this
    rw [I.look]
    exact this
  unfold statesT schedM
  rw [same]
  exact congrArg (· ++ [sortA (runT L).1]) (f1.trans I.found)
/-! in order -/
def stepI (s : Option (Option Kp × Bool)) (q : Req) : Option (Option Kp × Bool) := match s with
  | none => none
  | some (l, pf) => match q with
    | none => if pf then none else some (none, true)
    | some (d, r, _) => match l with
      | none => some (some (d, r), false)
      | some k => if ltK k (d, r) then some (some (d, r), false) else none
def runI (L : List Req) : Option (Option Kp × Bool) := L.foldl stepI (some (none, false))
theorem runI_snoc (L : List Req) (q : Req) : runI (L ++ [q]) = stepI (runI L) q := by unfold runI; rw [List.foldl_append]; rfl
def lastK (w : As) : Option Kp := (w.map (·.1)).getLast?
theorem runI_ord (M : List Req) (pf : Bool) (h : runI M = some (none, pf)) : ∀ w : As, (w.Pairwise fun x y => ltK x.1 y.1 = true) → runI (M ++ w.map wrM) = some (lastK w, if w = [] then pf else false) := by
  refine rev_ind (fun _ => by simpa [lastK] using h) fun w e ih hw => ?_
  obtain ⟨h1, _, h3⟩ := List.pairwise_append.mp hw
  rw [List.map_append, ← List.append_assoc, show [e].map wrM = [wrM e] from rfl, runI_snoc, ih h1]
  have le : lastK (w ++ [e]) = some e.1 := by unfold lastK; simp
  have ne : w ++ [e] ≠ [] := by simp
  rw [le, if_neg ne]
  show (match lastK w with | none => some (some (e.1.1, e.1.2), false) | some k => if ltK k (e.1.1, e.1.2) = true then some (some (e.1.1, e.1.2), false) else none) = _
  cases q : lastK w with
  | none => rfl
  | some k =>
    have m := List.mem_of_getLast? q
    obtain ⟨x, mx, rfl⟩ := List.mem_map.mp m
    have := h3 x mx e (by simp)
    show (if ltK x.1 e.1 = true then _ else none) = _
    rw [if_pos this]
structure InvI (P : List Req) : Prop where
  st : runI (runS P).1 = some (none, decide ((runS P).1 ≠ []))
theorem invI : ∀ P : List Req, InvI P := by
  refine rev_ind ⟨rfl⟩ fun P q I => ?_
  have eS := runS_snoc P q
  have J := invS P
  cases q with
  | some x =>
    obtain ⟨d, r, ws⟩ := x
    have eS' : runS (P ++ [some (d, r, ws)]) = ((runS P).1, putA (runS P).2 (d, r) ws) := eS
    exact ⟨by rw [eS']; exact I.st⟩
  | none =>
    have ro := runI_ord _ _ I.st (sortA (runS P).2) (sortA_strict J.nd)
    by_cases hl : ((runS P).1 ++ ordM (runS P).2).getLast? = some none
    · have hw : (runS P).2 = [] := Classical.byContradiction fun z => ordM_last z _ hl
      have eS' : runS (P ++ [none]) = ((runS P).1, []) := by
        rw [eS]
        show ((if ((runS P).1 ++ ordM (runS P).2).getLast? = some none then (runS P).1 ++ ordM (runS P).2 else (runS P).1 ++ ordM (runS P).2 ++ [none]), ([] : As)) = _
        rw [if_pos hl, hw, ordM_nil, List.append_nil]
      exact ⟨by rw [eS']; exact I.st⟩
    · have eS' : runS (P ++ [none]) = ((runS P).1 ++ ordM (runS P).2 ++ [none], []) := by
        rw [eS]
        show ((if ((runS P).1 ++ ordM (runS P).2).getLast? = some none then (runS P).1 ++ ordM (runS P).2 else (runS P).1 ++ ordM (runS P).2 ++ [none]), ([] : As)) = _
        rw [if_neg hl]
      refine ⟨?_⟩
      rw [eS', runI_snoc]
      show stepI (runI ((runS P).1 ++ (sortA (runS P).2).map wrM)) none = _
      rw [ro]
      have pf : (if sortA (runS P).2 = [] then decide ((runS P).1 ≠ []) else false) = false := by
        split
        · next z =>
          have hw : (runS P).2 = [] := List.length_eq_zero_iff.mp (by rw [← (sortA_perm _).length_eq, z]; rfl)
          refine decide_eq_false fun y => hl ?_
          rw [hw, ordM_nil, List.append_nil]
          exact J.out.resolve_left y
        · rfl
      rw [pf]
      show some (none, true) = some (none, decide ((runS P).1 ++ ordM (runS P).2 ++ [none] ≠ []))
      rw [decide_eq_true (by simp)]
theorem sched_ordered (L : List Req) : (runI (schedM L)).isSome = true := by
  have := runI_ord _ _ (invI L).st (sortA (runS L).2) (sortA_strict (invS L).nd)
  unfold schedM ordM
  rw [this]
  rfl
/-! once more changes nothing -/
theorem sched_ord : ∀ M : List Req, ∀ st, runI M = some st → (runS M).1 ++ (runS M).2.map wrM = M ∧ ((runS M).2.Pairwise fun x y => ltK x.1 y.1 = true) ∧ lastK (runS M).2 = st.1 ∧ (st.2 = true ↔ M.getLast? = some none) := by
  refine rev_ind (fun st h => by cases h; exact ⟨rfl, .nil, rfl, by simp⟩) fun M q ih st h => ?_
  rw [runI_snoc] at h
  cases hM : runI M with
  | none => rw [hM] at h; cases h
  | some s0 =>
    obtain ⟨i1, i2, i3, i4⟩ := ih s0 hM
    rw [hM] at h
    obtain ⟨l, pf⟩ := s0
    cases q with
    | some x =>
      obtain ⟨d, r, ws⟩ := x
      have hh : st = (some (d, r), false) ∧ (∀ k, l = some k → ltK k (d, r) = true) := by
        cases l with
        | none => exact ⟨(Option.some.inj h).symm, fun k z => by cases z⟩
        | some k =>
          have h' : (if ltK k (d, r) = true then some (some (d, r), false) else none) = some st := h
          by_cases g : ltK k (d, r) = true
          · rw [if_pos g] at h'
            exact ⟨(Option.some.inj h').symm, fun j z => by cases z; exact g⟩
          · rw [if_neg g] at h'
            cases h'
      obtain ⟨rfl, hk⟩ := hh
      have eS' : runS (M ++ [some (d, r, ws)]) = ((runS M).1, putA (runS M).2 (d, r) ws) := runS_snoc M _
      have allk : ∀ e ∈ (runS M).2, ltK e.1 (d, r) = true := fun e me => by
        have i3' : lastK (runS M).2 = l := i3
        unfold lastK at i3'
        rcases List.eq_nil_or_concat (runS M).2 with z | ⟨w0, y, z⟩
        · rw [z] at me
          cases me
        · rw [List.concat_eq_append] at z
          rw [z] at i3' i2 me
          have hy : l = some y.1 := by rw [← i3']; simp
          have h1 := hk _ hy
          rcases List.mem_append.mp me with m | m
          · have h2 := (List.pairwise_append.mp i2).2.2 e m y (by simp)
            have a1 := ltK_iff.mp h1
            have a2 := ltK_iff.mp h2
            exact ltK_iff.mpr (by dsimp only at a1 ⊢; omega)
          · have : e = y := by simpa using m
            rw [this]
            exact h1
      have hn : getA (runS M).2 (d, r) = none := by
        cases z : getA (runS M).2 (d, r) with
        | none => rfl
        | some v =>
          have h2 := getA_any (runS M).2 (d, r)
          rw [z] at h2
          obtain ⟨e, me, he⟩ := List.any_eq_true.mp h2
          have he := of_decide_eq_true he
          have := ltK_iff.mp (allk e me)
          rw [he] at this
          dsimp only at this
          omega
      have ep : putA (runS M).2 (d, r) ws = (runS M).2 ++ [((d, r), ws)] := by
        unfold putA
        rw [getA_any, hn, if_neg (by decide)]
      rw [eS', ep]
      refine ⟨?_, ?_, ?_, ?_⟩
      · rw [List.map_append, ← List.append_assoc, i1]
        rfl
      · rw [List.pairwise_append]
        exact ⟨i2, by simp, fun a ha b hb => by rw [show b = ((d, r), ws) from List.mem_singleton.mp hb]; exact allk a ha⟩
      · unfold lastK
        simp
      · simp
    | none =>
      have h' : (if pf = true then none else some (none, true)) = some st := h
      cases pf with
      | true => rw [if_pos rfl] at h'; cases h'
      | false =>
        rw [if_neg (by decide)] at h'
        have hst := (Option.some.inj h').symm
        subst hst
        have eo : ordM (runS M).2 = (runS M).2.map wrM := by unfold ordM; rw [sortA_of i2]
        have hl : ((runS M).1 ++ ordM (runS M).2).getLast? ≠ some none := by
          rw [eo, i1]
          intro z
          have := i4.mpr z
          cases this
        have eS' : runS (M ++ [none]) = ((runS M).1 ++ ordM (runS M).2 ++ [none], []) := by
          rw [runS_snoc]
          show ((if ((runS M).1 ++ ordM (runS M).2).getLast? = some none then (runS M).1 ++ ordM (runS M).2 else (runS M).1 ++ ordM (runS M).2 ++ [none]), ([] : As)) = _
          rw [if_neg hl]
        rw [eS', eo, i1]
        exact ⟨by simp, .nil, rfl, by simp⟩
theorem sched_twice (L : List Req) : schedM (schedM L) = schedM L := by
  have h := sched_ordered L
  cases hM : runI (schedM L) with
  | none => rw [hM] at h; cases h
  | some st =>
    obtain ⟨i1, i2, _, _⟩ := sched_ord _ st hM
    have eo : ordM (runS (schedM L)).2 = (runS (schedM L)).2.map wrM := by unfold ordM; rw [sortA_of i2]
    show (runS (schedM L)).1 ++ ordM (runS (schedM L)).2 = schedM L
    rw [eo, i1]
/-! flushes -/
def flushN (L : List Req) : Nat := (L.filter fun q => q.isNone).length
def stepC (s : Nat × Bool) (q : Req) : Nat × Bool := match q with
  | some _ => (s.1, true)
  | none => (if s.2 then s.1 + 1 else s.1, false)
def runC (L : List Req) : Nat × Bool := L.foldl stepC (0, true)
theorem runC_snoc (L : List Req) (q : Req) : runC (L ++ [q]) = stepC (runC L) q := by unfold runC; rw [List.foldl_append]; rfl
theorem flush_ord (M : List Req) (w : As) : flushN (M ++ ordM w) = flushN M := by
  unfold flushN
  rw [List.filter_append, List.length_append]
  have : (ordM w).filter (fun q => q.isNone) = [] := List.filter_eq_nil_iff.mpr fun q m => by
    obtain ⟨e, _, rfl⟩ := List.mem_map.mp m
    simp [wrM]
  rw [this]
  rfl
theorem invC : ∀ P : List Req, flushN (runS P).1 = (runC P).1 ∧ ((runC P).2 = true ↔ ((runS P).2 ≠ [] ∨ (runS P).1 = [])) := by
  refine rev_ind ⟨rfl, by simp [runC, runS]⟩ fun P q I => ?_
  have J := invS P
  cases q with
  | some x =>
    obtain ⟨d, r, ws⟩ := x
    have eS' : runS (P ++ [some (d, r, ws)]) = ((runS P).1, putA (runS P).2 (d, r) ws) := runS_snoc P _
    have eC : runC (P ++ [some (d, r, ws)]) = ((runC P).1, true) := runC_snoc P _
    rw [eS', eC]
    exact ⟨I.1, by simp [putA_ne]⟩
  | none =>
    have eC : runC (P ++ [none]) = (if (runC P).2 = true then (runC P).1 + 1 else (runC P).1, false) := runC_snoc P _
    by_cases hl : ((runS P).1 ++ ordM (runS P).2).getLast? = some none
    · have hw : (runS P).2 = [] := Classical.byContradiction fun z => ordM_last z _ hl
      have ho : (runS P).1 ≠ [] := fun z => by rw [hw, z, ordM_nil] at hl; cases hl
      have eS' : runS (P ++ [none]) = ((runS P).1, []) := by
        rw [runS_snoc]
        show ((if ((runS P).1 ++ ordM (runS P).2).getLast? = some none then (runS P).1 ++ ordM (runS P).2 else (runS P).1 ++ ordM (runS P).2 ++ [none]), ([] : As)) = _
        rw [if_pos hl, hw, ordM_nil, List.append_nil]
      have c2 : ¬ (runC P).2 = true := fun z => (I.2.mp z).elim (fun y => y hw) ho
      rw [eS', eC, if_neg c2]
      exact ⟨I.1, by simp [ho]⟩
    · have eS' : runS (P ++ [none]) = ((runS P).1 ++ ordM (runS P).2 ++ [none], []) := by
        rw [runS_snoc]
        show ((if ((runS P).1 ++ ordM (runS P).2).getLast? = some none then (runS P).1 ++ ordM (runS P).2 else (runS P).1 ++ ordM (runS P).2 ++ [none]), ([] : As)) = _
        rw [if_neg hl]
      have c2 : (runC P).2 = true := I.2.mpr (by
        by_cases h : (runS P).2 = []
        · refine .inr (Classical.byContradiction fun z => hl ?_)
          rw [h, ordM_nil, List.append_nil]
          exact J.out.resolve_left z
        · exact .inl h)
      rw [eS', eC, if_pos c2]
      refine ⟨?_, by simp⟩
      have : flushN ((runS P).1 ++ ordM (runS P).2 ++ [none]) = flushN ((runS P).1 ++ ordM (runS P).2) + 1 := by
        unfold flushN
        rw [List.filter_append, List.length_append]
        rfl
      rw [this, flush_ord, I.1]
theorem sched_flushes (L : List Req) : flushN (schedM L) = (runC L).1 := by
  unfold schedM
  rw [flush_ord, (invC L).1]
/-- where things stand -/
structure Ad where
  f_schedule : Addr
  d_schedule : FuncData
  f_ordered_writes : Addr
  d_ordered_writes : FuncData
  f_law_pot : Addr
  d_law_pot : FuncData
  f_law_next : Addr
  d_law_next : FuncData
  f_law_states : Addr
  d_law_states : FuncData
  f_law_in_order : Addr
  d_law_in_order : FuncData
  f_law : Addr
  d_law : FuncData
/-- what the top has written -/
structure Txt (K : PySem.W.Frag) (mg : Str → Option Value) (a : Ad) : Prop where
  F_schedule : Fun K "schedule" "schedule" s_schedule a.f_schedule a.d_schedule
  g_schedule : mg "schedule" = some (.ref a.f_schedule)
  d_schedule : Binds K a.d_schedule ["requests"] []
  F_ordered_writes : Fun K "ordered_writes" "ordered_writes" s_ordered_writes a.f_ordered_writes a.d_ordered_writes
  g_ordered_writes : mg "ordered_writes" = some (.ref a.f_ordered_writes)
  d_ordered_writes : Binds K a.d_ordered_writes ["written"] []
  F_law_pot : Fun K "_law_pot" "_law_pot" s_law_pot a.f_law_pot a.d_law_pot
  g_law_pot : mg "_law_pot" = some (.ref a.f_law_pot)
  d_law_pot : Binds K a.d_law_pot ["script"] []
  F_law_next : Fun K "_law_next" "_law_next" s_law_next a.f_law_next a.d_law_next
  g_law_next : mg "_law_next" = some (.ref a.f_law_next)
  d_law_next : Binds K a.d_law_next ["pot", "limit"] []
  F_law_states : Fun K "_law_states" "_law_states" s_law_states a.f_law_states a.d_law_states
  g_law_states : mg "_law_states" = some (.ref a.f_law_states)
  d_law_states : Binds K a.d_law_states ["requests"] []
  F_law_in_order : Fun K "_law_in_order" "_law_in_order" s_law_in_order a.f_law_in_order a.d_law_in_order
  g_law_in_order : mg "_law_in_order" = some (.ref a.f_law_in_order)
  d_law_in_order : Binds K a.d_law_in_order ["requests"] []
  F_law : Fun K "law" "law" s_law a.f_law a.d_law
  g_law : mg "law" = some (.ref a.f_law)
  d_law : Binds K a.d_law ["script"] []
  n_sorted : mg "sorted" = none
  n_list : mg "list" = none
  n_int : mg "int" = none
  n_abs : mg "abs" = none
  n_len : mg "len" = none
  n_range : mg "range" = none
  n_isinstance : mg "isinstance" = none
/-! the promises -/
/-! the draws: a list of the script, a place in it, a rest, a seed -/
/-- at p stands a pot, its script's list at l -/
def Pot (H : Hp) (p l : Addr) : Prop := ∃ (ns : List Int) (i acc seed : Int), H p = some (.lst [.ref l, .int i, .int acc, .int seed]) ∧ H l = some (.lst (ns.map V.int)) ∧ 0 ≤ i ∧ 0 ≤ acc ∧ 0 ≤ seed ∧ seed < 2147483647
theorem Pot.ne {H : Hp} {p l : Addr} (h : Pot H p l) : l ≠ p := by
  obtain ⟨ns, i, acc, seed, h1, h2, _⟩ := h
  refine ne_of h2 h1 fun e => ?_
  have e1 := HO.lst.inj e
  cases ns with
  | nil => cases e1
  | cons a r => rw [List.map_cons] at e1; injection e1 with e2 _; cases e2
theorem Pot.same {H H' : Hp} {p l : Addr} (h : Pot H p l) (s : Same H H') : Pot H' p l := by
  obtain ⟨ns, i, acc, seed, h1, h2, h3⟩ := h
  exact ⟨ns, i, acc, seed, s _ _ h1, s _ _ h2, h3⟩
theorem Pot.only {H H' : Hp} {p l q : Addr} (h : Pot H p l) (s : Only q H H') (n1 : p ≠ q) (n2 : l ≠ q) : Pot H' p l := by
  obtain ⟨ns, i, acc, seed, h1, h2, h3⟩ := h
  exact ⟨ns, i, acc, seed, by rw [s _ n1]; exact h1, by rw [s _ n2]; exact h2, h3⟩
/-- a draw's answer below the limit -/
def sp_law_next (K : PySem.W.Frag) (a : Ad) : Sp := fun vs H Q _ => ∃ (p l : Addr) (m : Int), vs = [.ref p, .int m] ∧ Pot H p l ∧ 0 < m ∧ m < 1099511627776 ∧
  ∀ (v : Int) (H' : Hp), 0 ≤ v → v < m → Pot H' p l → Only p H H' → Q (.int v) H'
theorem sp_law_next_len {K : PySem.W.Frag} {a : Ad} {vs : List V} {H : Hp} {Q : VK} {E : XK} (h : sp_law_next K a vs H Q E) : vs.length = 2 := by
  obtain ⟨p, l, m, rfl, _⟩ := h
  rfl
def sp_law_pot (K : PySem.W.Frag) (a : Ad) : Sp := fun vs H Q _ => ∃ (s : Addr) (ns : List Int), vs = [.ref s] ∧ SqL K H s (ns.map V.int) ∧ ns.length ≤ 1000 ∧
  ∀ (p l : Addr) (H' : Hp), H p = none → H l = none → Same H H' → Pot H' p l → Q (.ref p) H'
theorem sp_law_pot_len {K : PySem.W.Frag} {a : Ad} {vs : List V} {H : Hp} {Q : VK} {E : XK} (h : sp_law_pot K a vs H Q E) : vs.length = 1 := by
  obtain ⟨s, ns, rfl, _⟩ := h
  rfl
/-- the law itself: True at every script -/
def sp_law0 (K : PySem.W.Frag) : Sp := fun vs H Q _ => ∃ (s : Addr) (ns : List Int), vs = [.ref s] ∧ SqL K H s (ns.map V.int) ∧ ns.length ≤ 63 ∧ ∀ H', Q (.bl true) H'
def sp_law (K : PySem.W.Frag) (a : Ad) : Sp := sp_law0 K
theorem sp_law_len {K : PySem.W.Frag} {a : Ad} {vs : List V} {H : Hp} {Q : VK} {E : XK} (h : sp_law K a vs H Q E) : vs.length = 1 := by
  obtain ⟨s, ns, rfl, _⟩ := h
  rfl
theorem int_item {ns : List Int} {i : Nat} {y : V} (h : (ns.map V.int)[i]? = some y) : ∃ z, ns[i]? = some z ∧ y = V.int z := by
  rw [List.getElem?_map] at h
  cases e : ns[i]? with
  | none => rw [e] at h; cases h
  | some z => rw [e] at h; exact ⟨z, rfl, (Option.some.inj h).symm⟩
/-- the pot's own object is no list of refs alone, no tuple -/
theorem Pot.list {H : Hp} {p l : Addr} (h : Pot H p l) : ∃ i acc seed : Int, H p = some (.lst [.ref l, .int i, .int acc, .int seed]) := by
  obtain ⟨ns, i, acc, seed, h1, _⟩ := h
  exact ⟨i, acc, seed, h1⟩
theorem But.seq {K : PySem.W.Frag} {H H' : Hp} {p a : Addr} {xs : List V} (b : But p H H') (n : a ≠ p) (h : SqL K H a xs) : SqL K H' a xs := by
  rcases h with (h | ⟨o, h⟩) | h
  · exact .inl (.inl (b _ _ h n))
  · exact .inl (.inr ⟨o, b _ _ h n⟩)
  · exact .inr h
theorem But.tup {K : PySem.W.Frag} {H H' : Hp} {p l a : Addr} {xs : List V} (P : Pot H p l) (b : But p H H') (h : SqT K H a xs) : SqT K H' a xs := by
  obtain ⟨i, acc, seed, hp⟩ := P.list
  rcases h with (h | ⟨o, h⟩) | h
  · exact .inl (.inl (b _ _ h (ne_of h hp (by intro q; cases q))))
  · exact .inl (.inr ⟨o, b _ _ h (ne_of h hp (by intro q; cases q))⟩)
  · exact .inr h
theorem Pot.noList {H : Hp} {p l a : Addr} (P : Pot H p l) {xs : List V} (h : H a = some (.lst xs)) (hx : ∀ i acc seed : Int, xs ≠ [.ref l, .int i, .int acc, .int seed]) : a ≠ p := by
  obtain ⟨i, acc, seed, hp⟩ := P.list
  exact ne_of h hp fun q => hx i acc seed (HO.lst.inj q)
theorem Pot.off {H : Hp} {p l q : Addr} (P : Pot H p l) (h : H q = none) : p ≠ q ∧ l ≠ q := by
  obtain ⟨_, _, _, _, g1, g2, _⟩ := P
  exact ⟨ne_of_none g1 h, ne_of_none g2 h⟩
theorem Pot.new {H : Hp} {p l q : Addr} {o : HO} (P : Pot H p l) (h : H q = none) : Pot (upd H q o) p l := P.same (Same.new h)
/-! requests in the heap -/
structure RqO where
  t : Addr
  s : Addr
  q : Req
abbrev rqR (e : RqO) : V := .ref e.t
def RqAt (H : Hp) (e : RqO) : Prop := match e.q with
  | none => H e.t = some (.tup [.str "flush"])
  | some (d, r, ws) => H e.t = some (.tup [.str "write", .int d, .int r, .ref e.s]) ∧ H e.s = some (.lst (ws.map V.int))
theorem RqAt.same {H H' : Hp} {e : RqO} (h : RqAt H e) (s : Same H H') : RqAt H' e := by
  unfold RqAt at h ⊢
  split at h
  · exact s _ _ h
  · exact ⟨s _ _ h.1, s _ _ h.2⟩
def RqL (K : PySem.W.Frag) (H : Hp) (D : Addr) (L : List RqO) : Prop := SqL K H D (L.map rqR) ∧ ∀ e ∈ L, RqAt H e
theorem RqL.same {K : PySem.W.Frag} {H H' : Hp} {D : Addr} {L : List RqO} (h : RqL K H D L) (s : Same H H') : RqL K H' D L := ⟨s.seq h.1, fun e m => (h.2 e m).same s⟩
theorem rq_item {L : List RqO} {i : Nat} {y : V} (h : (L.map rqR)[i]? = some y) : ∃ e, L[i]? = some e ∧ y = rqR e := by
  rw [List.getElem?_map] at h
  cases q : L[i]? with
  | none => rw [q] at h; cases h
  | some e => rw [q] at h; exact ⟨e, rfl, (Option.some.inj h).symm⟩
theorem rq_get {L : List RqO} {i : Nat} {e : RqO} (h : L[i]? = some e) : (L.map rqR)[i]? = some (rqR e) := by rw [List.getElem?_map, h]; rfl
/-- as data -/
def rqD (q : Req) : PyData := match q with
  | none => .tuple [.str "flush"]
  | some (d, r, ws) => .tuple [.str "write", .int d, .int r, .list (ws.map .int)]
theorem alike_ints2 : ∀ ws : List Int, PySem.W.alikeAll (ws.map PyData.int) (ws.map PyData.int) = true
  | [] => by simp [PySem.W.alikeAll]
  | w :: ws => by simp [PySem.W.alikeAll, PySem.W.alike, alike_ints2 ws]
theorem alikeAll_self {α : Type} (f : α → PyData) (h : ∀ x, PySem.W.alike (f x) (f x) = true) : ∀ l : List α, PySem.W.alikeAll (l.map f) (l.map f) = true
  | [] => by simp [PySem.W.alikeAll]
  | x :: l => by
    rw [List.map_cons]
    unfold PySem.W.alikeAll
    rw [h x, alikeAll_self f h l]
    rfl
theorem rq_alike (q : Req) : PySem.W.alike (rqD q) (rqD q) = true := by
  cases q with
  | none => simp [rqD, PySem.W.alike, PySem.W.alikeAll]
  | some x =>
    obtain ⟨d, r, ws⟩ := x
    simp [rqD, PySem.W.alike, PySem.W.alikeAll, alike_ints2]
theorem rqs_eqv (L : List Req) : PyData.eqv (.list (L.map rqD)) (.list (L.map rqD)) = true := PySem.W.eqv_refl_alike _ (by unfold PySem.W.alike; exact alikeAll_self rqD rq_alike L)
theorem strOk_write : PyData.strOk (Str.ofString "write") = true := by decide +kernel
theorem strOk_flush : PyData.strOk (Str.ofString "flush") = true := by decide +kernel
theorem rqs_data : ∀ L : List Req, PyData.canLayAll0 (L.map rqD) = true ∧ PyData.depthAll (L.map rqD) ≤ 2
  | [] => ⟨rfl, Nat.zero_le _⟩
  | q :: L => by
    obtain ⟨h1, h2⟩ := rqs_data L
    cases q with
    | none =>
      refine ⟨by simp [PyData.canLayAll0, PyData.canLay0, rqD, h1, strOk_flush], ?_⟩
      simp only [List.map_cons, PyData.depthAll, rqD, PyData.depth]
      omega
    | some x =>
      obtain ⟨d, r, ws⟩ := x
      refine ⟨by simp [PyData.canLayAll0, PyData.canLay0, rqD, canLayAll_ints, h1, strOk_write], ?_⟩
      simp only [List.map_cons, PyData.depthAll, rqD, PyData.depth, depthAll_ints]
      omega
theorem rqs_shaped (L : List Req) : SeqAt.shaped (.list (L.map rqD)) = true := by
  obtain ⟨h1, h2⟩ := rqs_data L
  have e : PyData.depth (.list (L.map rqD)) = PyData.depthAll (L.map rqD) + 1 := by simp only [PyData.depth]
  unfold SeqAt.shaped
  rw [Bool.and_eq_true]
  exact ⟨by simp only [PyData.canLay0]; exact h1, decide_eq_true (by rw [e]; omega)⟩
theorem dp_rq {K : PySem.W.Frag} {H : Hp} {e : RqO} (h : RqAt H e) : Dp K H (.ref e.t) (rqD e.q) := by
  unfold RqAt at h
  unfold rqD
  split at h
  · exact .tup (SqT.of h) (.cons (.str _) .nil)
  · exact .tup (SqT.of h.1) (.cons (.str _) (.cons (.int _) (.cons (.int _) (.cons (dp_ints (SqL.of h.2)) .nil))))
theorem dp_rqs {K : PySem.W.Frag} {H : Hp} {D : Addr} {L : List RqO} (h : RqL K H D L) : Dp K H (.ref D) (.list ((L.map (·.q)).map rqD)) := by
  refine .lst h.1 ?_
  have : ∀ M : List RqO, (∀ e ∈ M, RqAt H e) → DpAll K H (M.map rqR) ((M.map (·.q)).map rqD) := by
    intro M
    induction M with
    | nil => intro _; exact .nil
    | cons e M ih => exact fun g => .cons (dp_rq (g e (by simp))) (ih fun u m => g u (List.mem_cons_of_mem _ m))
  exact this L h.2
/-! a dict from places to sectors -/
abbrev Dw := List (Kp × Addr × List Int)
def kk (k : Kp) : List Key := [Sum.inl k.1, Sum.inl k.2]
theorem kk_inj {a b : Kp} (h : kk a = kk b) : a = b := by
  unfold kk at h
  injection h with h1 h2
  injection h2 with h2 _
  exact Prod.ext (Sum.inl.inj h1) (Sum.inl.inj h2)
def dwK (w : Dw) : List (List Key × V) := w.map fun e => (kk e.1, V.ref e.2.1)
def asM (w : Dw) : As := w.map fun e => (e.1, e.2.2)
def putW (w : Dw) (k : Kp) (x : Addr × List Int) : Dw := if (w.any fun e => decide (e.1 = k)) = true then w.map (fun e => if e.1 = k then (e.1, x) else e) else w ++ [(k, x)]
theorem kv_any (w : Dw) (k : Kp) : ((dwK w).any fun kv => decide (kv.1 = kk k)) = w.any fun e => decide (e.1 = k) := by
  unfold dwK
  rw [List.any_map]
  refine congrArg (fun f => w.any f) (funext fun e => ?_)
  show decide (kk e.1 = kk k) = decide (e.1 = k)
  by_cases h : e.1 = k
  · rw [decide_eq_true h, decide_eq_true (by rw [h])]
  · rw [decide_eq_false h, decide_eq_false fun z => h (kk_inj z)]
theorem kv_putW (w : Dw) (k : Kp) (x : Addr × List Int) : putK (dwK w) (kk k) (V.ref x.1) = dwK (putW w k x) := by
  unfold putK putW
  rw [kv_any]
  split
  · unfold dwK
    rw [List.map_map, List.map_map]
    refine List.map_congr_left fun e _ => ?_
    show (if kk e.1 = kk k then (kk e.1, V.ref x.1) else (kk e.1, V.ref e.2.1)) = (kk (if e.1 = k then (e.1, x) else e).1, V.ref (if e.1 = k then (e.1, x) else e).2.1)
    by_cases h : e.1 = k
    · rw [if_pos (by rw [h]), if_pos h]
    · rw [if_neg fun z => h (kk_inj z), if_neg h]
  · unfold dwK
    rw [List.map_append]
    rfl
theorem as_putW (w : Dw) (k : Kp) (x : Addr × List Int) : asM (putW w k x) = putA (asM w) k x.2 := by
  unfold putW putA
  have e : ((asM w).any fun e => decide (e.1 = k)) = w.any fun e => decide (e.1 = k) := by unfold asM; rw [List.any_map]; rfl
  rw [e]
  split
  · unfold asM
    rw [List.map_map, List.map_map]
    refine List.map_congr_left fun e _ => ?_
    show ((if e.1 = k then (e.1, x) else e).1, (if e.1 = k then (e.1, x) else e).2.2) = if e.1 = k then (e.1, x.2) else (e.1, e.2.2)
    split <;> rfl
  · unfold asM
    rw [List.map_append]
    rfl
theorem putW_mem {w : Dw} {k : Kp} {x : Addr × List Int} {e : Kp × Addr × List Int} (m : e ∈ putW w k x) : e.2 = x ∨ e ∈ w := by
  unfold putW at m
  split at m
  · obtain ⟨y, my, rfl⟩ := List.mem_map.mp m
    split
    · exact .inl rfl
    · exact .inr my
  · rcases List.mem_append.mp m with m | m
    · exact .inr m
    · have : e = (k, x) := by simpa using m
      rw [this]
      exact .inl rfl
theorem valV_W {w : Dw} (n : (w.map (·.1)).Nodup) {e : Kp × Addr × List Int} (m : e ∈ w) : valV (dwK w) (kk e.1) = some (V.ref e.2.1) := by
  induction w with
  | nil => cases m
  | cons y w ih =>
    rw [List.map_cons, List.nodup_cons] at n
    rcases List.mem_cons.mp m with z | z
    · subst z
      exact valV_pos rfl
    · have : ¬ kk y.1 = kk e.1 := fun g => n.1 (List.mem_map.mpr ⟨e, z, (kk_inj g).symm⟩)
      rw [show dwK (y :: w) = (kk y.1, V.ref y.2.1) :: dwK w from rfl, valV_neg this]
      exact ih n.2 z
theorem as_keys (w : Dw) : (asM w).map (·.1) = w.map (·.1) := by unfold asM; rw [List.map_map]; rfl
/-- the dict stands at d -/
def DwAt (H : Hp) (d : Addr) (w : Dw) : Prop := H d = some (.dT (dwK w)) ∧ ∀ e ∈ w, H e.2.1 = some (.lst (e.2.2.map V.int))
theorem DwAt.same {H H' : Hp} {d : Addr} {w : Dw} (h : DwAt H d w) (s : Same H H') : DwAt H' d w := ⟨s _ _ h.1, fun e m => s _ _ (h.2 e m)⟩
def sp_ordered_writes (K : PySem.W.Frag) (a : Ad) : Sp := fun vs H Q _ => ∃ (d : Addr) (w : Dw), vs = [.ref d] ∧ DwAt H d w ∧ Nd (asM w) ∧ w.length ≤ 500 ∧ (∀ e ∈ w, e.2.2.length ≤ 500) ∧
  ∀ (D : Addr) (M : List RqO) (H' : Hp), Same H H' → H D = none → H' D = some (.lst (M.map rqR)) → (∀ e ∈ M, RqAt H' e ∧ H e.s = none ∧ e.s ≠ D) → M.map (·.q) = ordM (asM w) → Q (.ref D) H'
theorem sp_ordered_writes_len {K : PySem.W.Frag} {a : Ad} {vs : List V} {H : Hp} {Q : VK} {E : XK} (h : sp_ordered_writes K a vs H Q E) : vs.length = 1 := by
  obtain ⟨d, w, rfl, _⟩ := h
  rfl
def Short (L : List RqO) : Prop := ∀ e ∈ L, ∀ d r ws, e.q = some (d, r, ws) → ws.length ≤ 500
def sp_schedule (K : PySem.W.Frag) (a : Ad) : Sp := fun vs H Q _ => ∃ (R : Addr) (L : List RqO), vs = [.ref R] ∧ RqL K H R L ∧ L.length ≤ 400 ∧ Short L ∧
  ∀ (D : Addr) (M : List RqO) (H' : Hp), Same H H' → H D = none → H' D = some (.lst (M.map rqR)) → (∀ e ∈ M, RqAt H' e) → M.map (·.q) = schedM (L.map (·.q)) → Q (.ref D) H'
theorem sp_schedule_len {K : PySem.W.Frag} {a : Ad} {vs : List V} {H : Hp} {Q : VK} {E : XK} (h : sp_schedule K a vs H Q E) : vs.length = 1 := by
  obtain ⟨R, L, rfl, _⟩ := h
  rfl
/-- states as data -/
def enD (e : Kp × List Int) : PyData := .tuple [.tuple [.int e.1.1, .int e.1.2], .list (e.2.map .int)]
def stD (w : As) : PyData := .list (w.map enD)
def sp_law_states (K : PySem.W.Frag) (a : Ad) : Sp := fun vs H Q _ => ∃ (R : Addr) (L : List RqO), vs = [.ref R] ∧ RqL K H R L ∧ L.length ≤ 400 ∧ Short L ∧
  ∀ (D : Addr) (H' : Hp), Same H H' → Dp K H' (.ref D) (.list ((statesT (L.map (·.q))).map stD)) → Q (.ref D) H'
theorem sp_law_states_len {K : PySem.W.Frag} {a : Ad} {vs : List V} {H : Hp} {Q : VK} {E : XK} (h : sp_law_states K a vs H Q E) : vs.length = 1 := by
  obtain ⟨R, L, rfl, _⟩ := h
  rfl
def sp_law_in_order (K : PySem.W.Frag) (a : Ad) : Sp := fun vs H Q _ => ∃ (R : Addr) (L : List RqO), vs = [.ref R] ∧ RqL K H R L ∧ L.length ≤ 900 ∧ (runI (L.map (·.q))).isSome = true ∧ ∀ H', Same H H' → Q (.bl true) H'
theorem sp_law_in_order_len {K : PySem.W.Frag} {a : Ad} {vs : List V} {H : Hp} {Q : VK} {E : XK} (h : sp_law_in_order K a vs H Q E) : vs.length = 1 := by
  obtain ⟨R, L, rfl, _⟩ := h
  rfl
theorem en_alike (x y : Kp × List Int) : PySem.W.alike (enD x) (enD x) = true := by simp [enD, PySem.W.alike, PySem.W.alikeAll, alike_ints2]
theorem sts_eqv (F : List As) : PyData.eqv (.list (F.map stD)) (.list (F.map stD)) = true := PySem.W.eqv_refl_alike _ (by
  unfold PySem.W.alike
  refine alikeAll_self stD (fun w => ?_) F
  unfold stD PySem.W.alike
  exact alikeAll_self enD (fun e => en_alike e e) w)
theorem ens_data : ∀ w : As, PyData.canLayAll0 (w.map enD) = true ∧ PyData.depthAll (w.map enD) ≤ 2
  | [] => ⟨rfl, Nat.zero_le _⟩
  | e :: w => by
    obtain ⟨h1, h2⟩ := ens_data w
    refine ⟨by simp [PyData.canLayAll0, PyData.canLay0, enD, canLayAll_ints, h1], ?_⟩
    simp only [List.map_cons, PyData.depthAll, enD, PyData.depth, depthAll_ints]
    omega
theorem sts_data : ∀ F : List As, PyData.canLayAll0 (F.map stD) = true ∧ PyData.depthAll (F.map stD) ≤ 3
  | [] => ⟨rfl, Nat.zero_le _⟩
  | w :: F => by
    obtain ⟨h1, h2⟩ := sts_data F
    obtain ⟨g1, g2⟩ := ens_data w
    refine ⟨by simp [PyData.canLayAll0, PyData.canLay0, stD, g1, h1], ?_⟩
    simp only [List.map_cons, PyData.depthAll, stD, PyData.depth]
    omega
theorem st_shaped (w : As) : SeqAt.shaped (stD w) = true := by
  obtain ⟨h1, h2⟩ := ens_data w
  have e : PyData.depth (stD w) = PyData.depthAll (w.map enD) + 1 := by simp only [stD, PyData.depth]
  unfold SeqAt.shaped
  rw [Bool.and_eq_true]
  exact ⟨by simp only [stD, PyData.canLay0]; exact h1, decide_eq_true (by rw [e]; omega)⟩
theorem sts_shaped (F : List As) : SeqAt.shaped (.list (F.map stD)) = true := by
  obtain ⟨h1, h2⟩ := sts_data F
  have e : PyData.depth (.list (F.map stD)) = PyData.depthAll (F.map stD) + 1 := by simp only [PyData.depth]
  unfold SeqAt.shaped
  rw [Bool.and_eq_true]
  exact ⟨by simp only [PyData.canLay0]; exact h1, decide_eq_true (by rw [e]; omega)⟩
/-- states are one as data only if they are one -/
theorem ens_eqv : ∀ w u : As, PyData.eqvAll (w.map enD) (u.map enD) = decide (w = u)
  | [], [] => by simp [PyData.eqvAll]
  | [], _ :: _ => by simp [PyData.eqvAll]
  | _ :: _, [] => by simp [PyData.eqvAll]
  | x :: w, y :: u => by
    have h := eqvAll_ints x.2 y.2
    have e1 : PyData.eqv (enD x) (enD y) = decide (x = y) := by
      obtain ⟨⟨a, b⟩, c⟩ := x
      obtain ⟨⟨a', b'⟩, c'⟩ := y
      simp only [enD, PyData.eqv, PyData.eqvAll, eqvAll_ints]
      by_cases h1 : a = a' <;> by_cases h2 : b = b' <;> by_cases h3 : c = c' <;> simp [h1, h2, h3]
    simp only [List.map_cons, PyData.eqvAll, e1, ens_eqv w u]
    by_cases h1 : x = y <;> by_cases h2 : w = u <;> simp [h1, h2]
theorem st_eqv (w u : As) : PyData.eqv (stD w) (stD u) = decide (w = u) := by
  unfold stD
  simp only [PyData.eqv]
  exact ens_eqv w u
/-! the sorted keys, with what stands at them -/
abbrev Gw := Addr × Kp × Addr × List Int
def gK (g : Gw) : Addr × List Key := (g.1, kk g.2.1)
def gA (g : Gw) : Kp × List Int := (g.2.1, g.2.2.2)
theorem zipG : ∀ (qs : List (Addr × List Key)) (w : Dw), qs.map (·.2) = (dwK w).map (·.1) → ∃ G : List Gw, G.map gK = qs ∧ G.map (·.2) = w
  | [], [], _ => ⟨[], rfl, rfl⟩
  | [], _ :: _, h => nomatch h
  | _ :: _, [], h => nomatch h
  | q :: qs, e :: w, h => by
    have h1 : q.2 = kk e.1 := (List.cons.inj h).1
    obtain ⟨G, g1, g2⟩ := zipG qs w (List.cons.inj h).2
    refine ⟨(q.1, e) :: G, ?_, by rw [List.map_cons, g2]⟩
    rw [List.map_cons, g1]
    show (q.1, kk e.1) :: qs = q :: qs
    rw [← h1]
theorem le_kk (x y : Gw) : PySem.W.dataLe false keyD (gK x) (gK y) = leA (gA x) (gA y) := by
  show (!PySem.W.dataLt (.tuple [.int y.2.1.1, .int y.2.1.2]) (.tuple [.int x.2.1.1, .int x.2.1.2])) = _
  rw [PySem.W.dataLt_ii]
  rfl
theorem ordW (qs : List (Addr × List Key)) (w : Dw) (h : qs.map (·.2) = (dwK w).map (·.1)) : ∃ S : List Gw, ((qs.mergeSort (PySem.W.dataLe false keyD)).map fun e => V.ref e.1) = S.map (fun g => V.ref g.1) ∧
    (∀ g ∈ S, gK g ∈ qs ∧ g.2 ∈ w) ∧ S.map (fun g => wrM (gA g)) = ordM (asM w) ∧ S.length = w.length := by
  obtain ⟨G, g1, g2⟩ := zipG qs w h
  refine ⟨G.mergeSort fun x y => leA (gA x) (gA y), ?_, fun g m => ?_, ?_, ?_⟩
  · rw [← g1, ← List.map_mergeSort (r := fun x y => leA (gA x) (gA y)) (fun a _ b _ => (le_kk a b).symm), List.map_map]
    rfl
  · have m := (List.mergeSort_perm _ _).mem_iff.mp m
    exact ⟨by rw [← g1]; exact List.mem_map.mpr ⟨g, m, rfl⟩, by rw [← g2]; exact List.mem_map.mpr ⟨g, m, rfl⟩⟩
  · have e : asM w = G.map gA := by
      unfold asM
      rw [← g2, List.map_map]
      rfl
    unfold ordM sortA
    rw [e, ← List.map_mergeSort (r := fun x y => leA (gA x) (gA y)) (fun a _ b _ => rfl), List.map_map]
    rfl
  · rw [List.length_mergeSort, ← g2, List.length_map]
theorem RqAt.put {H : Hp} {e : RqO} {p : Addr} {o : HO} (h : RqAt H e) (nt : ∀ xs, H p ≠ some (.tup xs)) (ns : e.s ≠ p) : RqAt (upd H p o) e := by
  unfold RqAt at h ⊢
  split at h
  · rw [upd_ne (fun z => nt _ (by rw [← z]; exact h))]; exact h
  · rw [upd_ne (fun z => nt _ (by rw [← z]; exact h.1)), upd_ne ns]; exact h
theorem RqAt.putD {H : Hp} {e : RqO} {p : Addr} {kvs : List (List Key × V)} {o : HO} (h : RqAt H e) (hp : H p = some (.dT kvs)) : RqAt (upd H p o) e := by
  unfold RqAt at h ⊢
  split at h
  · rw [upd_ne (ne_of h hp (by intro z; cases z))]; exact h
  · rw [upd_ne (ne_of h.1 hp (by intro z; cases z)), upd_ne (ne_of h.2 hp (by intro z; cases z))]; exact h
theorem rq_shaped (q : Req) : SeqAt.shaped (rqD q) = true := by
  obtain ⟨h1, h2⟩ := rqs_data [q]
  simp only [List.map_cons, List.map_nil, PyData.canLayAll0, PyData.depthAll, Bool.and_true] at h1 h2
  unfold SeqAt.shaped
  rw [Bool.and_eq_true]
  exact ⟨h1, decide_eq_true (by omega)⟩
theorem rq_flush (q : Req) : PyData.eqv (rqD q) (rqD none) = q.isNone := by
  cases q with
  | none => exact PySem.W.eqv_refl_alike _ (rq_alike none)
  | some z =>
    obtain ⟨x, y, ws⟩ := z
    simp [rqD, PyData.eqv, PyData.eqvAll]
theorem runS_len : ∀ P : List Req, (runS P).1.length + (runS P).2.length ≤ P.length := by
  refine rev_ind (Nat.le_refl _) fun P q ih => ?_
  rw [runS_snoc, List.length_append]
  cases q with
  | none =>
    show (if ((runS P).1 ++ ordM (runS P).2).getLast? = some none then (runS P).1 ++ ordM (runS P).2 else (runS P).1 ++ ordM (runS P).2 ++ [none]).length + 0 ≤ P.length + 1
    split
    · rw [List.length_append, ordM_len]; omega
    · rw [List.length_append, List.length_append, ordM_len, List.length_singleton]; omega
  | some x =>
    have := putA_len (runS P).2 (x.1, x.2.1) x.2.2
    show (runS P).1.length + (putA (runS P).2 (x.1, x.2.1) x.2.2).length ≤ P.length + 1
    omega
/-! a state of the disks -/
theorem lt_self (d : PyData) : PySem.W.dataLt d d = false := by
  first
  | exact PyProof.Rows.lex_irrefl _
  | exact PySem.W.lex_irrefl _
theorem alike_ints : ∀ xs ys : List Int, PySem.W.alikeAll (xs.map PyData.int) (ys.map PyData.int) = true
  | [], _ => by simp [PySem.W.alikeAll]
  | _ :: _, [] => by simp [PySem.W.alikeAll]
  | x :: xs, y :: ys => by simp [PySem.W.alikeAll, PySem.W.alike, alike_ints xs ys]
theorem en_alike2 (x y : Kp × List Int) : PySem.W.alike (enD x) (enD y) = true := by simp [enD, PySem.W.alike, PySem.W.alikeAll, alike_ints]
theorem en_lt {x y : Kp × List Int} (h : x.1 ≠ y.1) : PySem.W.dataLt (enD x) (enD y) = ltK x.1 y.1 := by
  unfold enD
  rw [PySem.W.dataLt_pair (by simp [PySem.W.alike, PySem.W.alikeAll]) (by simp [PySem.W.alike, alike_ints]), PySem.W.dataLt_ii]
  have : PyData.eqv (.tuple [.int x.1.1, .int x.1.2]) (.tuple [.int y.1.1, .int y.1.2]) = false := by
    cases q : PyData.eqv (.tuple [.int x.1.1, .int x.1.2]) (.tuple [.int y.1.1, .int y.1.2]) with
    | false => rfl
    | true =>
      simp [PyData.eqv, PyData.eqvAll] at q
      exact absurd (Prod.ext q.1 q.2) h
  rw [this, if_neg (by decide)]
  rfl
structure EnO where
  t : Addr
  q : Addr
  l : Addr
  e : Kp × List Int
abbrev enR (x : EnO) : V := .ref x.t
def EnAt (H : Hp) (x : EnO) : Prop := H x.t = some (.tup [.ref x.q, .ref x.l]) ∧ H x.q = some (.tup [.int x.e.1.1, .int x.e.1.2]) ∧ H x.l = some (.lst (x.e.2.map V.int))
theorem EnAt.same {H H' : Hp} {x : EnO} (h : EnAt H x) (s : Same H H') : EnAt H' x := ⟨s _ _ h.1, s _ _ h.2.1, s _ _ h.2.2⟩
theorem EnAt.off {H : Hp} {x : EnO} {d : Addr} {o u : HO} (h : EnAt H x) (hd : H d = some u) (n1 : ∀ xs, u ≠ .tup xs) (n2 : x.l ≠ d) : EnAt (upd H d o) x := by
  refine ⟨?_, ?_, ?_⟩
  · rw [upd_ne (ne_of h.1 hd fun z => n1 _ z.symm)]; exact h.1
  · rw [upd_ne (ne_of h.2.1 hd fun z => n1 _ z.symm)]; exact h.2.1
  · rw [upd_ne n2]; exact h.2.2
def rdI : V → PyData
  | .int i => .int i
  | _ => .none
def rdE (H : Hp) : V → PyData
  | .ref t => match H t with
    | some (.tup [.ref q, .ref l]) => (match H q, H l with
      | some (.tup xs), some (.lst ys) => .tuple [.tuple (xs.map rdI), .list (ys.map rdI)]
      | _, _ => .none)
    | _ => .none
  | _ => .none
theorem rdE_at {H : Hp} {x : EnO} (h : EnAt H x) : rdE H (enR x) = enD x.e := by
  have e : (x.e.2.map V.int).map rdI = x.e.2.map PyData.int := by rw [List.map_map]; rfl
  show (match H x.t with
    | some (.tup [.ref q, .ref l]) => (match H q, H l with
      | some (.tup xs), some (.lst ys) => PyData.tuple [.tuple (xs.map rdI), .list (ys.map rdI)]
      | _, _ => .none)
    | _ => .none) = _
  rw [h.1]
  dsimp only
  rw [h.2.1, h.2.2]
  dsimp only
  rw [e]
  rfl
theorem dp_en {K : PySem.W.Frag} {H : Hp} {x : EnO} (h : EnAt H x) : Dp K H (enR x) (enD x.e) :=
  .tup (SqT.of h.1) (.cons (.tup (SqT.of h.2.1) (.cons (.int _) (.cons (.int _) .nil))) (.cons (dp_ints (SqL.of h.2.2)) .nil))
theorem en_depth (e : Kp × List Int) : (enD e).depth ≤ 40 := by
  simp only [enD, PyData.depth, PyData.depthAll, depthAll_ints]
  decide
theorem read_state {K : PySem.W.Frag} {v0 v2 v3 v4 v5 : Option V} {H : Hp} {d : Addr} {w : Dw} {Q : VK} (hd : DwAt H d w) (nd : Nd (asM w)) (lw : w.length ≤ 400)
    (hQ : ∀ (p : Addr) (E : List EnO) (H' : Hp), Same H H' → H p = none → H' p = some (.lst (E.map enR)) → (∀ e ∈ E, EnAt H' e ∧ ∃ x ∈ w, e.l = x.2.1) → E.map (·.e) = sortA (asM w) → Q (.ref p) H') :
    tCB (rSortedD K) (tCons (tLockE (tLc (iKeys (tVar 1)) (gName 5) tYes (tTup (tCons (tVar 5) (tCons (tDGet (tVar 1) (tVar 5)) tNil))) [5])) tNil) [v0, some (.ref d), v2, v3, v4, v5] H Q := by
  have ndw : (w.map (·.1)).Nodup := by rw [← as_keys]; exact nd
  refine ⟨d, _, hd.1, trivial, fun od => ?_⟩
  refine ⟨_, rfl, d, od, rfl, .inr ⟨dwK w, upd_same, fun D nD => ?_⟩⟩
  have hd1 : upd H d (.frz od (.dT (dwK w))) d = some (.frz od (.dT (dwK w))) := upd_same
  have nDd : D ≠ d := (ne_of_none hd1 nD).symm
  have nD0 : H D = none := by rw [upd_ne nDd] at nD; exact nD
  have hl1 : ∀ e ∈ w, e.2.1 ≠ d ∧ upd H d (.frz od (.dT (dwK w))) e.2.1 = some (.lst (e.2.2.map V.int)) := fun e m => by
    have n : e.2.1 ≠ d := ne_of (hd.2 e m) hd.1 (by intro z; cases z)
    exact ⟨n, by rw [upd_ne n]; exact hd.2 e m⟩
  have same2 : ∀ H4, Same (upd H d (.frz od (.dT (dwK w)))) H4 → Same H (upd H4 d (.dT (dwK w))) := fun H4 s b o e => by
    by_cases z : b = d
    · subst z
      rw [upd_same]
      rw [hd.1] at e
      exact e
    · rw [upd_ne z]
      exact s _ _ (by rw [upd_ne z]; exact e)
  generalize upd H d (.frz od (.dT (dwK w))) = H1 at hd1 nD hl1 same2 ⊢
  refine lc_it walk_keysT (fun i H' => ∃ E : List EnO, Same H1 H' ∧ H' D = some (.lst (E.map enR)) ∧ (∀ e ∈ E, EnAt H' e ∧ ∃ x ∈ w, e.l = x.2.1) ∧ E.map (·.e) = asM (w.take i)) ⟨[], Same.new nD, upd_same, fun _ m => (nomatch m), rfl⟩ (fun i H' _ ⟨_, s, _⟩ => s _ _ hd1) ?_ ?_
  · rintro i x H2 H3 hi ⟨E, s2, hD, hE, eE⟩ ⟨rfl, k, v, q, hkv, rfl, hq⟩
    obtain ⟨e, he, rfl, rfl⟩ : ∃ e, w[i]? = some e ∧ k = kk e.1 ∧ v = V.ref e.2.1 := by
      unfold dwK at hkv
      rw [List.getElem?_map] at hkv
      cases z : w[i]? with
      | none => rw [z] at hkv; cases hkv
      | some e => rw [z] at hkv; cases hkv; exact ⟨e, rfl, rfl, rfl⟩
    have me := List.mem_of_getElem? he
    refine ⟨rfl, _, rfl, _, rfl, _, rfl, d, _, rfl, .inr ⟨dwK w, kk e.1, q, .inr ⟨od, s2 _ _ hd1⟩, rfl, hq, (valV_W ndw me).symm⟩, by show 2 ≤ sizeLine; decide, fun t nt => ?_⟩
    have st := Same.new (o := .tup [.ref q, .ref e.2.1]) nt
    have dt : upd H3 t (.tup [.ref q, .ref e.2.1]) t = some (.tup [.ref q, .ref e.2.1]) := upd_same
    generalize upd H3 t (.tup [.ref q, .ref e.2.1]) = H4 at st dt ⊢
    have hD4 := st _ _ hD
    have off : ∀ x, EnAt H4 x → (∃ y ∈ w, x.l = y.2.1) → EnAt (upd H4 D (.lst (E.map enR ++ [.ref t]))) x := fun x hx hy => by
      obtain ⟨y, my, ey⟩ := hy
      exact hx.off hD4 (fun xs z => by cases z) (by rw [ey]; exact ne_of_none (hl1 y my).2 nD)
    refine ⟨_, hD4, small _ ?_, E ++ [⟨t, q, e.2.1, (e.1, e.2.2)⟩], same_put (s2.trans st) nD, by rw [List.map_append]; exact upd_same, fun x m => ?_, ?_⟩
    · have := congrArg List.length eE
      unfold asM at this
      rw [List.length_map, List.length_map, List.length_take] at this
      rw [List.length_map]
      omega
    · rcases List.mem_append.mp m with m | m
      · obtain ⟨a1, a2⟩ := hE x m
        exact ⟨off x (a1.same st) a2, a2⟩
      · rw [List.mem_singleton.mp m]
        exact ⟨off _ ⟨dt, st _ _ hq, st _ _ (s2 _ _ (hl1 e me).2)⟩ ⟨e, me, rfl⟩, e, me, rfl⟩
    · rw [List.map_append, eE, take_snoc he]
      unfold asM
      rw [List.map_append]
      rfl
  rintro H4 ⟨E, s4, hD, hE, eE⟩
  have ln : (dwK w).length = w.length := by unfold dwK; rw [List.length_map]
  rw [ln, List.take_length] at eE
  have hd4 := s4 _ _ hd1
  refine ⟨hd4, ?_⟩
  have s5 := same2 _ s4
  have hD5 : upd H4 d (.dT (dwK w)) D = some (.lst (E.map enR)) := by rw [upd_ne nDd]; exact hD
  have hE5 : ∀ e ∈ E, EnAt (upd H4 d (.dT (dwK w))) e ∧ ∃ x ∈ w, e.l = x.2.1 := fun e m => by
    obtain ⟨a1, y, my, ey⟩ := hE e m
    exact ⟨a1.off hd4 (fun xs z => by cases z) (by rw [ey]; exact (hl1 y my).1), y, my, ey⟩
  generalize upd H4 d (.dT (dwK w)) = H5 at s5 hD5 hE5 ⊢
  have kE : ∀ e ∈ E, rdE H5 (enR e) = enD e.e := fun e m => rdE_at (hE5 e m).1
  have mE : ∀ x ∈ E.map enR, ∃ e ∈ E, x = enR e := fun x m => by
    obtain ⟨e, me, rfl⟩ := List.mem_map.mp m
    exact ⟨e, me, rfl⟩
  have keE : (E.map enR).map (rdE H5) = (E.map (·.e)).map enD := by
    rw [List.map_map, List.map_map]
    exact List.map_congr_left kE
  have ndE : E.Pairwise fun x y => x.e.1 ≠ y.e.1 := by
    have := nd
    unfold Nd at this
    rw [← eE, List.map_map] at this
    exact List.pairwise_map.mp this
  have leE : ∀ x ∈ E, ∀ y ∈ E, leA x.e y.e = PySem.W.dataLe false (rdE H5) (enR x) (enR y) := fun x mx y my => by
    show leA x.e y.e = !PySem.W.dataLt (rdE H5 (enR y)) (rdE H5 (enR x))
    rw [kE x mx, kE y my]
    by_cases h : y.e.1 = x.e.1
    · have : y.e = x.e := by
        have h1 : (y.e.1, y.e.2) ∈ asM w := by rw [← eE]; exact List.mem_map.mpr ⟨y, my, rfl⟩
        have h2 : (x.e.1, x.e.2) ∈ asM w := by rw [← eE]; exact List.mem_map.mpr ⟨x, mx, rfl⟩
        rw [getA_mem nd] at h1 h2
        rw [h, h2] at h1
        exact Prod.ext h (Option.some.inj h1).symm
      rw [this, lt_self]
      unfold leA ltK
      rw [decide_eq_false (by omega)]
    · rw [en_lt h]
      rfl
  refine ⟨D, E.map enR, rdE H5, rfl, SqL.of hD5, fun x m => ?_, ?_, ?_, fun x m => ?_, fun p np => ?_⟩
  · obtain ⟨e, me, rfl⟩ := mE x m
    rw [kE e me]
    exact dp_en (hE5 e me).1
  · rw [keE]
    exact PySem.W.AllAlike.of en_alike2
  · rw [keE]
    refine .inl fun x m => ?_
    obtain ⟨e, _, rfl⟩ := List.mem_map.mp m
    exact ⟨_, _, rfl⟩
  · obtain ⟨e, me, rfl⟩ := mE x m
    rw [kE e me]
    exact en_depth e.e
  · rw [← List.map_mergeSort (r := fun x y : EnO => leA x.e y.e) leE]
    refine hQ p (E.mergeSort fun x y => leA x.e y.e) _ (s5.trans (Same.new np)) (same_none s5 np) upd_same (fun e m => ?_) ?_
    · obtain ⟨a1, a2⟩ := hE5 e ((List.mergeSort_perm _ _).mem_iff.mp m)
      exact ⟨a1.same (Same.new np), a2⟩
    · unfold sortA
      rw [← eE, ← List.map_mergeSort (r := fun x y : EnO => leA x.e y.e) (fun _ _ _ _ => rfl)]
theorem runT_len : ∀ P : List Req, (runT P).2.length + 0 ≤ P.length ∧ (runT P).1.length ≤ P.length := by
  refine rev_ind ⟨Nat.le_refl _, Nat.le_refl _⟩ fun P q ih => ?_
  rw [runT_snoc, List.length_append]
  cases q with
  | none =>
    show (if (runT P).2.getLast? = some (sortA (runT P).1) then (runT P).2 else (runT P).2 ++ [sortA (runT P).1]).length + 0 ≤ P.length + 1 ∧ (runT P).1.length ≤ P.length + 1
    refine ⟨?_, by omega⟩
    split
    · omega
    · rw [List.length_append, List.length_singleton]; omega
  | some x =>
    have := putA_len (runT P).1 (x.1, x.2.1) x.2.2
    show (runT P).2.length + 0 ≤ P.length + 1 ∧ (putA (runT P).1 (x.1, x.2.1) x.2.2).length ≤ P.length + 1
    omega
theorem dp_state {K : PySem.W.Frag} {H : Hp} {f : Addr} {E : List EnO} (h : H f = some (.lst (E.map enR))) (a : ∀ e ∈ E, EnAt H e) : Dp K H (.ref f) (stD (E.map (·.e))) := by
  refine .lst (SqL.of h) ?_
  have : ∀ M : List EnO, (∀ e ∈ M, EnAt H e) → DpAll K H (M.map enR) ((M.map (·.e)).map enD) := by
    intro M
    induction M with
    | nil => intro _; exact .nil
    | cons e M ih => exact fun g => .cons (dp_en (g e (by simp))) (ih fun u m => g u (List.mem_cons_of_mem _ m))
  exact this E a
theorem dp_states {K : PySem.W.Frag} {H : Hp} {D : Addr} {F : List (Addr × List EnO)} (h : H D = some (.lst (F.map fun f => V.ref f.1))) (a : ∀ f ∈ F, H f.1 = some (.lst (f.2.map enR)) ∧ ∀ e ∈ f.2, EnAt H e) :
    Dp K H (.ref D) (.list ((F.map fun f => f.2.map (·.e)).map stD)) := by
  refine .lst (SqL.of h) ?_
  have : ∀ M : List (Addr × List EnO), (∀ f ∈ M, H f.1 = some (.lst (f.2.map enR)) ∧ ∀ e ∈ f.2, EnAt H e) → DpAll K H (M.map fun f => V.ref f.1) ((M.map fun f => f.2.map (·.e)).map stD) := by
    intro M
    induction M with
    | nil => intro _; exact .nil
    | cons e M ih => exact fun g => .cons (dp_state (g e (by simp)).1 (g e (by simp)).2) (ih fun u m => g u (List.mem_cons_of_mem _ m))
  exact this F a
/-- one more state found -/
theorem states_app {H2 Hx : Hp} {D p : Addr} {F : List (Addr × List EnO)} {E : List EnO} (hD : Hx D = some (.lst (F.map fun f => V.ref f.1))) (s : Same H2 Hx) (aF : ∀ f ∈ F, f.1 ≠ D ∧ H2 f.1 = some (.lst (f.2.map enR)) ∧ ∀ e ∈ f.2, EnAt H2 e ∧ e.l ≠ D)
    (hp : Hx p = some (.lst (E.map enR))) (np : p ≠ D) (aE : ∀ e ∈ E, EnAt Hx e ∧ e.l ≠ D) :
    ∀ f ∈ F ++ [(p, E)], f.1 ≠ D ∧ upd Hx D (.lst ((F ++ [(p, E)]).map fun f => V.ref f.1)) f.1 = some (.lst (f.2.map enR)) ∧ ∀ e ∈ f.2, EnAt (upd Hx D (.lst ((F ++ [(p, E)]).map fun f => V.ref f.1))) e ∧ e.l ≠ D := fun f m => by
  rcases List.mem_append.mp m with m | m
  · obtain ⟨b1, b2, b3⟩ := aF f m
    refine ⟨b1, by rw [upd_ne b1]; exact s _ _ b2, fun e m => ?_⟩
    obtain ⟨c1, c2⟩ := b3 e m
    exact ⟨(c1.same s).off hD (fun xs z => by cases z) c2, c2⟩
  · rw [List.mem_singleton.mp m]
    refine ⟨np, by rw [upd_ne np]; exact hp, fun e m => ?_⟩
    obtain ⟨c1, c2⟩ := aE e m
    exact ⟨c1.off hD (fun xs z => by cases z) c2, c2⟩
theorem RqAt.but {H H' : Hp} {e : RqO} {p l : Addr} (h : RqAt H e) (P : Pot H p l) (b : But p H H') (n : e.s ≠ p) : RqAt H' e := by
  obtain ⟨i, acc, seed, hp⟩ := P.list
  unfold RqAt at h ⊢
  split at h
  · exact b _ _ h (ne_of h hp (by intro z; cases z))
  · exact ⟨b _ _ h.1 (ne_of h.1 hp (by intro z; cases z)), b _ _ h.2 n⟩
theorem runC_snd : ∀ P : List Req, (runC P).2 = match P.getLast? with | none => true | some q => q.isSome := by
  refine rev_ind rfl fun P q _ => ?_
  rw [runC_snoc]
  cases q <;> simp [stepC]
theorem runC_le : ∀ P : List Req, (runC P).1 ≤ P.length := by
  refine rev_ind (Nat.le_refl _) fun P q ih => ?_
  rw [runC_snoc, List.length_append]
  cases q with
  | none =>
    show (if (runC P).2 = true then (runC P).1 + 1 else (runC P).1) ≤ P.length + 1
    split <;> omega
  | some x => show (runC P).1 ≤ P.length + 1; omega
theorem putA_mem {w : As} {k : Kp} {v : List Int} {e : Kp × List Int} (m : e ∈ putA w k v) : e.2 = v ∨ e ∈ w := by
  unfold putA at m
  split at m
  · obtain ⟨y, my, rfl⟩ := List.mem_map.mp m
    split
    · exact .inl rfl
    · exact .inr my
  · rcases List.mem_append.mp m with m | m
    · exact .inr m
    · rw [List.mem_singleton.mp m]
      exact .inl rfl
def ShortR (n : Nat) (P : List Req) : Prop := ∀ q ∈ P, ∀ d r ws, q = some (d, r, ws) → ws.length ≤ n
theorem ordM_short {n : Nat} {w : As} (h : ∀ e ∈ w, e.2.length ≤ n) : ShortR n (ordM w) := fun q m d r ws e => by
  obtain ⟨x, mx, rfl⟩ := List.mem_map.mp m
  cases e
  exact h x ((sortA_perm w).mem_iff.mp mx)
theorem runS_short (n : Nat) : ∀ P : List Req, ShortR n P → ShortR n (runS P).1 ∧ ∀ e ∈ (runS P).2, e.2.length ≤ n := by
  refine rev_ind (fun _ => ⟨fun _ m => (nomatch m), fun _ m => (nomatch m)⟩) fun P q ih h => ?_
  obtain ⟨i1, i2⟩ := ih fun q m => h q (List.mem_append_left _ m)
  have hq := h q (by simp)
  rw [runS_snoc]
  cases q with
  | some x =>
    obtain ⟨d, r, ws⟩ := x
    refine ⟨i1, fun e m => ?_⟩
    rcases putA_mem (w := (runS P).2) (k := (d, r)) (v := ws) m with z | z
    · rw [z]; exact hq d r ws rfl
    · exact i2 e z
  | none =>
    have a : ShortR n ((runS P).1 ++ ordM (runS P).2) := fun q m => by
      rcases List.mem_append.mp m with m | m
      · exact i1 q m
      · exact ordM_short i2 q m
    refine ⟨?_, fun _ m => (nomatch m)⟩
    show ShortR n (if ((runS P).1 ++ ordM (runS P).2).getLast? = some none then (runS P).1 ++ ordM (runS P).2 else (runS P).1 ++ ordM (runS P).2 ++ [none])
    split
    · exact a
    · intro q m d r ws e
      rcases List.mem_append.mp m with m | m
      · exact a q m d r ws e
      · rw [List.mem_singleton.mp m] at e
        cases e
theorem sched_short {n : Nat} {P : List Req} (h : ShortR n P) : ShortR n (schedM P) := fun q m => by
  obtain ⟨i1, i2⟩ := runS_short n P h
  rcases List.mem_append.mp m with m | m
  · exact i1 q m
  · exact ordM_short i2 q m
theorem sched_len (P : List Req) : (schedM P).length ≤ P.length := by
  have := runS_len P
  unfold schedM
  rw [List.length_append, ordM_len]
  exact this
theorem short_of {L : List RqO} (h : ShortR 500 (L.map (·.q))) : Short L := fun e m d r ws q => h e.q (List.mem_map.mpr ⟨e, m, rfl⟩) d r ws q
theorem of_short {L : List RqO} (h : Short L) : ShortR 500 (L.map (·.q)) := fun q m d r ws e => by
  obtain ⟨x, mx, rfl⟩ := List.mem_map.mp m
  exact h x mx d r ws e
theorem dp_same {K : PySem.W.Frag} {H H' : Hp} (s : Same H H') {v : V} {d : PyData} (h : Dp K H v d) : Dp K H' v d :=
  Dp.rec (motive_1 := fun v d _ => Dp K H' v d) (motive_2 := fun vs ds _ => DpAll K H' vs ds) .non .bl .int .str (fun hs _ ih => .lst (s.seq hs) ih) (fun hs _ ih => .tup (s.tup hs) ih) .nil (fun _ _ i1 i2 => .cons i1 i2) h
section
variable {P : Program} {w : World} {K : PySem.W.Frag} {mg : Str → Option Value} {base : Heap} {a : Ad}
theorem sc_ordered_writes : FnScope ["written", "disk", "row"] ["written"] (defScope s_ordered_writes) := ⟨rfl, rfl, rfl, by decide +kernel, rfl, by decide +kernel, by decide +kernel⟩
theorem ok_ordered_writes (T : Txt K mg a) : FnOk P w K mg base CX0 1 a.f_ordered_writes a.d_ordered_writes ["written"] (sp_ordered_writes K a) := by
  refine T.F_ordered_writes.ok sc_ordered_writes (fun vs H Q E h => ?len) (fun cdv A outer s H vs Q E hr h => ?body)
  case len =>
    exact sp_ordered_writes_len h
  case body =>
    obtain ⟨d, w, rfl, hd, nd, hl, hw, k⟩ := h
    refine ⟨_, (pss_one (ps_ret (pe_lc (own := [("disk", 1), ("row", 2)]) (g := (gTup K 2 (gCons (gName 1) (gCons (gName 2) gNil)))) (by rfl) sc_ordered_writes.nd (pi_list (pe_callB (cr_sortedT rfl hr.units) (by rfl) T.n_sorted (by decide +kernel) (pa_cons (pv 0) pa_nil))) (blkOk_by (own := [("disk", 1), ("row", 2)]) (N := ["written", "disk", "row"]) (sc := defScope s_ordered_writes) (by decide +kernel))
      (fun _ _ _ _ _ => (pg_tup rfl (pgs_cons (pg_name (i := 1) sc_ordered_writes.nd rfl (Or.inl rfl)) (pgs_cons (pg_name (i := 2) sc_ordered_writes.nd rfl (Or.inl rfl)) pgs_nil)))) (fun _ _ _ _ _ => pts_nil) (fun _ _ _ _ _ => (pe_tup (pa_cons pe_str (pa_cons (pv 1) (pa_cons (pv 2) (pa_cons (pe_ifExp (pt_cmpR op_isN (pe_dget (hu_of hr) (pv 0) (pe_tup (pa_cons (pv 1) (pa_cons (pv 2) pa_nil))) (fun _ _ => rfl)) pe_non (nomark _)) pe_non (pe_callTy (by exact call_list_of : CallR _ _ (rListOf K)) (by rfl) T.n_list (by decide +kernel) (pa_cons (pe_dget (hu_of hr) (pv 0) (pe_tup (pa_cons (pv 1) (pa_cons (pv 2) pa_nil))) (fun _ _ => rfl)) pa_nil))) pa_nil))))))))), ?_⟩
    have ndw : (w.map (·.1)).Nodup := by rw [← as_keys]; exact nd
    refine ⟨_, rfl, d, dwK w, rfl, hd.1, fun q m => ?_, fun qs p eq hq np => ?_⟩
    · unfold dwK at m
      rw [List.map_map] at m
      obtain ⟨e, _, rfl⟩ := List.mem_map.mp m
      exact ⟨e.1.1, e.1.2, rfl⟩
    obtain ⟨S, eS, mS, oS, lS⟩ := ordW qs w eq
    rw [eS]
    have s1 := Same.new (o := .lst (S.map fun g => V.ref g.1)) np
    have dp : upd H p (.lst (S.map fun g => V.ref g.1)) p = some (.lst (S.map fun g => V.ref g.1)) := upd_same
    generalize upd H p (.lst (S.map fun g => V.ref g.1)) = H1 at s1 dp ⊢
    refine ⟨p, rfl, ⟨_, SqL.of dp⟩, fun D nD => ?_⟩
    have nD0 : H D = none := same_none s1 nD
    refine lc_list (xs := S.map fun g => V.ref g.1) (fun i H' => ∃ M : List RqO, Same H1 H' ∧ H' D = some (.lst (M.map rqR)) ∧ (∀ e ∈ M, RqAt H' e ∧ H e.s = none ∧ e.s ≠ D) ∧ M.map (·.q) = (S.take i).map fun g => wrM (gA g)) ⟨[], Same.new nD, upd_same, fun _ m => (nomatch m), rfl⟩ ?_ ?_ ?_
    · rintro i H' _ ⟨M, sM, _⟩
      exact SqL.of (sM _ _ dp)
    · rintro i x H2 hx ⟨M, sM, dM, aM, eM⟩
      rw [List.getElem?_map] at hx
      obtain ⟨g, hg, rfl⟩ := Option.map_eq_some_iff.mp hx
      clear hx
      have mg := List.mem_of_getElem? hg
      obtain ⟨m1, m2⟩ := mS g mg
      have hk := sM _ _ (s1 _ _ (hq _ m1))
      refine ⟨g.1, [.int g.2.1.1, .int g.2.1.2], rfl, SqT.of hk, rfl, _, _, rfl, _, _, rfl, rfl, rfl, ?_⟩
      refine ⟨_, rfl, _, rfl, _, rfl, _, rfl, _, rfl, ?_, fun q1 n1 => ?_⟩
      · show 2 ≤ sizeLine
        decide
      have dw := hd.same (s1.trans sM)
      have sq1 := Same.new (o := .tup [.int g.2.1.1, .int g.2.1.2]) n1
      have dq1 : upd H2 q1 (.tup [.int g.2.1.1, .int g.2.1.2]) q1 = some (.tup [.int g.2.1.1, .int g.2.1.2]) := upd_same
      have nq1 := n1
      have D3 := sq1 _ _ dM
      generalize upd H2 q1 (.tup [.int g.2.1.1, .int g.2.1.2]) = H3 at sq1 dq1 D3 ⊢
      have dw3 := dw.same sq1
      refine ⟨d, _, rfl, .inr ⟨dwK w, kk g.2.1, q1, .inl dw3.1, rfl, dq1, (valV_W ndw m2).symm⟩, rfl, _, rfl, ?_⟩
      dsimp only
      rw [show (decide (V.ref g.2.2.1 = V.non)) = false from decide_eq_false fun z => nomatch z]
      refine ⟨_, rfl, _, rfl, _, rfl, by show 2 ≤ sizeLine; decide, fun q2 n2 => ?_⟩
      have sq2 := sq1.trans (Same.new (o := .tup [.int g.2.1.1, .int g.2.1.2]) n2)
      have dq2 : upd H3 q2 (.tup [.int g.2.1.1, .int g.2.1.2]) q2 = some (.tup [.int g.2.1.1, .int g.2.1.2]) := upd_same
      have D4 := Same.new (o := .tup [.int g.2.1.1, .int g.2.1.2]) n2 _ _ D3
      generalize upd H3 q2 (.tup [.int g.2.1.1, .int g.2.1.2]) = H4 at sq2 dq2 D4 ⊢
      have dw4 := dw.same sq2
      refine ⟨d, _, rfl, .inr ⟨dwK w, kk g.2.1, q2, .inl dw4.1, rfl, dq2, (valV_W ndw m2).symm⟩, g.2.2.1, _, rfl, .inl (SqL.of (dw4.2 _ m2)), fun L nL => ⟨by show 4 ≤ sizeLine; decide, fun t nt => ?_⟩⟩
      have nL0 := same_none (s1.trans (sM.trans sq2)) nL
      have nLD : L ≠ D := (ne_of_none D4 nL).symm
      have s5 := Same.new (o := .lst (g.2.2.2.map V.int)) nL
      have dL : upd H4 L (.lst (g.2.2.2.map V.int)) L = some (.lst (g.2.2.2.map V.int)) := upd_same
      generalize upd H4 L (.lst (g.2.2.2.map V.int)) = H5 at s5 dL nt ⊢
      have s6 := Same.new (o := .tup [.str "write", .int g.2.1.1, .int g.2.1.2, .ref L]) nt
      have dt : upd H5 t (.tup [.str "write", .int g.2.1.1, .int g.2.1.2, .ref L]) t = some (.tup [.str "write", .int g.2.1.1, .int g.2.1.2, .ref L]) := upd_same
      refine ⟨_, s6 _ _ (s5 _ _ D4), small _ ?_, ?_⟩
      · have := congrArg List.length eM
        rw [List.length_map, List.length_map, List.length_take] at this
        rw [List.length_map]
        omega
      generalize upd H5 t (.tup [.str "write", .int g.2.1.1, .int g.2.1.2, .ref L]) = H6 at s6 dt ⊢
      have s26 : Same H2 H6 := sq2.trans (s5.trans s6)
      have nD6 : ∀ e : RqO, RqAt H6 e → H e.s = none → e.s ≠ D → RqAt (upd H6 D (.lst (M.map rqR ++ [V.ref t]))) e := fun e a b c => by
        have D6 := s26 _ _ dM
        unfold RqAt at a ⊢
        split at a
        · rw [upd_ne (ne_of a D6 (by intro z; cases z))]; exact a
        · rw [upd_ne (ne_of a.1 D6 (by intro z; cases z)), upd_ne c]; exact a
      refine ⟨M ++ [⟨t, L, wrM (gA g)⟩], same_put (sM.trans s26) nD, by rw [List.map_append]; exact upd_same, fun e m => ?_, by rw [List.map_append, eM, take_snoc hg, List.map_append]; rfl⟩
      rcases List.mem_append.mp m with m | m
      · obtain ⟨a1, a2, a3⟩ := aM e m
        exact ⟨nD6 e (a1.same s26) a2 a3, a2, a3⟩
      · rw [List.mem_singleton.mp m]
        exact ⟨nD6 _ ⟨dt, s6 _ _ dL⟩ nL0 nLD, nL0, nLD⟩
    · rintro H2 ⟨M, sM, dM, aM, eM⟩
      rw [List.length_map, List.take_length] at eM
      exact k D M H2 (s1.trans sM) nD0 dM aM (eM.trans oS)
theorem sc_law_pot : FnScope ["script", "seed", "cell"] ["script"] (defScope s_law_pot) := ⟨rfl, rfl, rfl, by decide +kernel, rfl, by decide +kernel, by decide +kernel⟩
theorem ok_law_pot (T : Txt K mg a) : FnOk P w K mg base CX0 1 a.f_law_pot a.d_law_pot ["script"] (sp_law_pot K a) := by
  refine T.F_law_pot.ok sc_law_pot (fun vs H Q E h => ?len) (fun cdv A outer s H vs Q E hr h => ?body)
  case len =>
    exact sp_law_pot_len h
  case body =>
    obtain ⟨s, ns, rfl, hS, hlen, k⟩ := h
    refine ⟨_, (pss_cons (ps_set (i := 1) sc_law_pot.nd rfl (Or.inl rfl) pe_int)
      (pss_cons (ps_for PassesOwn.never rfl (pi_list (pv 0)) (pg_name (i := 2) sc_law_pot.nd rfl (Or.inl rfl))
      (pss_one (ps_set (i := 1) sc_law_pot.nd rfl (Or.inl rfl) (pe_op op_mod (pe_callTy call_int1 (by rfl) T.n_int (by decide +kernel) (pa_cons (pe_op op_add (pe_op op_mul (pv 1) pe_int) (pv 2)) pa_nil)) pe_int))))
      (pss_one (ps_ret (pe_lst (pa_cons (pe_callTy call_list_of (by rfl) T.n_list (by decide +kernel) (pa_cons (pv 0) pa_nil)) (pa_cons pe_int (pa_cons pe_int (pa_cons (pv 1) pa_nil))))))))), ?_⟩
    refine ⟨_, rfl, s, rfl, ⟨_, hS⟩, for_list (K := K) (a := s) (xs := ns.map V.int) (fun i σ H' => ∃ (z : Int) (v : Option V), σ = [some (.ref s), some (.int z), v] ∧ 0 ≤ z ∧ z < 2147483647 ∧ H' = H)
      ⟨1, none, rfl, by decide, by decide, rfl⟩ (fun i σ H' _ ⟨_, _, _, _, _, e⟩ => by rw [e]; exact hS) ?_ ?_⟩
    · rintro i y σ H' hi ⟨z, v, rfl, z0, z1, rfl⟩
      obtain ⟨c, hc, rfl⟩ := int_item hi
      refine ⟨_, rfl, _, _, rfl, rfl, .inl ⟨by omega, by omega⟩, _, rfl, _, _, rfl, rfl, .inl ⟨_, rfl, _, _, rfl, rfl, (by show (0 : Int) < 2147483647; decide), ?_⟩⟩
      exact ⟨_, _, rfl, Int.emod_nonneg _ (by decide), Int.emod_lt_of_pos _ (by decide), rfl⟩
    · rintro σ H' ⟨z, v, rfl, z0, z1, rfl⟩
      refine ⟨_, rfl, s, _, rfl, .inl hS, fun l hl => ?_⟩
      refine ⟨_, rfl, (by show 4 ≤ sizeLine; decide), fun p hp => ?_⟩
      have npl : l ≠ p := fun e => by subst e; rw [upd_same] at hp; cases hp
      have hp0 : H' p = none := by rw [upd_ne npl.symm] at hp; exact hp
      refine k p l _ hp0 hl (fun b o e => ?_) ⟨ns, 0, 0, z, upd_same, by rw [upd_ne npl, upd_same], by decide, by decide, z0, z1⟩
      rw [upd_ne (ne_of_none e hp0), upd_ne (ne_of_none e hl)]
      exact e
theorem sc_law_next : FnScope ["pot", "limit", "cell", "found", "mixed"] ["pot", "limit"] (defScope s_law_next) := ⟨rfl, rfl, rfl, by decide +kernel, rfl, by decide +kernel, by decide +kernel⟩
theorem ok_law_next (T : Txt K mg a) : FnOk P w K mg base CX0 1 a.f_law_next a.d_law_next ["pot", "limit"] (sp_law_next K a) := by
  refine T.F_law_next.ok sc_law_next (fun vs H Q E h => ?len) (fun cdv A outer s H vs Q E hr h => ?body)
  case len =>
    exact sp_law_next_len h
  case body =>
    obtain ⟨p, l, m, rfl, hP, m0, m1, k⟩ := h
    obtain ⟨ns, i, acc, seed, h1, h2, i0, acc0, s0, s1⟩ := id hP
    have nlp := hP.ne
    have mod0 : ∀ x : Int, 0 ≤ x % m := fun x => Int.emod_nonneg _ (by omega)
    have mod1 : ∀ x : Int, x % m < m := fun x => Int.emod_lt_of_pos _ m0
    have mW : m.natAbs < 2 ^ 41 := by
      have : m.natAbs < 2199023255552 := by omega
      exact this
    refine ⟨_, (Evl.pss_cut (ps_if (PW.pt (pw_and (pt_cmpR op_eq (pe_ix ix_list (pv 0) pe_int (fun _ _ => rfl)) pe_int (nomark _)) (pw_and1 (pt_cmpR op_lt (pe_ix ix_list (pv 0) pe_int (fun _ _ => rfl)) (pe_callB call_len_seq (by rfl) T.n_len PySem.boot_len (pa_cons (pe_ix ix_list (pv 0) pe_int (fun _ _ => rfl)) pa_nil)) (nomark _)))))
      (pss_cons (ps_set (i := 2) sc_law_next.nd rfl (Or.inl rfl) (pe_callB call_abs (by rfl) T.n_abs (by decide +kernel) (pa_cons (pe_callTy call_int1 (by rfl) T.n_int (by decide +kernel) (pa_cons (pe_ix ix_list (pe_ix ix_list (pv 0) pe_int (fun _ _ => rfl)) (pe_ix ix_list (pv 0) pe_int (fun _ _ => rfl)) (fun _ _ => rfl)) pa_nil)) pa_nil)))
      (pss_cons (ps_asg (pe_op op_add (pe_ix ix_list (pv 0) pe_int (fun _ _ => rfl)) pe_int) (pg_sub (pv 0) pe_int set_list))
      (pss_cons (ps_if (pt_cmpR op_lt (pv 2) (pe_op op_pow pe_int pe_int) (nomark _))
      (pss_one (ps_ret (pe_op op_mod (pe_callTy call_int1 (by rfl) T.n_int (by decide +kernel) (pa_cons (pv 2) pa_nil)) (pv 1))))
      pss_nil)
      (pss_one (ps_asg (pv 2) (pg_sub (pv 0) pe_int set_list))))))
      pss_nil)
      (pss_cons (ps_if (pt_cmpR op_gt (pe_ix ix_list (pv 0) pe_int (fun _ _ => rfl)) pe_int (nomark _))
      (pss_cons (ps_set (i := 3) sc_law_next.nd rfl (Or.inl rfl) (pe_op op_mod (pe_callTy call_int1 (by rfl) T.n_int (by decide +kernel) (pa_cons (pe_ix ix_list (pv 0) pe_int (fun _ _ => rfl)) pa_nil)) (pv 1)))
      (pss_cons (ps_asg (pe_op op_fdivW (pe_ix ix_list (pv 0) pe_int (fun _ _ => rfl)) (pv 1)) (pg_sub (pv 0) pe_int set_list))
      (pss_one (ps_ret (pv 3)))))
      pss_nil)
      (pss_cons (ps_asg (pe_op op_mod (pe_callTy call_int1 (by rfl) T.n_int (by decide +kernel) (pa_cons (pe_op op_add (pe_op op_mul (pe_ix ix_list (pv 0) pe_int (fun _ _ => rfl)) pe_int) pe_int) pa_nil)) pe_int) (pg_sub (pv 0) pe_int set_list))
      (pss_cons (ps_set (i := 4) sc_law_next.nd rfl (Or.inl rfl) (pe_op op_mod (pe_callTy call_int1 (by rfl) T.n_int (by decide +kernel) (pa_cons (pe_op op_add (pe_op op_mul (pe_ix ix_list (pv 0) pe_int (fun _ _ => rfl)) pe_int) (pe_op op_fdiv (pe_ix ix_list (pv 0) pe_int (fun _ _ => rfl)) pe_int)) pa_nil)) pe_int))
      (pss_one (ps_ret (pe_op op_mod (pe_callTy call_int1 (by rfl) T.n_int (by decide +kernel) (pa_cons (pv 4) pa_nil)) (pv 1)))))))), ?_⟩
    refine ⟨fun σ H' => ∃ (u : Option V) (i' acc' : Int), σ = [some (.ref p), some (.int m), u, none, none] ∧ H' p = some (.lst [.ref l, .int i', .int acc', .int seed]) ∧ 0 ≤ i' ∧ 0 ≤ acc' ∧ Only p H H', ?_, ?_⟩
    · -- if pot[2] == 0 and pot[1] < len(pot[0])
      refine ⟨_, rfl, p, _, _, _, rfl, rfl, SqL.of h1, at_of (j := 2) rfl rfl, rfl, _, rfl, ?_⟩
      refine ite2 (fun e2 => ?_) (fun e2 => iteF ⟨none, i, acc, rfl, h1, i0, acc0, Only.refl⟩)
      refine ⟨_, rfl, p, _, _, _, rfl, rfl, SqL.of h1, at_of (j := 1) rfl rfl, _, rfl, p, _, _, _, rfl, rfl, SqL.of h1, at_of (j := 0) rfl rfl, l, _, rfl, .inl (SqL.of h2), _, _, rfl, rfl, _, rfl, ?_⟩
      refine ite2 (fun e3 => ?_) (fun e3 => ⟨none, i, acc, rfl, h1, i0, acc0, Only.refl⟩)
      have i1 : i < (ns.length : Int) := by
        have := of_decide_eq_true e3
        rw [List.length_map] at this
        exact this
      obtain ⟨j, rfl⟩ : ∃ j : Nat, i = (j : Int) := ⟨i.toNat, by omega⟩
      have hj : j < ns.length := by omega
      have hit : (ns.map V.int)[j]? = some (V.int ns[j]) := by rw [List.getElem?_map, List.getElem?_eq_getElem hj]; rfl
      -- cell = abs(int(pot[0][pot[1]])); pot[1] = pot[1] + 1
      refine ⟨_, rfl, p, _, _, _, rfl, rfl, SqL.of h1, at_of (j := 0) rfl rfl, _, rfl, p, _, _, _, rfl, rfl, SqL.of h1, at_of (j := 1) rfl rfl, l, _, _, _, rfl, rfl, SqL.of h2, at_of (j := j) rfl hit, .inl ⟨_, rfl, _, rfl, ?_⟩⟩
      have abs0 : 0 ≤ (if ns[j] < 0 then -ns[j] else ns[j]) := by split <;> omega
      generalize (if ns[j] < 0 then -ns[j] else ns[j]) = c at abs0 ⊢
      refine ⟨_, rfl, p, _, _, _, rfl, rfl, SqL.of h1, at_of (j := 1) rfl rfl, _, _, rfl, rfl, _, rfl, p, _, _, 1, rfl, rfl, h1, rfl, ?_⟩
      have g1 : upd H p (.lst (List.set [V.ref l, V.int (j : Int), V.int acc, V.int seed] 1 (V.int ((j : Int) + 1)))) p = some (.lst [.ref l, .int ((j : Int) + 1), .int acc, .int seed]) := upd_same
      -- if cell < 10 ** 18: return int(cell) % limit
      refine ⟨_, rfl, _, _, rfl, rfl, ⟨by decide, by decide, by decide⟩, _, _, rfl, rfl, _, rfl, ?_⟩
      refine ite2 (fun e4 => ?_) (fun e4 => ?_)
      · refine ⟨_, rfl, .inl ⟨_, rfl, _, rfl, _, _, rfl, rfl, m0, ?_⟩⟩
        exact k _ _ (mod0 _) (mod1 _) ⟨ns, _, _, _, g1, by rw [upd_ne nlp]; exact h2, by omega, acc0, s0, s1⟩ Only.upd
      · -- pot[2] = cell
        refine ⟨_, rfl, _, rfl, p, _, _, 2, rfl, rfl, g1, rfl, ?_⟩
        exact ⟨_, (j : Int) + 1, c, rfl, upd_same, by omega, abs0, Only.upd.trans Only.upd⟩
    · rintro σ H' ⟨u, i', acc', rfl, g1, i0', acc0', oH⟩
      have g2 : H' l = some (.lst (ns.map V.int)) := by rw [oH _ nlp]; exact h2
      -- if pot[2] > 0
      refine ⟨_, rfl, p, _, _, _, rfl, rfl, SqL.of g1, at_of (j := 2) rfl rfl, _, _, rfl, rfl, _, rfl, ?_⟩
      refine ite2 (fun e2 => ?_) (fun e2 => ?_)
      · refine ⟨_, rfl, p, _, _, _, rfl, rfl, SqL.of g1, at_of (j := 2) rfl rfl, .inl ⟨_, rfl, _, rfl, _, _, rfl, rfl, m0, ?_⟩⟩
        refine ⟨_, rfl, p, _, _, _, rfl, rfl, SqL.of g1, at_of (j := 2) rfl rfl, _, rfl, _, _, rfl, rfl, wide_div m0 mW (by decide) (by decide), _, rfl, p, _, _, 2, rfl, rfl, g1, rfl, ?_⟩
        refine ⟨_, rfl, ?_⟩
        exact k _ _ (mod0 _) (mod1 _) ⟨ns, i', acc' / m, seed, upd_same, by rw [upd_ne nlp]; exact g2, i0', Int.ediv_nonneg acc0' (by omega), s0, s1⟩ (oH.trans Only.upd)
      · -- pot[3] = int(pot[3] * 48271 + 12345) % 2147483647
        refine ⟨_, rfl, p, _, _, _, rfl, rfl, SqL.of g1, at_of (j := 3) rfl rfl, _, _, rfl, rfl, .inl ⟨by omega, by omega⟩, _, _, rfl, rfl, .inl ⟨_, rfl, _, _, rfl, rfl, (by show (0 : Int) < 2147483647; decide), ?_⟩⟩
        have t0 := Int.emod_nonneg (seed * 48271 + 12345) (show (2147483647 : Int) ≠ 0 by decide)
        have t1 := Int.emod_lt_of_pos (seed * 48271 + 12345) (show (0 : Int) < 2147483647 by decide)
        refine ⟨_, rfl, p, _, _, 3, rfl, rfl, g1, rfl, ?_⟩
        have g3 : upd H' p (.lst (List.set [V.ref l, V.int i', V.int acc', V.int seed] 3 (V.int ((seed * 48271 + 12345) % 2147483647)))) p = some (.lst [.ref l, .int i', .int acc', .int ((seed * 48271 + 12345) % 2147483647)]) := upd_same
        refine ⟨_, rfl, p, _, _, _, rfl, rfl, SqL.of g3, at_of (j := 3) rfl rfl, _, _, rfl, rfl, .inl ⟨by omega, by omega⟩, _, rfl, p, _, _, _, rfl, rfl, SqL.of g3, at_of (j := 3) rfl rfl, _, _, rfl, rfl, ⟨by decide, by decide⟩, _, _, rfl, rfl, .inl ⟨_, rfl, _, _, rfl, rfl, (by show (0 : Int) < 2147483629; decide), ?_⟩⟩
        refine ⟨_, rfl, .inl ⟨_, rfl, _, rfl, _, _, rfl, rfl, m0, ?_⟩⟩
        exact k _ _ (mod0 _) (mod1 _) ⟨ns, _, _, _, g3, by rw [upd_ne nlp]; exact g2, i0', acc0', t0, t1⟩ (oH.trans Only.upd)
theorem sc_law_states : FnScope ["requests", "disk", "found", "request", "state", "place"] ["requests"] (defScope s_law_states) := ⟨rfl, rfl, rfl, by decide +kernel, rfl, by decide +kernel, by decide +kernel⟩
theorem ok_law_states (T : Txt K mg a) : FnOk P w K mg base CX0 1 a.f_law_states a.d_law_states ["requests"] (sp_law_states K a) := by
  refine T.F_law_states.ok sc_law_states (fun vs H Q E h => ?len) (fun cdv A outer s H vs Q E hr h => ?body)
  case len =>
    exact sp_law_states_len h
  case body =>
    obtain ⟨R, L, rfl, hR, hl, sh, k⟩ := h
    refine ⟨_, (pss_cons (ps_set (i := 1) sc_law_states.nd rfl (Or.inr rfl) pe_dnewT)
      (pss_cons (ps_set (i := 2) sc_law_states.nd rfl (Or.inl rfl) (pe_lst pa_nil))
      (pss_cons (ps_for PassesOwn.never rfl (pi_list (pv 0)) (pg_name (i := 3) sc_law_states.nd rfl (Or.inl rfl))
      (pss_one (ps_if (pt_cmpR op_eq (pe_ix ix_tup (pv 3) pe_int (fun _ _ => rfl)) pe_str (nomark _))
      (pss_one (ps_dput (hu_of hr) (pv 1) (pe_tup (pa_cons (pe_ix ix_tup (pv 3) pe_int (fun _ _ => rfl)) (pa_cons (pe_ix ix_tup (pv 3) pe_int (fun _ _ => rfl)) pa_nil))) (pe_ix ix_tup (pv 3) pe_int (fun _ _ => rfl)) rfl))
      (pss_cons (ps_set (i := 4) sc_law_states.nd rfl (Or.inl rfl) (pe_callB (cr_sortedD hr.units) (by rfl) T.n_sorted (by decide +kernel) (pa_cons (pe_lock (pe_lc (own := [("place", 5)]) (g := (gName 5)) (by rfl) sc_law_states.nd (pi_keys (pv 1)) (blkOk_by (own := [("place", 5)]) (N := ["requests", "disk", "found", "request", "state", "place"]) (sc := defScope s_law_states) (by decide +kernel))
      (fun _ _ _ _ _ => (pg_name (i := 5) sc_law_states.nd rfl (Or.inl rfl))) (fun _ _ _ _ _ => pts_nil) (fun _ _ _ _ _ => (pe_tup (pa_cons (pv 5) (pa_cons (pe_dget (hu_of hr) (pv 1) (pv 5) (fun _ _ => rfl)) pa_nil)))))) pa_nil)))
      (pss_one (ps_if (PW.pt (pw_or (pt_cmpR op_eq (pe_callB call_len_seq (by rfl) T.n_len PySem.boot_len (pa_cons (pv 2) pa_nil)) pe_int (nomark _)) (pw_or1 (pt_cmpR (op_neD hr.units) (pe_ix ix_list (pv 2) (pe_op op_sub (pe_callB call_len_seq (by rfl) T.n_len PySem.boot_len (pa_cons (pv 2) pa_nil)) pe_int) (fun _ _ => rfl)) (pv 4) (nomark _)))))
      (pss_one (ps_expr (pe_bm PySem.F.plainAttrs_list PySem.F.slot_list_append PySem.F.type_list_append mt_append (pv 2) (pa_cons (pv 4) pa_nil))))
      pss_nil))))))
      (pss_cons (ps_expr (pe_bm PySem.F.plainAttrs_list PySem.F.slot_list_append PySem.F.type_list_append mt_append (pv 2) (pa_cons (pe_callB (cr_sortedD hr.units) (by rfl) T.n_sorted (by decide +kernel) (pa_cons (pe_lock (pe_lc (own := [("place", 5)]) (g := (gName 5)) (by rfl) sc_law_states.nd (pi_keys (pv 1)) (blkOk_by (own := [("place", 5)]) (N := ["requests", "disk", "found", "request", "state", "place"]) (sc := defScope s_law_states) (by decide +kernel))
      (fun _ _ _ _ _ => (pg_name (i := 5) sc_law_states.nd rfl (Or.inl rfl))) (fun _ _ _ _ _ => pts_nil) (fun _ _ _ _ _ => (pe_tup (pa_cons (pv 5) (pa_cons (pe_dget (hu_of hr) (pv 1) (pv 5) (fun _ _ => rfl)) pa_nil)))))) pa_nil)) pa_nil)))
      (pss_one (ps_ret (pv 2))))))), ?_⟩
    refine fun d nd => ⟨Nat.zero_le _, fun D nD => ?_⟩
    have s1 := (Same.new (o := .dT []) nd)
    have nD0 := same_none s1 nD
    have s2 := s1.trans (Same.new (o := .lst []) nD)
    have dd : upd (upd H d (.dT [])) D (.lst []) d = some (.dT []) := by rw [upd_ne (ne_of_none upd_same nD)]; exact upd_same
    have dD : upd (upd H d (.dT [])) D (.lst []) D = some (.lst []) := upd_same
    generalize upd (upd H d (.dT [])) D (.lst []) = H1 at s2 dD dd ⊢
    refine ⟨_, rfl, R, rfl, ⟨_, s2.seq hR.1⟩, for_list (xs := L.map rqR) (fun i σ H' => ∃ (v3 v4 v5 : Option V) (w : Dw) (F : List (Addr × List EnO)), σ = [some (.ref R), some (.ref d), some (.ref D), v3, v4, v5] ∧ Same H H' ∧
      H' D = some (.lst (F.map fun f => V.ref f.1)) ∧ H' d = some (.dT (dwK w)) ∧ (∀ e ∈ w, ∃ r ∈ L, ∃ x y, r.q = some (x, y, e.2.2) ∧ r.s = e.2.1) ∧ (∀ f ∈ F, f.1 ≠ D ∧ H' f.1 = some (.lst (f.2.map enR)) ∧ ∀ e ∈ f.2, EnAt H' e ∧ e.l ≠ D) ∧
      F.map (fun f => f.2.map (·.e)) = (runT ((L.take i).map (·.q))).2 ∧ asM w = (runT ((L.take i).map (·.q))).1) ⟨none, none, none, [], [], rfl, s2, dD, dd, fun _ m => (nomatch m), fun _ m => (nomatch m), rfl, rfl⟩ ?_ ?_ ?_⟩
    · rintro i σ H' _ ⟨v3, v4, v5, w, F, rfl, sH, _⟩
      exact sH.seq hR.1
    · rintro i x σ H2 hx ⟨v3, v4, v5, w, F, rfl, sH, dD, dd, wW, aF, eF, eW⟩
      obtain ⟨e, he, rfl⟩ := rq_item hx
      have me := List.mem_of_getElem? he
      have ae := (hR.2 e me).same sH
      have eT : (L.take (i + 1)).map (·.q) = (L.take i).map (·.q) ++ [e.q] := by rw [take_snoc he, List.map_append]; rfl
      have nd2 : Nd (asM w) := by rw [eW]; exact (invS _).ndT
      have lw : w.length ≤ 400 ∧ F.length ≤ 400 := by
        have h1 := runT_len ((L.take i).map (·.q))
        rw [← eW, ← eF] at h1
        unfold asM at h1
        rw [List.length_map, List.length_map, List.length_map, List.length_take] at h1
        omega
      have nt : ∀ xs, H2 D ≠ some (.tup xs) := fun xs z => by rw [dD] at z; cases z
      have nDd : D ≠ d := ne_of dD dd (by intro z; cases z)
      obtain ⟨t, se, q⟩ := e
      cases q with
      | some z =>
        obtain ⟨x, y, ws⟩ := z
        obtain ⟨ae1, ae2⟩ : H2 t = some (.tup [.str "write", .int x, .int y, .ref se]) ∧ H2 se = some (.lst (ws.map V.int)) := ae
        refine ⟨_, rfl, t, _, _, _, rfl, rfl, SqT.of ae1, at_of (j := 0) rfl rfl, rfl, _, rfl, ?_⟩
        rw [decide_eq_true rfl]
        refine ⟨_, rfl, t, _, _, _, rfl, rfl, SqT.of ae1, at_of (j := 3) rfl rfl, _, rfl, _, rfl, t, _, _, _, rfl, rfl, SqT.of ae1, at_of (j := 1) rfl rfl, _, rfl, t, _, _, _, rfl, rfl, SqT.of ae1, at_of (j := 2) rfl rfl, by show 2 ≤ sizeLine; decide, fun q nq => ?_⟩
        have sq := Same.new (o := .tup [.int x, .int y]) nq
        have dq : upd H2 q (.tup [.int x, .int y]) q = some (.tup [.int x, .int y]) := upd_same
        generalize upd H2 q (.tup [.int x, .int y]) = H3 at sq dq ⊢
        have dd3 := sq _ _ dd
        refine ⟨d, _, rfl, .inr ⟨dwK w, kk (x, y), q, dd3, rfl, dq, small _ (by unfold dwK; rw [List.length_map]; omega), rfl⟩, ?_⟩
        rw [show putK (dwK w) (kk (x, y)) (V.ref se) = dwK (putW w (x, y) (se, ws)) from kv_putW w (x, y) (se, ws)]
        refine ⟨_, _, _, putW w (x, y) (se, ws), F, rfl, same_put (sH.trans sq) nd, by rw [upd_ne nDd]; exact sq _ _ dD, upd_same, fun e m => ?_, fun f m => ?_, ?_, ?_⟩
        · rcases putW_mem m with z | z
          · exact ⟨_, me, x, y, by rw [z], by rw [z]⟩
          · exact wW e z
        · obtain ⟨b1, b2, b3⟩ := aF f m
          refine ⟨b1, by rw [upd_ne (ne_of (sq _ _ b2) dd3 (by intro z; cases z))]; exact sq _ _ b2, fun e m => ?_⟩
          obtain ⟨c1, c2⟩ := b3 e m
          have c3 := c1.same sq
          exact ⟨c3.off dd3 (fun xs z => by cases z) (ne_of c3.2.2 dd3 (by intro z; cases z)), c2⟩
        · rw [eT, runT_snoc]; exact eF
        · rw [eT, runT_snoc, as_putW, eW]; rfl
      | none =>
        have ae1 : H2 t = some (.tup [.str "flush"]) := ae
        refine ⟨_, rfl, t, _, _, _, rfl, rfl, SqT.of ae1, at_of (j := 0) rfl rfl, rfl, _, rfl, ?_⟩
        rw [decide_eq_false (show ¬ (V.str "flush" = V.str "write") by decide +kernel)]
        have dw : DwAt H2 d w := ⟨dd, fun e m => by
          obtain ⟨r, mr, x, y, e1, e2⟩ := wW e m
          have := (hR.2 r mr).same sH
          unfold RqAt at this
          rw [e1] at this
          rw [← e2]
          exact this.2⟩
        refine read_state dw nd2 (by omega) fun p E H3 s3 np dp aE eE => ?_
        have dD3 := s3 _ _ dD
        have dd3 := s3 _ _ dd
        have npD : p ≠ D := (ne_of_none dD np).symm
        have aE3 : ∀ e ∈ E, EnAt H3 e ∧ e.l ≠ D := fun e m => by
          obtain ⟨c1, x, mx, ex⟩ := aE e m
          exact ⟨c1, by rw [ex]; exact ne_of_none (by
            obtain ⟨r, mr, x', y', e1, e2⟩ := wW x mx
            have := hR.2 r mr
            unfold RqAt at this
            rw [e1] at this
            rw [← e2]
            exact this.2) nD0⟩
        have aF3 := states_app dD3 s3 aF dp npD aE3
        have sD : Same H (upd H3 D (.lst ((F ++ [(p, E)]).map fun f => V.ref f.1))) := same_put (sH.trans s3) nD0
        have ddD : upd H3 D (.lst ((F ++ [(p, E)]).map fun f => V.ref f.1)) d = some (.dT (dwK w)) := by rw [upd_ne nDd.symm]; exact dd3
        have eFE : (F ++ [(p, E)]).map (fun f => f.2.map (·.e)) = (runT ((L.take i).map (·.q))).2 ++ [sortA (asM w)] := by rw [List.map_append, eF, ← eE]; rfl
        have step : runT ((L.take i).map (·.q) ++ [none]) = (asM w, if (F.map fun f => f.2.map (·.e)).getLast? = some (sortA (asM w)) then F.map (fun f => f.2.map (·.e)) else F.map (fun f => f.2.map (·.e)) ++ [sortA (asM w)]) := by rw [runT_snoc, eF, eW]; rfl
        rw [← eF] at eFE
        refine ⟨_, rfl, D, _, rfl, .inl (SqL.of dD3), rfl, _, rfl, ?_⟩
        rw [List.length_map]
        rcases List.eq_nil_or_concat F with z | ⟨F0, f, z⟩
        · subst z
          rw [decide_eq_true (show V.int (([] : List (Addr × List EnO)).length : Nat) = V.int 0 from rfl)]
          refine ⟨_, rfl, .inl ⟨rfl, _, SqL.of dD3⟩, _, rfl, D, [], _, rfl, rfl, dD3, by decide, ?_⟩
          exact ⟨_, _, _, w, [] ++ [(p, E)], rfl, sD, upd_same, ddD, wW, aF3, by rw [eT, step, eFE]; rfl, by rw [eT, step]⟩
        · rw [List.concat_eq_append] at z
          have lF : F.length = F0.length + 1 := by rw [z, List.length_append]; rfl
          have hf : (F.map fun f => V.ref f.1)[F0.length]? = some (V.ref f.1) := by rw [z]; simp
          have mf : f ∈ F := by rw [z]; simp
          have lst : (F.map fun f => f.2.map (·.e)).getLast? = some (f.2.map (·.e)) := by rw [z]; simp
          rw [decide_eq_false (show ¬ (V.int (F.length : Nat) = V.int 0) from fun q => by have := V.int.inj q; omega)]
          obtain ⟨f1, f2, f3⟩ := aF f mf
          refine ⟨_, rfl, _, rfl, D, _, rfl, .inl (SqL.of dD3), _, _, rfl, rfl, D, _, _, _, rfl, rfl, SqL.of dD3, at_of (j := F0.length) (by rw [List.length_map]; omega) hf, _, rfl, stD (f.2.map (·.e)), stD (E.map (·.e)), dp_state (s3 _ _ f2) (fun e m => (f3 e m).1.same s3), dp_state dp (fun e m => (aE3 e m).1), st_shaped _, st_shaped _, _, rfl, ?_⟩
          rw [st_eqv, eE]
          by_cases g : f.2.map (·.e) = sortA (asM w)
          · rw [decide_eq_true g]
            rw [lst, if_pos (congrArg some g)] at step
            exact ⟨_, _, _, w, F, rfl, sH.trans s3, dD3, dd3, wW, fun f m => by
              obtain ⟨b1, b2, b3⟩ := aF f m
              exact ⟨b1, s3 _ _ b2, fun e m => ⟨(b3 e m).1.same s3, (b3 e m).2⟩⟩, by rw [eT, step], by rw [eT, step]⟩
          · rw [decide_eq_false g]
            rw [lst, if_neg (fun q => g (Option.some.inj q))] at step
            refine ⟨_, rfl, .inl ⟨rfl, _, SqL.of dD3⟩, _, rfl, D, F.map (fun f => V.ref f.1), _, rfl, rfl, dD3, small _ (by rw [List.length_map]; omega), ?_⟩
            rw [show (F.map fun f => V.ref f.1) ++ [V.ref p] = (F ++ [(p, E)]).map fun f => V.ref f.1 by rw [List.map_append]; rfl]
            exact ⟨_, _, _, w, F ++ [(p, E)], rfl, sD, upd_same, ddD, wW, aF3, by rw [eT, step, eFE], by rw [eT, step]⟩
    · rintro σ H2 ⟨v3, v4, v5, w, F, rfl, sH, dD, dd, wW, aF, eF, eW⟩
      rw [List.length_map, List.take_length] at eF eW
      have nd2 : Nd (asM w) := by rw [eW]; exact (invS _).ndT
      have lw : w.length ≤ 400 ∧ F.length ≤ 400 := by
        have h1 := runT_len (L.map (·.q))
        rw [← eW, ← eF] at h1
        unfold asM at h1
        rw [List.length_map, List.length_map, List.length_map] at h1
        omega
      have dw : DwAt H2 d w := ⟨dd, fun e m => by
        obtain ⟨r, mr, x, y, e1, e2⟩ := wW e m
        have := (hR.2 r mr).same sH
        unfold RqAt at this
        rw [e1] at this
        rw [← e2]
        exact this.2⟩
      refine ⟨_, rfl, .inl ⟨rfl, _, SqL.of dD⟩, read_state dw nd2 (by omega) fun p E H3 s3 np dp aE eE => ?_⟩
      have dD3 := s3 _ _ dD
      have npD : p ≠ D := (ne_of_none dD np).symm
      have aE3 : ∀ e ∈ E, EnAt H3 e ∧ e.l ≠ D := fun e m => by
        obtain ⟨c1, x, mx, ex⟩ := aE e m
        exact ⟨c1, by rw [ex]; exact ne_of_none (by
          obtain ⟨r, mr, x', y', e1, e2⟩ := wW x mx
          have := hR.2 r mr
          unfold RqAt at this
          rw [e1] at this
          rw [← e2]
          exact this.2) nD0⟩
      have aF3 := states_app dD3 s3 aF dp npD aE3
      refine ⟨D, F.map (fun f => V.ref f.1), _, rfl, rfl, dD3, small _ (by rw [List.length_map]; omega), ?_⟩
      rw [show (F.map fun f => V.ref f.1) ++ [V.ref p] = (F ++ [(p, E)]).map fun f => V.ref f.1 by rw [List.map_append]; rfl]
      refine ⟨_, rfl, k D _ (same_put (sH.trans s3) nD0) ?_⟩
      have := dp_states (K := K) (upd_same (H := H3) (a := D) (o := .lst ((F ++ [(p, E)]).map fun f => V.ref f.1))) fun f m => ⟨(aF3 f m).2.1, fun e m2 => ((aF3 f m).2.2 e m2).1⟩
      unfold statesT
      rw [← eF, ← eW, ← eE]
      have eFE : (F ++ [(p, E)]).map (fun f => f.2.map (·.e)) = F.map (fun f => f.2.map (·.e)) ++ [E.map (·.e)] := by rw [List.map_append]; rfl
      rw [eFE] at this
      exact this
theorem sc_law_in_order : FnScope ["requests", "last", "k", "request"] ["requests"] (defScope s_law_in_order) := ⟨rfl, rfl, rfl, by decide +kernel, rfl, by decide +kernel, by decide +kernel⟩
theorem ok_law_in_order (T : Txt K mg a) : FnOk P w K mg base CX0 1 a.f_law_in_order a.d_law_in_order ["requests"] (sp_law_in_order K a) := by
  refine T.F_law_in_order.ok sc_law_in_order (fun vs H Q E h => ?len) (fun cdv A outer s H vs Q E hr h => ?body)
  case len =>
    exact sp_law_in_order_len h
  case body =>
    obtain ⟨R, L, rfl, hR, hl, hI, k⟩ := h
    refine ⟨_, (pss_cons (ps_set (i := 1) sc_law_in_order.nd rfl (Or.inl rfl) pe_non)
      (pss_cons (ps_for PassesOwn.never rfl (pi_range1 (by rfl) T.n_range (pa_cons (pe_callB call_len_seq (by rfl) T.n_len PySem.boot_len (pa_cons (pv 0) pa_nil)) pa_nil)) (pg_name (i := 2) sc_law_in_order.nd rfl (Or.inl rfl))
      (pss_cons (ps_set (i := 3) sc_law_in_order.nd rfl (Or.inl rfl) (pe_ix ix_list (pv 0) (pv 2) (fun _ _ => rfl)))
      (pss_one (ps_if (pt_cmpR op_eq (pe_ix ix_tup (pv 3) pe_int (fun _ _ => rfl)) pe_str (nomark _))
      (pss_cons (ps_if (PW.pt (pw_and (pt_cmpR op_notN (pv 1) pe_non (nomark _)) (pw_and1 (pt_cmpR (op_geD hr.units) (pv 1) (pe_tup (pa_cons (pe_ix ix_tup (pv 3) pe_int (fun _ _ => rfl)) (pa_cons (pe_ix ix_tup (pv 3) pe_int (fun _ _ => rfl)) pa_nil))) (nomark _)))))
      (pss_one (ps_ret pe_bl))
      pss_nil)
      (pss_one (ps_set (i := 1) sc_law_in_order.nd rfl (Or.inl rfl) (pe_tup (pa_cons (pe_ix ix_tup (pv 3) pe_int (fun _ _ => rfl)) (pa_cons (pe_ix ix_tup (pv 3) pe_int (fun _ _ => rfl)) pa_nil))))))
      (pss_cons (ps_if (PW.pt (pw_or (pt_cmpR (op_neD hr.units) (pv 3) (pe_tup (pa_cons pe_str pa_nil)) (nomark _)) (pw_or1 (PW.pt (pw_and (pt_cmpR op_gt (pv 2) pe_int (nomark _)) (pw_and1 (pt_cmpR (op_eqD hr.units) (pe_ix ix_list (pv 0) (pe_op op_sub (pv 2) pe_int) (fun _ _ => rfl)) (pe_tup (pa_cons pe_str pa_nil)) (nomark _))))))))
      (pss_one (ps_ret pe_bl))
      pss_nil)
      (pss_one (ps_set (i := 1) sc_law_in_order.nd rfl (Or.inl rfl) pe_non)))))))
      (pss_one (ps_ret pe_bl)))), ?_⟩
    have pre : ∀ (A B : List Req), (runI (A ++ B)).isSome = true → (runI A).isSome = true := fun A => by
      refine rev_ind (fun h => by rwa [List.append_nil] at h) fun B q ih h => ?_
      rw [← List.append_assoc, runI_snoc] at h
      cases z : runI (A ++ B) with
      | none => rw [z] at h; cases h
      | some s => exact ih (by rw [z]; rfl)
    refine ⟨_, rfl, R, _, rfl, .inl hR.1, _, rfl, by omega, by rw [List.length_map]; omega, ?_⟩
    rw [Int.toNat_natCast, List.length_map]
    refine for_range (lo := 0) (n := L.length) (fun i σ H' => ∃ (v2 v3 : Option V) (lv : V) (lo : Option Kp) (pf : Bool), σ = [some (.ref R), some lv, v2, v3] ∧ Same H H' ∧ runI ((L.take i).map (·.q)) = some (lo, pf) ∧
      (lo = none → lv = .non) ∧ (∀ z, lo = some z → ∃ q, lv = .ref q ∧ H' q = some (.tup [.int z.1, .int z.2])) ∧ (pf = true ↔ ((L.take i).map (·.q)).getLast? = some none)) ⟨none, none, .non, none, false, rfl, Same.refl _, rfl, fun _ => rfl, fun z q => (nomatch q), by simp⟩ ?_ ?_
    · rintro i σ H2 hi ⟨v2, v3, lv, lo, pf, rfl, sH, eI, h1, h2, h3⟩
      have he : L[i]? = some L[i] := List.getElem?_eq_getElem hi
      generalize L[i] = e at he
      have me := List.mem_of_getElem? he
      have ae := (hR.2 e me).same sH
      have eT : (L.take (i + 1)).map (·.q) = (L.take i).map (·.q) ++ [e.q] := by rw [take_snoc he, List.map_append]; rfl
      have sm : (runI ((L.take (i + 1)).map (·.q))).isSome = true := by
        refine pre _ ((L.drop (i + 1)).map (·.q)) ?_
        rw [← List.map_append, List.take_append_drop]
        exact hI
      rw [eT, runI_snoc, eI] at sm
      obtain ⟨t, se, q⟩ := e
      refine ⟨_, rfl, _, rfl, R, _, _, _, rfl, rfl, sH.seq hR.1, at_of (j := i) (by omega) (rq_get he), ?_⟩
      cases q with
      | some z =>
        obtain ⟨x, y, ws⟩ := z
        obtain ⟨ae1, ae2⟩ : H2 t = some (.tup [.str "write", .int x, .int y, .ref se]) ∧ H2 se = some (.lst (ws.map V.int)) := ae
        refine ⟨_, rfl, t, _, _, _, rfl, rfl, SqT.of ae1, at_of (j := 0) rfl rfl, rfl, _, rfl, ?_⟩
        rw [decide_eq_true rfl]
        have fin : ∀ (H3 : Hp) (s3 : Same H2 H3) (p : Addr) (H4 : Hp), Same H3 H4 → H4 p = some (.tup [.int x, .int y]) → stepI (some (lo, pf)) (some (x, y, ws)) = some (some (x, y), false) → ∃ (v2 v3 : Option V) (lv : V) (lo : Option Kp) (pf : Bool), [some (.ref R), some (.ref p), some (.int (0 + (i : Nat))), some (.ref t)] = [some (.ref R), some lv, v2, v3] ∧ Same H H4 ∧ runI ((L.take (i + 1)).map (·.q)) = some (lo, pf) ∧
            (lo = none → lv = .non) ∧ (∀ z, lo = some z → ∃ q, lv = .ref q ∧ H4 q = some (.tup [.int z.1, .int z.2])) ∧ (pf = true ↔ ((L.take (i + 1)).map (·.q)).getLast? = some none) := fun H3 s3 p H4 s4 hp es =>
          ⟨_, _, _, some (x, y), false, rfl, sH.trans (s3.trans s4), by rw [eT, runI_snoc, eI, es], fun z => (nomatch z), fun z q => ⟨p, rfl, by cases q; exact hp⟩, by rw [eT]; simp⟩
        cases lo with
        | none =>
          obtain rfl := h1 rfl
          refine ⟨_, rfl, rfl, _, rfl, ?_⟩
          rw [decide_eq_true rfl]
          refine ⟨_, rfl, t, _, _, _, rfl, rfl, SqT.of ae1, at_of (j := 1) rfl rfl, _, rfl, t, _, _, _, rfl, rfl, SqT.of ae1, at_of (j := 2) rfl rfl, by show 2 ≤ sizeLine; decide, fun p np => ?_⟩
          exact fin H2 (Same.refl _) p _ (Same.new np) upd_same rfl
        | some z =>
          obtain ⟨q, rfl, hq⟩ := h2 z rfl
          have hz : ltK z (x, y) = true := by
            cases g : ltK z (x, y) with
            | true => rfl
            | false =>
              have sm' : (if ltK z (x, y) = true then some (some (x, y), false) else (none : Option (Option Kp × Bool))).isSome = true := sm
              rw [g] at sm'
              cases sm'
          have es : stepI (some (some z, pf)) (some (x, y, ws)) = some (some (x, y), false) := by
            show (if ltK z (x, y) = true then some (some (x, y), false) else (none : Option (Option Kp × Bool))) = _
            rw [hz]
            rfl
          refine ⟨_, rfl, rfl, _, rfl, ?_⟩
          rw [decide_eq_false (show ¬ (V.ref q = V.non) from fun z => nomatch z)]
          refine ⟨_, rfl, _, rfl, t, _, _, _, rfl, rfl, SqT.of ae1, at_of (j := 1) rfl rfl, _, rfl, t, _, _, _, rfl, rfl, SqT.of ae1, at_of (j := 2) rfl rfl, by show 2 ≤ sizeLine; decide, fun p np => ?_⟩
          have sp := Same.new (o := .tup [.int x, .int y]) np
          have dp : upd H2 p (.tup [.int x, .int y]) p = some (.tup [.int x, .int y]) := upd_same
          generalize upd H2 p (.tup [.int x, .int y]) = H3 at sp dp ⊢
          refine ⟨.tuple [.int z.1, .int z.2], .tuple [.int x, .int y], .tup (SqT.of (sp _ _ hq)) (.cons (.int _) (.cons (.int _) .nil)), .tup (SqT.of dp) (.cons (.int _) (.cons (.int _) .nil)), by simp [PySem.W.alike, PySem.W.alikeAll], fun z => (nomatch z), by simp [PyData.depth, PyData.depthAll], _, rfl, ?_⟩
          rw [PySem.W.dataLt_ii, show decide (z.1 < x ∨ z.1 = x ∧ z.2 < y) = true from hz]
          have ae3 := sp _ _ ae1
          refine ⟨_, rfl, t, _, _, _, rfl, rfl, SqT.of ae3, at_of (j := 1) rfl rfl, _, rfl, t, _, _, _, rfl, rfl, SqT.of ae3, at_of (j := 2) rfl rfl, by show 2 ≤ sizeLine; decide, fun p2 np2 => ?_⟩
          exact fin H3 sp p2 _ (Same.new np2) upd_same es
      | none =>
        have ae1 : H2 t = some (.tup [.str "flush"]) := ae
        refine ⟨_, rfl, t, _, _, _, rfl, rfl, SqT.of ae1, at_of (j := 0) rfl rfl, rfl, _, rfl, ?_⟩
        rw [decide_eq_false (show ¬ (V.str "flush" = V.str "write") by decide +kernel)]
        have hpf : pf = false := by
          cases pf with
          | false => rfl
          | true => exact (nomatch (show (false = true) from sm))
        subst hpf
        have hnl : ((L.take i).map (·.q)).getLast? ≠ some none := fun z => nomatch h3.mpr z
        refine ⟨_, rfl, by show 1 ≤ sizeLine; decide, fun q0 nq0 => ?_⟩
        have sq0 := Same.new (o := .tup [.str "flush"]) nq0
        have dq0 : upd H2 q0 (.tup [.str "flush"]) q0 = some (.tup [.str "flush"]) := upd_same
        generalize upd H2 q0 (.tup [.str "flush"]) = H3 at sq0 dq0 ⊢
        refine ⟨rqD none, rqD none, dp_rq (e := ⟨t, se, none⟩) (sq0 _ _ ae1), dp_rq (e := ⟨q0, q0, none⟩) dq0, rq_shaped _, rq_shaped _, _, rfl, ?_⟩
        rw [rq_flush]
        have fin : ∀ H4, Same H3 H4 → ∃ (v2 v3 : Option V) (lv : V) (lo : Option Kp) (pf : Bool), [some (.ref R), some V.non, some (.int (0 + (i : Nat))), some (.ref t)] = [some (.ref R), some lv, v2, v3] ∧ Same H H4 ∧ runI ((L.take (i + 1)).map (·.q)) = some (lo, pf) ∧
            (lo = none → lv = .non) ∧ (∀ z, lo = some z → ∃ q, lv = .ref q ∧ H4 q = some (.tup [.int z.1, .int z.2])) ∧ (pf = true ↔ ((L.take (i + 1)).map (·.q)).getLast? = some none) := fun H4 s4 =>
          ⟨_, _, .non, none, true, rfl, sH.trans (sq0.trans s4), by rw [eT, runI_snoc, eI]; rfl, fun _ => rfl, fun z q => (nomatch q), by rw [eT]; simp⟩
        refine ⟨_, rfl, _, _, rfl, rfl, _, rfl, ?_⟩
        by_cases hi0 : i = 0
        · rw [decide_eq_false (show ¬ (0 : Int) < 0 + (i : Nat) by omega)]
          exact fin H3 (Same.refl _)
        · rw [decide_eq_true (show (0 : Int) < 0 + (i : Nat) by omega)]
          have hp : L[i - 1]? = some L[i - 1] := List.getElem?_eq_getElem (by omega)
          generalize L[i - 1] = pr at hp
          have mp := List.mem_of_getElem? hp
          have lastq : ((L.take i).map (·.q)).getLast? = some pr.q := by
            rw [show i = i - 1 + 1 by omega, take_snoc hp, List.map_append]
            simp
          have hq : pr.q.isNone = false := by
            cases z : pr.q with
            | some _ => rfl
            | none => rw [lastq, z] at hnl; exact absurd rfl hnl
          refine ⟨_, rfl, _, rfl, _, _, rfl, rfl, R, _, _, _, rfl, rfl, (sH.trans sq0).seq hR.1, at_of (j := i - 1) (by omega) (rq_get hp), by show 1 ≤ sizeLine; decide, fun q1 nq1 => ?_⟩
          have sq1 := Same.new (o := .tup [.str "flush"]) nq1
          have dq1 : upd H3 q1 (.tup [.str "flush"]) q1 = some (.tup [.str "flush"]) := upd_same
          generalize upd H3 q1 (.tup [.str "flush"]) = H4 at sq1 dq1 ⊢
          refine ⟨rqD pr.q, rqD none, dp_rq ((hR.2 pr mp).same (sH.trans (sq0.trans sq1))), dp_rq (e := ⟨q1, q1, none⟩) dq1, rq_shaped _, rq_shaped _, _, rfl, ?_⟩
          rw [rq_flush, hq]
          exact fin H4 sq1
    · rintro σ H2 ⟨v2, v3, lv, lo, pf, rfl, sH, _⟩
      exact k H2 sH
theorem sc_schedule : FnScope ["requests", "scheduled", "written", "request", "_", "disk", "row", "sector"] ["requests"] (defScope s_schedule) := ⟨rfl, rfl, rfl, by decide +kernel, rfl, by decide +kernel, by decide +kernel⟩
theorem ok_schedule (T : Txt K mg a) : FnOk P w K mg base CX0 2 a.f_schedule a.d_schedule ["requests"] (sp_schedule K a) := by
  refine T.F_schedule.ok sc_schedule (fun vs H Q E h => ?len) (fun cdv A outer s H vs Q E hr h => ?body)
  case len =>
    exact sp_schedule_len h
  case body =>
    obtain ⟨R, L, rfl, hR, hl, sh, k⟩ := h
    refine ⟨_, (pss_cons (ps_set (i := 1) sc_schedule.nd rfl (Or.inl rfl) (pe_lst pa_nil))
      (pss_cons (ps_set (i := 2) sc_schedule.nd rfl (Or.inl rfl) pe_dnewT)
      (pss_cons (ps_for PassesOwn.never rfl (pi_list (pv 0)) (pg_name (i := 3) sc_schedule.nd rfl (Or.inl rfl))
      (pss_cons (ps_if (pt_cmpR op_eq (pe_ix ix_tup (pv 3) pe_int (fun _ _ => rfl)) pe_str (nomark _))
      (pss_cons (ps_asg (pv 3) (pg_tup rfl (pgs_cons (pg_name (i := 4) sc_schedule.nd rfl (Or.inl rfl)) (pgs_cons (pg_name (i := 5) sc_schedule.nd rfl (Or.inl rfl)) (pgs_cons (pg_name (i := 6) sc_schedule.nd rfl (Or.inl rfl)) (pgs_cons (pg_name (i := 7) sc_schedule.nd rfl (Or.inl rfl)) pgs_nil))))))
      (pss_cons (ps_dput (hu_of hr) (pv 2) (pe_tup (pa_cons (pv 5) (pa_cons (pv 6) pa_nil))) (pv 7) rfl)
      (pss_one ps_continue)))
      pss_nil)
      (pss_cons (ps_expr (pe_bm PySem.F.plainAttrs_list PySem.F.slot_list_extend PySem.F.type_list_extend mt_extend (pv 1) (pa_cons (pe_call (ok_ordered_writes T) (hr.mono (by decide)) rfl T.g_ordered_writes T.F_ordered_writes.kp T.d_ordered_writes .nil pass0 (pa_cons (pv 2) pa_nil)) pa_nil)))
      (pss_cons (ps_set (i := 2) sc_schedule.nd rfl (Or.inl rfl) pe_dnewT)
      (pss_one (ps_if (PW.pt (pw_or (pt_not (pt_truth (pv 1) (by intro _; rfl))) (pw_or1 (pt_cmpR (op_neD hr.units) (pe_ix ix_list (pv 1) (pe_un un_neg pe_int) (fun _ _ => rfl)) (pe_tup (pa_cons pe_str pa_nil)) (nomark _)))))
      (pss_one (ps_expr (pe_bm PySem.F.plainAttrs_list PySem.F.slot_list_append PySem.F.type_list_append mt_append (pv 1) (pa_cons (pe_tup (pa_cons pe_str pa_nil)) pa_nil))))
      pss_nil))))))
      (pss_cons (ps_expr (pe_bm PySem.F.plainAttrs_list PySem.F.slot_list_extend PySem.F.type_list_extend mt_extend (pv 1) (pa_cons (pe_call (ok_ordered_writes T) (hr.mono (by decide)) rfl T.g_ordered_writes T.F_ordered_writes.kp T.d_ordered_writes .nil pass0 (pa_cons (pv 2) pa_nil)) pa_nil)))
      (pss_one (ps_ret (pv 1))))))), ?_⟩
    refine ⟨Nat.zero_le _, fun S nS d nd => ?_⟩
    have nSR : H S = none := nS
    have s1 := (Same.new (o := .lst []) nS)
    have s2 := s1.trans (Same.new (o := .dT []) nd)
    have dS : upd (upd H S (.lst [])) d (.dT []) S = some (.lst []) := by rw [upd_ne (ne_of_none upd_same nd)]; exact upd_same
    have dd : upd (upd H S (.lst [])) d (.dT []) d = some (.dT []) := upd_same
    have nd0 := same_none s1 nd
    generalize upd (upd H S (.lst [])) d (.dT []) = H1 at s2 dS dd ⊢
    refine ⟨_, rfl, R, rfl, ⟨_, s2.seq hR.1⟩, for_list (xs := L.map rqR) (fun i σ H' => ∃ (v3 v4 v5 v6 v7 : Option V) (M : List RqO) (d : Addr) (w : Dw), σ = [some (.ref R), some (.ref S), some (.ref d), v3, v4, v5, v6, v7] ∧ Same H H' ∧
      H' S = some (.lst (M.map rqR)) ∧ H' d = some (.dT (dwK w)) ∧ H d = none ∧ (∀ e ∈ w, ∃ r ∈ L, ∃ x y, r.q = some (x, y, e.2.2) ∧ r.s = e.2.1) ∧ (∀ e ∈ M, RqAt H' e ∧ H e.s = none ∧ e.s ≠ S) ∧
      M.map (·.q) = (runS ((L.take i).map (·.q))).1 ∧ asM w = (runS ((L.take i).map (·.q))).2) ⟨none, none, none, none, none, [], d, [], rfl, s2, dS, dd, nd0, fun _ m => (nomatch m), fun _ m => (nomatch m), rfl, rfl⟩ ?_ ?_ ?_⟩
    · rintro i σ H' _ ⟨v3, v4, v5, v6, v7, M, d, w, rfl, sH, _⟩
      exact sH.seq hR.1
    · rintro i x σ H2 hx ⟨v3, v4, v5, v6, v7, M, d, w, rfl, sH, dM, dd, nd, wW, aM, eM, eW⟩
      obtain ⟨e, he, rfl⟩ := rq_item hx
      have me := List.mem_of_getElem? he
      have ae := (hR.2 e me).same sH
      have eT : (L.take (i + 1)).map (·.q) = (L.take i).map (·.q) ++ [e.q] := by rw [take_snoc he, List.map_append]; rfl
      obtain ⟨t, se, q⟩ := e
      have nd2 : Nd (asM w) := by rw [eW]; exact (invS _).nd
      have lw : w.length ≤ 400 := by
        have h1 := runS_len ((L.take i).map (·.q))
        rw [← eW] at h1
        unfold asM at h1
        rw [List.length_map, List.length_map, List.length_take] at h1
        omega
      cases q with
      | some z =>
        obtain ⟨x, y, ws⟩ := z
        obtain ⟨ae1, ae2⟩ : H2 t = some (.tup [.str "write", .int x, .int y, .ref se]) ∧ H2 se = some (.lst (ws.map V.int)) := ae
        refine ⟨_, rfl, t, _, _, _, rfl, rfl, SqT.of ae1, at_of (j := 0) rfl rfl, rfl, _, rfl, ?_⟩
        rw [decide_eq_true rfl]
        refine ⟨_, rfl, t, _, rfl, SqT.of ae1, rfl, _, _, rfl, _, _, rfl, _, _, rfl, _, _, rfl, rfl, ?_⟩
        refine ⟨_, rfl, _, rfl, _, rfl, _, rfl, by show 2 ≤ sizeLine; decide, fun q nq => ?_⟩
        have sq := Same.new (o := .tup [.int x, .int y]) nq
        have dq : upd H2 q (.tup [.int x, .int y]) q = some (.tup [.int x, .int y]) := upd_same
        generalize upd H2 q (.tup [.int x, .int y]) = H3 at sq dq ⊢
        have dd3 := sq _ _ dd
        refine ⟨d, _, rfl, .inr ⟨dwK w, kk (x, y), q, dd3, rfl, dq, small _ (by unfold dwK; rw [List.length_map]; omega), rfl⟩, ?_⟩
        rw [show putK (dwK w) (kk (x, y)) (V.ref se) = dwK (putW w (x, y) (se, ws)) from kv_putW w (x, y) (se, ws)]
        have nSd : S ≠ d := ne_of (sq _ _ dM) dd3 (by intro z; cases z)
        refine ⟨_, _, _, _, _, M, d, putW w (x, y) (se, ws), rfl, same_put (sH.trans sq) nd, by rw [upd_ne nSd]; exact sq _ _ dM, upd_same, nd, fun e m => ?_, fun e m => ⟨((aM e m).1.same sq).putD dd3, (aM e m).2⟩, ?_, ?_⟩
        · rcases putW_mem m with z | z
          · exact ⟨_, me, x, y, by rw [z], by rw [z]⟩
          · exact wW e z
        · rw [eT, runS_snoc]; exact eM
        · rw [eT, runS_snoc, as_putW, eW]; rfl
      | none =>
        have ae1 : H2 t = some (.tup [.str "flush"]) := ae
        refine ⟨_, rfl, t, _, _, _, rfl, rfl, SqT.of ae1, at_of (j := 0) rfl rfl, rfl, _, rfl, ?_⟩
        rw [decide_eq_false (show ¬ (V.str "flush" = V.str "write") by decide +kernel)]
        refine ⟨_, rfl, .inl ⟨rfl, _, SqL.of dM⟩, _, rfl, d, w, rfl, ⟨dd, fun e m => ?_⟩, nd2, by omega, fun e m => ?_, fun D N H3 s3 nD dD aN eN => ?_⟩
        · obtain ⟨r, mr, x, y, e1, e2⟩ := wW e m
          have := (hR.2 r mr).same sH
          unfold RqAt at this
          rw [e1] at this
          rw [← e2]
          exact this.2
        · obtain ⟨r, mr, x, y, e1, e2⟩ := wW e m
          exact sh r mr x y _ e1
        have lMN : M.length + N.length ≤ 400 := by
          have h1 := runS_len ((L.take i).map (·.q))
          rw [← eM, ← eW, List.length_map, List.length_map, List.length_take] at h1
          have h2 := congrArg List.length eN
          rw [List.length_map, ordM_len] at h2
          omega
        refine ⟨S, D, _, _, rfl, rfl, s3 _ _ dM, dD, by rw [List.length_map, List.length_map]; exact Nat.le_of_lt (small _ (by omega)), ?_⟩
        rw [← List.map_append]
        have sH4 : Same H (upd H3 S (.lst ((M ++ N).map rqR))) := same_put (sH.trans s3) nSR
        have d4 : upd H3 S (.lst ((M ++ N).map rqR)) S = some (.lst ((M ++ N).map rqR)) := upd_same
        have nt3 : ∀ xs, H3 S ≠ some (.tup xs) := fun xs z => by rw [s3 _ _ dM] at z; cases z
        have a4 : ∀ e ∈ M ++ N, RqAt (upd H3 S (.lst ((M ++ N).map rqR))) e ∧ H e.s = none ∧ e.s ≠ S := fun e m => by
          rcases List.mem_append.mp m with m | m
          · obtain ⟨b1, b2, b3⟩ := aM e m
            exact ⟨(b1.same s3).put nt3 b3, b2, b3⟩
          · obtain ⟨b1, b2, _⟩ := aN e m
            have b3 : e.s ≠ S := (ne_of_none dM b2).symm
            exact ⟨b1.put nt3 b3, same_none sH b2, b3⟩
        have e4 : (M ++ N).map (·.q) = (runS ((L.take i).map (·.q))).1 ++ ordM (runS ((L.take i).map (·.q))).2 := by rw [List.map_append, eM, eN, eW]
        have l4 : (M ++ N).length ≤ 400 := by rw [List.length_append]; exact lMN
        generalize upd H3 S (.lst ((M ++ N).map rqR)) = H4 at sH4 d4 a4 ⊢
        generalize M ++ N = MN at d4 a4 e4 l4 ⊢
        clear aM aN eM eN dM dD wW dd nd nd2 lw eW lMN nt3 s3
        refine fun d' nd' => ?_
        have s5 := Same.new (o := .dT []) nd'
        have dd5 : upd H4 d' (.dT []) d' = some (.dT (dwK [])) := upd_same
        generalize upd H4 d' (.dT []) = H5 at s5 dd5 ⊢
        have d5 := s5 _ _ d4
        have nd5 : H d' = none := same_none sH4 nd'
        have app : ∀ (Hx : Hp) (q : Addr), Same H5 Hx → Hx q = none → Same H (upd (upd Hx q (.tup [.str "flush"])) S (.lst (MN.map rqR ++ [V.ref q]))) ∧
            upd (upd Hx q (.tup [.str "flush"])) S (.lst (MN.map rqR ++ [V.ref q])) S = some (.lst ((MN ++ [(⟨q, q, none⟩ : RqO)]).map rqR)) ∧ upd (upd Hx q (.tup [.str "flush"])) S (.lst (MN.map rqR ++ [V.ref q])) d' = some (.dT (dwK [])) ∧
            ∀ e ∈ MN ++ [(⟨q, q, none⟩ : RqO)], RqAt (upd (upd Hx q (.tup [.str "flush"])) S (.lst (MN.map rqR ++ [V.ref q]))) e ∧ H e.s = none ∧ e.s ≠ S := fun Hx q sx nq => by
          have sy := sx.trans (Same.new (o := .tup [.str "flush"]) nq)
          have dq : upd Hx q (.tup [.str "flush"]) q = some (.tup [.str "flush"]) := upd_same
          generalize upd Hx q (.tup [.str "flush"]) = Hy at sy dq ⊢
          have dSy := sy _ _ d5
          have nt : ∀ xs, Hy S ≠ some (.tup xs) := fun xs z => by rw [dSy] at z; cases z
          have nqS : q ≠ S := (ne_of_none (sx _ _ d5) nq).symm
          refine ⟨same_put (sH4.trans (s5.trans sy)) nSR, by rw [List.map_append]; exact upd_same, by rw [upd_ne (ne_of (sy _ _ dd5) dSy (by intro z; cases z))]; exact sy _ _ dd5, fun e m => ?_⟩
          rcases List.mem_append.mp m with m | m
          · obtain ⟨b1, b2, b3⟩ := a4 e m
            exact ⟨(b1.same (s5.trans sy)).put nt b3, b2, b3⟩
          · rw [List.mem_singleton.mp m]
            exact ⟨RqAt.put (e := ⟨q, q, none⟩) dq nt nqS, same_none (sH4.trans (s5.trans sx)) nq, nqS⟩
        have step : (runS ((L.take i).map (·.q) ++ [none])) = (if (MN.map (·.q)).getLast? = some none then MN.map (·.q) else MN.map (·.q) ++ [none], []) := by rw [runS_snoc, e4]; rfl
        rcases List.eq_nil_or_concat MN with z | ⟨M0, u, z⟩
        · subst z
          refine ⟨_, rfl, false, .inl ⟨_, SqL.of d5, rfl⟩, ?_⟩
          refine ⟨_, rfl, .inl ⟨rfl, _, SqL.of d5⟩, by show 1 ≤ sizeLine; decide, fun q nq => ⟨S, [], _, rfl, rfl, ?_, by decide, ?_⟩⟩
          · rw [upd_ne (ne_of_none d5 nq)]; exact d5
          obtain ⟨f1, f2, f3, f4⟩ := app _ q (Same.refl _) nq
          exact ⟨_, _, _, _, _, _, d', [], rfl, f1, f2, f3, nd5, fun _ m => (nomatch m), f4, by rw [eT, step]; rfl, by rw [eT, step]; rfl⟩
        · rw [List.concat_eq_append] at z
          have hlast : atI (MN.map rqR) (-1) = some (rqR u) := by rw [z, List.map_append]; exact atI_last _ _
          have hne : true = !(MN.map rqR).isEmpty := by rw [z, List.map_append]; simp
          have mu : u ∈ MN := by rw [z]; simp
          have hg : (MN.map (·.q)).getLast? = some u.q := by rw [z, List.map_append]; simp
          refine ⟨_, rfl, true, .inl ⟨_, SqL.of d5, hne⟩, ?_⟩
          refine ⟨_, rfl, 1, rfl, S, MN.map rqR, -1, rqR u, rfl, rfl, SqL.of d5, hlast, by show 1 ≤ sizeLine; decide, fun q0 nq0 => ?_⟩
          have sq0 := Same.new (o := .tup [.str "flush"]) nq0
          have dq0 : upd H5 q0 (.tup [.str "flush"]) q0 = some (.tup [.str "flush"]) := upd_same
          generalize upd H5 q0 (.tup [.str "flush"]) = H6 at sq0 dq0 ⊢
          refine ⟨rqD u.q, rqD none, dp_rq ((a4 u mu).1.same (s5.trans sq0)), dp_rq (e := ⟨q0, q0, none⟩) dq0, rq_shaped _, rq_shaped _, _, rfl, ?_⟩
          rw [rq_flush]
          cases hu : u.q with
          | some v =>
            have step' : runS ((L.take i).map (·.q) ++ [none]) = (MN.map (·.q) ++ [none], []) := by rw [step, hg, hu]; rfl
            refine ⟨_, rfl, .inl ⟨rfl, _, SqL.of (sq0 _ _ d5)⟩, by show 1 ≤ sizeLine; decide, fun q nq => ⟨S, MN.map rqR, _, rfl, rfl, ?_, small _ (by rw [List.length_map]; omega), ?_⟩⟩
            · rw [upd_ne (ne_of_none (sq0 _ _ d5) nq)]; exact sq0 _ _ d5
            obtain ⟨f1, f2, f3, f4⟩ := app _ q sq0 nq
            exact ⟨_, _, _, _, _, _, d', [], rfl, f1, f2, f3, nd5, fun _ m => (nomatch m), f4, by rw [eT, step', List.map_append]; rfl, by rw [eT, step']; rfl⟩
          | none =>
            have step' : runS ((L.take i).map (·.q) ++ [none]) = (MN.map (·.q), []) := by rw [step, hg, hu]; rfl
            exact ⟨_, _, _, _, _, MN, d', [], rfl, sH4.trans (s5.trans sq0), sq0 _ _ d5, sq0 _ _ dd5, nd5, fun _ m => (nomatch m), fun e m => ⟨(a4 e m).1.same (s5.trans sq0), (a4 e m).2⟩, by rw [eT, step'], by rw [eT, step']; rfl⟩
    · rintro σ H2 ⟨v3, v4, v5, v6, v7, M, d, w, rfl, sH, dM, dd, nd, wW, aM, eM, eW⟩
      rw [List.length_map, List.take_length] at eM eW
      have nd2 : Nd (asM w) := by rw [eW]; exact (invS _).nd
      have ln := runS_len (L.map (·.q))
      rw [← eM, ← eW, List.length_map, List.length_map] at ln
      have lw : (asM w).length = w.length := by unfold asM; rw [List.length_map]
      rw [lw] at ln
      refine ⟨_, rfl, .inl ⟨rfl, _, SqL.of dM⟩, _, rfl, d, w, rfl, ⟨dd, fun e m => ?_⟩, nd2, by omega, fun e m => ?_, fun D N H3 s3 nD dD aN eN => ?_⟩
      · obtain ⟨r, mr, x, y, e1, e2⟩ := wW e m
        have := (hR.2 r mr).same sH
        unfold RqAt at this
        rw [e1] at this
        rw [← e2]
        exact this.2
      · obtain ⟨r, mr, x, y, e1, e2⟩ := wW e m
        exact sh r mr x y _ e1
      have lMN : M.length + N.length ≤ 400 := by
        have h2 := congrArg List.length eN
        rw [List.length_map, ordM_len] at h2
        omega
      have nt3 : ∀ xs, H3 S ≠ some (.tup xs) := fun xs z => by rw [s3 _ _ dM] at z; cases z
      refine ⟨S, D, _, _, rfl, rfl, s3 _ _ dM, dD, by rw [List.length_map, List.length_map]; exact Nat.le_of_lt (small _ (by omega)), ?_⟩
      rw [← List.map_append]
      refine ⟨_, rfl, k S (M ++ N) _ (same_put (sH.trans s3) nSR) nSR upd_same (fun e m => ?_) (by rw [List.map_append, eM, eN, eW]; rfl)⟩
      rcases List.mem_append.mp m with m | m
      · obtain ⟨b1, b2, b3⟩ := aM e m
        exact (b1.same s3).put nt3 b3
      · obtain ⟨b1, b2, _⟩ := aN e m
        exact b1.put nt3 (ne_of_none dM b2).symm
theorem sc_law : FnScope ["script", "pot", "requests", "k", "kept", "found", "flushes", "request"] ["script"] (defScope s_law) := ⟨rfl, rfl, rfl, by decide +kernel, rfl, by decide +kernel, by decide +kernel⟩
theorem ok_law (T : Txt K mg a) : FnOk P w K mg base CX0 3 a.f_law a.d_law ["script"] (sp_law K a) := by
  refine T.F_law.ok sc_law (fun vs H Q E h => ?len) (fun cdv A outer s H vs Q E hr h => ?body)
  case len =>
    exact sp_law_len h
  case body =>
    obtain ⟨s, ns, rfl, hS, hlen, k⟩ := h
    refine ⟨_, (pss_cons (ps_set (i := 1) sc_law.nd rfl (Or.inl rfl) (pe_call (ok_law_pot T) (hr.mono (by decide)) rfl T.g_law_pot T.F_law_pot.kp T.d_law_pot .nil pass0 (pa_cons (pv 0) pa_nil)))
      (pss_cons (ps_set (i := 2) sc_law.nd rfl (Or.inl rfl) (pe_lst pa_nil))
      (pss_cons (ps_for PassesOwn.never rfl (pi_range1 (by rfl) T.n_range (pa_cons (pe_op op_add pe_int (pe_callB call_len_seq (by rfl) T.n_len PySem.boot_len (pa_cons (pv 0) pa_nil))) pa_nil)) (pg_name (i := 3) sc_law.nd rfl (Or.inl rfl))
      (pss_one (ps_if (pt_cmpR op_eq (pe_call (ok_law_next T) (hr.mono (by decide)) rfl T.g_law_next T.F_law_next.kp T.d_law_next .nil pass0 (pa_cons (pv 1) (pa_cons pe_int pa_nil))) pe_int (nomark _))
      (pss_one (ps_expr (pe_bm PySem.F.plainAttrs_list PySem.F.slot_list_append PySem.F.type_list_append mt_append (pv 2) (pa_cons (pe_tup (pa_cons pe_str pa_nil)) pa_nil))))
      (pss_one (ps_expr (pe_bm PySem.F.plainAttrs_list PySem.F.slot_list_append PySem.F.type_list_append mt_append (pv 2) (pa_cons (pe_tup (pa_cons pe_str (pa_cons (pe_call (ok_law_next T) (hr.mono (by decide)) rfl T.g_law_next T.F_law_next.kp T.d_law_next .nil pass0 (pa_cons (pv 1) (pa_cons pe_int pa_nil))) (pa_cons (pe_call (ok_law_next T) (hr.mono (by decide)) rfl T.g_law_next T.F_law_next.kp T.d_law_next .nil pass0 (pa_cons (pv 1) (pa_cons pe_int pa_nil))) (pa_cons (pe_lst (pa_cons (pv 3) (pa_cons pe_int pa_nil))) pa_nil))))) pa_nil)))))))
      (pss_cons (ps_set (i := 4) sc_law.nd rfl (Or.inl rfl) (pe_callTy call_list_of (by rfl) T.n_list (by decide +kernel) (pa_cons (pv 2) pa_nil)))
      (pss_cons (ps_set (i := 5) sc_law.nd rfl (Or.inl rfl) (pe_call (ok_schedule T) (hr.mono (by decide)) rfl T.g_schedule T.F_schedule.kp T.d_schedule .nil pass0 (pa_cons (pv 2) pa_nil)))
      (pss_cons (ps_if (PW.pt (pw_or (pt_cmpR (op_neD hr.units) (pv 2) (pv 4) (nomark _)) (pw_or (pt_not (pt_val (pe_callB call_isi (by rfl) T.n_isinstance (by decide +kernel) (pa_cons (pv 5) (pa_cons (pe_bltn (v := .ty "list") (by rfl) T.n_list (by decide +kernel) rfl) pa_nil))))) (pw_or1 (pt_not (pt_val (pe_call (ok_law_in_order T) (hr.mono (by decide)) rfl T.g_law_in_order T.F_law_in_order.kp T.d_law_in_order .nil pass0 (pa_cons (pv 5) pa_nil))))))))
      (pss_one (ps_ret pe_bl))
      pss_nil)
      (pss_cons (ps_set (i := 6) sc_law.nd rfl (Or.inl rfl) pe_int)
      (pss_cons (ps_for PassesOwn.never rfl (pi_range1 (by rfl) T.n_range (pa_cons (pe_callB call_len_seq (by rfl) T.n_len PySem.boot_len (pa_cons (pv 2) pa_nil)) pa_nil)) (pg_name (i := 3) sc_law.nd rfl (Or.inl rfl))
      (pss_one (ps_if (PW.pt (pw_and (pt_cmpR op_eq (pe_ix ix_tup (pe_ix ix_list (pv 2) (pv 3) (fun _ _ => rfl)) pe_int (fun _ _ => rfl)) pe_str (nomark _)) (pw_and1 (PW.pt (pw_or (pt_cmpR op_eq (pv 3) pe_int (nomark _)) (pw_or1 (pt_cmpR op_eq (pe_ix ix_tup (pe_ix ix_list (pv 2) (pe_op op_sub (pv 3) pe_int) (fun _ _ => rfl)) pe_int (fun _ _ => rfl)) pe_str (nomark _))))))))
      (pss_one (ps_set (i := 6) sc_law.nd rfl (Or.inl rfl) (pe_op op_add (pv 6) pe_int)))
      pss_nil)))
      (pss_cons (ps_if (pt_cmpR op_ne (pe_callB call_len_seq (by rfl) T.n_len PySem.boot_len (pa_cons (pe_lc (own := [("request", 7)]) (g := (gName 7)) (by rfl) sc_law.nd (pi_list (pv 5)) (blkOk_by (own := [("request", 7)]) (N := ["script", "pot", "requests", "k", "kept", "found", "flushes", "request"]) (sc := defScope s_law) (by decide +kernel))
      (fun _ _ _ _ _ => (pg_name (i := 7) sc_law.nd rfl (Or.inl rfl))) (fun _ _ _ _ _ => (pts_one (pt_cmpR op_eq (pe_ix (by exact ix_tup : IxR _ (rIxT K)) (pv 7) pe_int (fun _ _ => rfl)) pe_str (nomark _)))) (fun _ _ _ _ _ => (pv 7))) pa_nil)) (pv 6) (nomark _))
      (pss_one (ps_ret pe_bl))
      pss_nil)
      (pss_one (ps_ret (pe_and (pe_cmpR (op_eqD hr.units) (pe_call (ok_law_states T) (hr.mono (by decide)) rfl T.g_law_states T.F_law_states.kp T.d_law_states .nil pass0 (pa_cons (pv 5) pa_nil)) (pe_call (ok_law_states T) (hr.mono (by decide)) rfl T.g_law_states T.F_law_states.kp T.d_law_states .nil pass0 (pa_cons (pv 2) pa_nil)) (nomark _)) (pe_one (pe_cmpR (op_eqD hr.units) (pe_call (ok_schedule T) (hr.mono (by decide)) rfl T.g_schedule T.F_schedule.kp T.d_schedule .nil pass0 (pa_cons (pv 5) pa_nil)) (pv 5) (nomark _))))))))))))))), ?_⟩
    refine ⟨_, rfl, s, ns, rfl, hS, by omega, fun p l H1 hp hl s1 P1 => ?_⟩
    refine ⟨Nat.zero_le _, fun R nR => ?_⟩
    have offR := P1.off nR
    have nRp : R ≠ p := offR.1.symm
    have P2 := P1.new (o := .lst []) nR
    have dR2 : upd H1 R (.lst []) R = some (.lst []) := upd_same
    have S2 := Same.trans s1 (Same.new (o := .lst []) nR)
    generalize upd H1 R (.lst []) = H2 at P2 dR2 S2 ⊢
    refine ⟨_, rfl, s, _, rfl, .inl (S2.seq hS), _, _, rfl, rfl, _, rfl, by omega, by rw [List.length_map]; omega, ?_⟩
    rw [List.length_map, show (3 + (ns.length : Int)).toNat = 3 + ns.length by omega]
    clear hS
    refine for_range (lo := 0) (n := 3 + ns.length) (fun i σ H' => ∃ (v3 : Option V) (L : List RqO), σ = [some (.ref s), some (.ref p), some (.ref R), v3, none, none, none, none] ∧ Pot H' p l ∧ H' R = some (.lst (L.map rqR)) ∧ (∀ e ∈ L, RqAt H' e ∧ e.s ≠ R ∧ e.s ≠ p) ∧ L.length = i ∧ ShortR 500 (L.map (·.q)))
      ⟨none, [], rfl, P2, dR2, fun _ m => (nomatch m), rfl, fun _ m => (nomatch m)⟩ ?_ ?_
    · rintro i σ H3 hi ⟨v3, L, rfl, P3, dR3, aL, lL, sL⟩
      refine ⟨_, rfl, p, l, 4, rfl, P3, by decide, by decide, fun v H4 v0 v4 P4 o4 => ⟨rfl, _, rfl, ?_⟩⟩
      have dR4 := o4.but _ _ dR3 nRp
      have aL4 : ∀ e ∈ L, RqAt H4 e ∧ e.s ≠ R ∧ e.s ≠ p := fun e m => by
        obtain ⟨b1, b2, b3⟩ := aL e m
        exact ⟨b1.but P3 o4.but b3, b2, b3⟩
      clear aL dR3 P3 o4
      have fin : ∀ (H5 H6 : Hp) (e : RqO), But p H4 H5 → Pot H5 p l → Same H5 H6 → RqAt H6 e → e.s ≠ R → e.s ≠ p → (∀ d r ws, e.q = some (d, r, ws) → ws.length ≤ 500) →
          ∃ (v3 : Option V) (L' : List RqO), [some (.ref s), some (.ref p), some (.ref R), some (.int (0 + (i : Nat))), none, none, none, none] = [some (.ref s), some (.ref p), some (.ref R), v3, none, none, none, none] ∧ Pot (upd H6 R (.lst (L.map rqR ++ [rqR e]))) p l ∧ upd H6 R (.lst (L.map rqR ++ [rqR e])) R = some (.lst (L'.map rqR)) ∧
            (∀ e' ∈ L', RqAt (upd H6 R (.lst (L.map rqR ++ [rqR e]))) e' ∧ e'.s ≠ R ∧ e'.s ≠ p) ∧ L'.length = i + 1 ∧ ShortR 500 (L'.map (·.q)) := fun H5 H6 e b5 P5 s6 ae n1 n2 se => by
        have dR6 := s6 _ _ (b5 _ _ dR4 nRp)
        have nt : ∀ xs, H6 R ≠ some (.tup xs) := fun xs z => by rw [dR6] at z; cases z
        refine ⟨_, L ++ [e], rfl, (P5.same s6).only Only.upd offR.1 offR.2, by rw [List.map_append]; exact upd_same, fun e' m => ?_, by rw [List.length_append, lL]; rfl, fun q m => ?_⟩
        · rcases List.mem_append.mp m with m | m
          · obtain ⟨b1, b2, b3⟩ := aL4 e' m
            exact ⟨((b1.but P4 b5 b3).same s6).put nt b2, b2, b3⟩
          · rw [List.mem_singleton.mp m]
            exact ⟨ae.put nt n1, n1, n2⟩
        · rw [List.map_append] at m
          rcases List.mem_append.mp m with m | m
          · exact sL q m
          · rw [List.mem_singleton.mp m]
            exact se
      by_cases h3 : v = 3
      · rw [decide_eq_true (show V.int v = V.int 3 by rw [h3])]
        refine ⟨_, rfl, .inl ⟨rfl, _, SqL.of dR4⟩, by show 1 ≤ sizeLine; decide, fun t nt => ⟨R, L.map rqR, _, rfl, rfl, ?_, small _ (by rw [List.length_map]; omega), ?_⟩⟩
        · rw [upd_ne (ne_of_none dR4 nt)]; exact dR4
        · exact fin H4 _ ⟨t, t, none⟩ (fun _ _ e _ => e) P4 (Same.new nt) upd_same (ne_of_none dR4 nt).symm (P4.off nt).1.symm (fun d r ws z => by cases z)
      · rw [decide_eq_false (show ¬ V.int v = V.int 3 from fun z => h3 (V.int.inj z))]
        refine ⟨_, rfl, .inl ⟨rfl, _, SqL.of dR4⟩, _, rfl, p, l, 4, rfl, P4, by decide, by decide, fun x H5 x0 x1 P5 o5 => ⟨_, rfl, p, l, 5, rfl, P5, by decide, by decide, fun y H6 y0 y1 P6 o6 => ⟨_, rfl, by show 2 ≤ sizeLine; decide, fun se nse => ⟨by show 4 ≤ sizeLine; decide, fun t nt => ?_⟩⟩⟩⟩
        have b6 := o5.but.trans o6.but
        have dR6 := b6 _ _ dR4 nRp
        have s7 := Same.new (o := .lst [.int (0 + (i : Nat)), .int 7]) nse
        have ds : upd H6 se (.lst [.int (0 + (i : Nat)), .int 7]) se = some (.lst [.int (0 + (i : Nat)), .int 7]) := upd_same
        generalize upd H6 se (.lst [.int (0 + (i : Nat)), .int 7]) = H7 at s7 ds nt ⊢
        have s8 := Same.new (o := .tup [.str "write", .int x, .int y, .ref se]) nt
        have dt : upd H7 t (.tup [.str "write", .int x, .int y, .ref se]) t = some (.tup [.str "write", .int x, .int y, .ref se]) := upd_same
        have ds8 := s8 _ _ ds
        generalize upd H7 t (.tup [.str "write", .int x, .int y, .ref se]) = H8 at s8 ds8 dt ⊢
        refine ⟨R, L.map rqR, _, rfl, rfl, s8 _ _ (s7 _ _ dR6), small _ (by rw [List.length_map]; omega), ?_⟩
        exact fin H6 _ ⟨t, se, some (x, y, [0 + (i : Nat), 7])⟩ b6 P6 (s7.trans s8) ⟨dt, ds8⟩ (ne_of_none dR6 nse).symm (P6.off nse).1.symm (fun d r ws z => by cases z; show 2 ≤ 500; decide)
    rintro σ H3 ⟨v3, L, rfl, P3, dR3, aL, lL, sL⟩
    have RL3 : RqL K H3 R L := ⟨SqL.of dR3, fun e m => (aL e m).1⟩
    have lL6 : L.length ≤ 66 := by omega
    clear aL P3 P2 dR2 P1 S2
    -- kept = list(requests)
    refine ⟨_, rfl, R, _, rfl, .inl (SqL.of dR3), fun Kp nK => ?_⟩
    have sK := Same.new (o := .lst (L.map rqR)) nK
    have RL4 := RL3.same sK
    have KL4 : RqL K (upd H3 Kp (.lst (L.map rqR))) Kp L := ⟨SqL.of upd_same, RL4.2⟩
    generalize upd H3 Kp (.lst (L.map rqR)) = H4 at sK RL4 KL4 ⊢
    clear RL3 dR3
    -- found = schedule(requests)
    refine ⟨_, rfl, R, L, rfl, RL4, by omega, short_of sL, fun D M H5 s5 nD dD aM eM => ?_⟩
    have RL5 := RL4.same s5
    have KL5 := KL4.same s5
    have ML5 : RqL K H5 D M := ⟨SqL.of dD, aM⟩
    have lM : M.length ≤ 66 := by
      have h1 := sched_len (L.map (·.q))
      rw [← eM, List.length_map, List.length_map] at h1
      omega
    have sM : ShortR 500 (M.map (·.q)) := by rw [eM]; exact sched_short sL
    refine ⟨_, rfl, _, rfl, _, _, dp_rqs RL5, dp_rqs KL5, rqs_shaped _, rqs_shaped _, _, rfl, ?_⟩
    rw [rqs_eqv]
    refine iteF ?_
    refine ⟨_, rfl, _, _, _, _, true, rfl, .ty "list", .base (.lst dD), kit_ty (by decide +kernel), true, rfl, iteF ?_⟩
    have hio : (runI (M.map (·.q))).isSome = true := by rw [eM]; exact sched_ordered _
    refine ⟨_, rfl, D, M, rfl, ML5, by omega, hio, fun H6 s6 => ?_⟩
    have RL6 := RL5.same s6
    have ML6 := ML5.same s6
    clear RL4 KL4 s5 nD dD aM RL5 KL5 ML5 s6 sK
    refine ⟨_, rfl, ?_⟩
    -- flushes = 0; for k in range(len(requests))
    refine ⟨_, rfl, R, _, rfl, .inl RL6.1, _, rfl, by omega, by rw [List.length_map]; omega, ?_⟩
    rw [List.length_map, Int.toNat_natCast]
    refine for_range (lo := 0) (n := L.length) (fun i σ H' => ∃ (v3 : Option V), σ = [some (.ref s), some (.ref p), some (.ref R), v3, some (.ref Kp), some (.ref D), some (.int ((runC ((L.take i).map (·.q))).1 : Nat)), none] ∧ H' = H6) ⟨v3, rfl, rfl⟩ ?_ ?_
    · rintro i σ H' hi ⟨v3, rfl, rfl⟩
      have he : L[i]? = some L[i] := List.getElem?_eq_getElem hi
      generalize L[i] = e at he
      have me := List.mem_of_getElem? he
      have ae := RL6.2 e me
      have eT : (L.take (i + 1)).map (·.q) = (L.take i).map (·.q) ++ [e.q] := by rw [take_snoc he, List.map_append]; rfl
      have cle := runC_le ((L.take i).map (·.q))
      rw [List.length_map, List.length_take] at cle
      obtain ⟨t, se, q⟩ := e
      cases q with
      | some z =>
        obtain ⟨x, y, ws⟩ := z
        obtain ⟨ae1, ae2⟩ : H' t = some (.tup [.str "write", .int x, .int y, .ref se]) ∧ H' se = some (.lst (ws.map V.int)) := ae
        refine ⟨_, rfl, _, rfl, R, _, _, _, rfl, rfl, RL6.1, at_of (j := i) (by omega) (rq_get he), t, _, _, _, rfl, rfl, SqT.of ae1, at_of (j := 0) rfl rfl, rfl, _, rfl, ?_⟩
        rw [decide_eq_false (show ¬ (V.str "write" = V.str "flush") by decide +kernel)]
        exact ⟨_, by rw [eT, runC_snoc]; rfl, rfl⟩
      | none =>
        have ae1 : H' t = some (.tup [.str "flush"]) := ae
        have step : (runC ((L.take (i + 1)).map (·.q))).1 = if (runC ((L.take i).map (·.q))).2 = true then (runC ((L.take i).map (·.q))).1 + 1 else (runC ((L.take i).map (·.q))).1 := by rw [eT, runC_snoc]; rfl
        refine ⟨_, rfl, _, rfl, R, _, _, _, rfl, rfl, RL6.1, at_of (j := i) (by omega) (rq_get he), t, _, _, _, rfl, rfl, SqT.of ae1, at_of (j := 0) rfl rfl, rfl, _, rfl, ?_⟩
        rw [decide_eq_true rfl]
        refine ⟨_, rfl, rfl, _, rfl, ?_⟩
        by_cases hi0 : i = 0
        · rw [decide_eq_true (show V.int (0 + (i : Nat)) = V.int 0 by rw [hi0]; rfl)]
          have : (runC ((L.take i).map (·.q))).2 = true := by rw [hi0]; rfl
          rw [if_pos this] at step
          refine ⟨_, rfl, _, _, rfl, rfl, some (.int (0 + (i : Nat))), ?_, rfl⟩
          rw [step]
          rfl
        · rw [decide_eq_false (show ¬ V.int (0 + (i : Nat)) = V.int 0 from fun z => by have := V.int.inj z; omega)]
          have hp : L[i - 1]? = some L[i - 1] := List.getElem?_eq_getElem (by omega)
          generalize L[i - 1] = pr at hp
          have mp := List.mem_of_getElem? hp
          have ap := RL6.2 pr mp
          have lastq : ((L.take i).map (·.q)).getLast? = some pr.q := by
            rw [show i = i - 1 + 1 by omega, take_snoc hp, List.map_append]
            simp
          have c2 := runC_snd ((L.take i).map (·.q))
          rw [lastq] at c2
          have c2 : (runC ((L.take i).map (·.q))).2 = pr.q.isSome := c2
          obtain ⟨t2, s2, q2⟩ := pr
          cases q2 with
          | some z =>
            obtain ⟨x, y, ws⟩ := z
            obtain ⟨ap1, ap2⟩ : H' t2 = some (.tup [.str "write", .int x, .int y, .ref s2]) ∧ H' s2 = some (.lst (ws.map V.int)) := ap
            rw [if_pos (show (runC ((L.take i).map (·.q))).2 = true from c2)] at step
            refine ⟨_, rfl, _, rfl, _, _, rfl, rfl, R, _, _, _, rfl, rfl, RL6.1, at_of (j := i - 1) (by omega) (rq_get hp), t2, _, _, _, rfl, rfl, SqT.of ap1, at_of (j := 0) rfl rfl, rfl, _, rfl, ?_⟩
            rw [decide_eq_true rfl]
            refine ⟨_, rfl, _, _, rfl, rfl, some (.int (0 + (i : Nat))), ?_, rfl⟩
            rw [step]
            rfl
          | none =>
            have ap1 : H' t2 = some (.tup [.str "flush"]) := ap
            rw [if_neg (show ¬ (runC ((L.take i).map (·.q))).2 = true by rw [c2]; exact fun z => nomatch z)] at step
            refine ⟨_, rfl, _, rfl, _, _, rfl, rfl, R, _, _, _, rfl, rfl, RL6.1, at_of (j := i - 1) (by omega) (rq_get hp), t2, _, _, _, rfl, rfl, SqT.of ap1, at_of (j := 0) rfl rfl, rfl, _, rfl, ?_⟩
            rw [decide_eq_false (show ¬ (V.str "flush" = V.str "write") by decide +kernel)]
            exact ⟨_, by rw [step]; rfl, rfl⟩
    rintro σ H' ⟨v3, rfl, rfl⟩
    rw [List.take_length]
    -- the flushes of what is found
    refine ⟨_, rfl, D, rfl, ⟨_, ML6.1⟩, fun C nC => ?_⟩
    refine lc_list (xs := M.map rqR) (fun i H6 => Same H' H6 ∧ ∃ xs : List V, H6 C = some (.lst xs) ∧ xs.length = flushN ((M.take i).map (·.q))) ⟨Same.new nC, [], upd_same, rfl⟩ (fun i H6 _ ⟨s, _⟩ => s.seq ML6.1) ?_ ?_
    · rintro i x H6 hx ⟨s6, xs, hC, lx⟩
      obtain ⟨e, he, rfl⟩ := rq_item hx
      have me := List.mem_of_getElem? he
      have ae := (ML6.2 e me).same s6
      have eT : flushN ((M.take (i + 1)).map (·.q)) = flushN ((M.take i).map (·.q)) + if e.q.isNone = true then 1 else 0 := by
        rw [take_snoc he, List.map_append]
        unfold flushN
        rw [List.filter_append, List.length_append]
        cases h : e.q <;> simp [h]
      have le : flushN ((M.take i).map (·.q)) ≤ 66 := by
        have := List.length_filter_le (fun q : Req => q.isNone) ((M.take i).map (·.q))
        rw [List.length_map, List.length_take] at this
        unfold flushN
        omega
      obtain ⟨t, se, q⟩ := e
      cases q with
      | some z =>
        obtain ⟨x, y, ws⟩ := z
        obtain ⟨ae1, ae2⟩ : H6 t = some (.tup [.str "write", .int x, .int y, .ref se]) ∧ H6 se = some (.lst (ws.map V.int)) := ae
        refine ⟨rfl, _, rfl, t, _, _, _, rfl, rfl, SqT.of ae1, at_of (j := 0) rfl rfl, rfl, _, rfl, ?_⟩
        rw [decide_eq_false (show ¬ (V.str "write" = V.str "flush") by decide +kernel)]
        exact ⟨s6, xs, hC, by rw [eT, lx]; rfl⟩
      | none =>
        have ae1 : H6 t = some (.tup [.str "flush"]) := ae
        refine ⟨rfl, _, rfl, t, _, _, _, rfl, rfl, SqT.of ae1, at_of (j := 0) rfl rfl, rfl, _, rfl, ?_⟩
        rw [decide_eq_true rfl]
        exact ⟨_, rfl, xs, hC, small _ (by omega), same_put s6 nC, _, upd_same, by rw [eT, List.length_append, lx]; rfl⟩
    rintro H6 ⟨s6, xs, hC, lx⟩
    rw [List.length_map, List.take_length] at lx
    have RL7 := RL6.same s6
    have ML7 := ML6.same s6
    have fl : xs.length = (runC (L.map (·.q))).1 := by rw [lx, eM, sched_flushes]
    refine ⟨C, xs, rfl, .inl (SqL.of hC), _, rfl, rfl, _, rfl, iteNS (congrArg V.int (congrArg Int.ofNat fl)) ?_⟩
    refine ⟨_, rfl, D, M, rfl, ML7, by omega, short_of sM, fun D1 H8 s8 d1 => ⟨_, rfl, R, L, rfl, RL7.same s8, by omega, short_of sL, fun D2 H9 s9 d2 => ?_⟩⟩
    rw [eM, states_same] at d1
    refine ⟨_, _, dp_same s9 d1, d2, sts_shaped _, sts_shaped _, _, rfl, ?_⟩
    rw [sts_eqv]
    have ML9 := (ML7.same s8).same s9
    refine iteT ?_
    refine ⟨_, rfl, D, M, rfl, ML9, by omega, short_of sM, fun D3 M3 H10 s10 n3 d3 a3 e3 => ?_⟩
    have e4 : M3.map (·.q) = M.map (·.q) := by rw [e3, eM, sched_twice]
    have DP := dp_rqs (K := K) (D := D3) (L := M3) ⟨SqL.of d3, a3⟩
    rw [e4] at DP
    refine ⟨_, rfl, _, _, DP, dp_rqs (ML9.same s10), rqs_shaped _, rqs_shaped _, ?_⟩
    rw [rqs_eqv]
    exact k _
end
theorem all_mk {l : PySem.W.OpenLaw} {w : World} {K : PySem.W.Frag} {h : Heap} {mg : Str → Option Value} {fa : Addr} (X : K.In h) (G : h.Ns mainGlobals mg) (hfa : mg "law" = some (.ref fa))
    {f_schedule : Addr} {oc_schedule kV_schedule dc_schedule pm_schedule cd_schedule ct_schedule : Value} {od_schedule an_schedule : Option Addr} {sl_schedule : Array (Option Value)}
    {f_ordered_writes : Addr} {oc_ordered_writes kV_ordered_writes dc_ordered_writes pm_ordered_writes cd_ordered_writes ct_ordered_writes : Value} {od_ordered_writes an_ordered_writes : Option Addr} {sl_ordered_writes : Array (Option Value)}
    {f_law_pot : Addr} {oc_law_pot kV_law_pot dc_law_pot pm_law_pot cd_law_pot ct_law_pot : Value} {od_law_pot an_law_pot : Option Addr} {sl_law_pot : Array (Option Value)}
    {f_law_next : Addr} {oc_law_next kV_law_next dc_law_next pm_law_next cd_law_next ct_law_next : Value} {od_law_next an_law_next : Option Addr} {sl_law_next : Array (Option Value)}
    {f_law_states : Addr} {oc_law_states kV_law_states dc_law_states pm_law_states cd_law_states ct_law_states : Value} {od_law_states an_law_states : Option Addr} {sl_law_states : Array (Option Value)}
    {f_law_in_order : Addr} {oc_law_in_order kV_law_in_order dc_law_in_order pm_law_in_order cd_law_in_order ct_law_in_order : Value} {od_law_in_order an_law_in_order : Option Addr} {sl_law_in_order : Array (Option Value)}
    {f_law : Addr} {oc_law kV_law dc_law pm_law cd_law ct_law : Value} {od_law an_law : Option Addr} {sl_law : Array (Option Value)}
    (a_schedule : PySem.W.nsIn K mainGlobals "schedule" = some (some (.ref f_schedule)))
    (l_schedule : K.lookup f_schedule = some ⟨oc_schedule, od_schedule, .func (PySem.W.fnOf "schedule" "schedule" (defArgs s_schedule) (defBody s_schedule) (defScope s_schedule) .none kV_schedule dc_schedule pm_schedule an_schedule cd_schedule ct_schedule), sl_schedule⟩)
    (q_schedule : PySem.W.codeIn K cd_schedule "schedule" = true)
    (k_schedule : PySem.W.keepIn K (.ref f_schedule) = true)
    (a_ordered_writes : PySem.W.nsIn K mainGlobals "ordered_writes" = some (some (.ref f_ordered_writes)))
    (l_ordered_writes : K.lookup f_ordered_writes = some ⟨oc_ordered_writes, od_ordered_writes, .func (PySem.W.fnOf "ordered_writes" "ordered_writes" (defArgs s_ordered_writes) (defBody s_ordered_writes) (defScope s_ordered_writes) .none kV_ordered_writes dc_ordered_writes pm_ordered_writes an_ordered_writes cd_ordered_writes ct_ordered_writes), sl_ordered_writes⟩)
    (q_ordered_writes : PySem.W.codeIn K cd_ordered_writes "ordered_writes" = true)
    (k_ordered_writes : PySem.W.keepIn K (.ref f_ordered_writes) = true)
    (a_law_pot : PySem.W.nsIn K mainGlobals "_law_pot" = some (some (.ref f_law_pot)))
    (l_law_pot : K.lookup f_law_pot = some ⟨oc_law_pot, od_law_pot, .func (PySem.W.fnOf "_law_pot" "_law_pot" (defArgs s_law_pot) (defBody s_law_pot) (defScope s_law_pot) .none kV_law_pot dc_law_pot pm_law_pot an_law_pot cd_law_pot ct_law_pot), sl_law_pot⟩)
    (q_law_pot : PySem.W.codeIn K cd_law_pot "_law_pot" = true)
    (k_law_pot : PySem.W.keepIn K (.ref f_law_pot) = true)
    (a_law_next : PySem.W.nsIn K mainGlobals "_law_next" = some (some (.ref f_law_next)))
    (l_law_next : K.lookup f_law_next = some ⟨oc_law_next, od_law_next, .func (PySem.W.fnOf "_law_next" "_law_next" (defArgs s_law_next) (defBody s_law_next) (defScope s_law_next) .none kV_law_next dc_law_next pm_law_next an_law_next cd_law_next ct_law_next), sl_law_next⟩)
    (q_law_next : PySem.W.codeIn K cd_law_next "_law_next" = true)
    (k_law_next : PySem.W.keepIn K (.ref f_law_next) = true)
    (a_law_states : PySem.W.nsIn K mainGlobals "_law_states" = some (some (.ref f_law_states)))
    (l_law_states : K.lookup f_law_states = some ⟨oc_law_states, od_law_states, .func (PySem.W.fnOf "_law_states" "_law_states" (defArgs s_law_states) (defBody s_law_states) (defScope s_law_states) .none kV_law_states dc_law_states pm_law_states an_law_states cd_law_states ct_law_states), sl_law_states⟩)
    (q_law_states : PySem.W.codeIn K cd_law_states "_law_states" = true)
    (k_law_states : PySem.W.keepIn K (.ref f_law_states) = true)
    (a_law_in_order : PySem.W.nsIn K mainGlobals "_law_in_order" = some (some (.ref f_law_in_order)))
    (l_law_in_order : K.lookup f_law_in_order = some ⟨oc_law_in_order, od_law_in_order, .func (PySem.W.fnOf "_law_in_order" "_law_in_order" (defArgs s_law_in_order) (defBody s_law_in_order) (defScope s_law_in_order) .none kV_law_in_order dc_law_in_order pm_law_in_order an_law_in_order cd_law_in_order ct_law_in_order), sl_law_in_order⟩)
    (q_law_in_order : PySem.W.codeIn K cd_law_in_order "_law_in_order" = true)
    (k_law_in_order : PySem.W.keepIn K (.ref f_law_in_order) = true)
    (a_law : PySem.W.nsIn K mainGlobals "law" = some (some (.ref f_law)))
    (l_law : K.lookup f_law = some ⟨oc_law, od_law, .func (PySem.W.fnOf "law" "law" (defArgs s_law) (defBody s_law) (defScope s_law) .none kV_law dc_law pm_law an_law cd_law ct_law), sl_law⟩)
    (q_law : PySem.W.codeIn K cd_law "law" = true)
    (k_law : PySem.W.keepIn K (.ref f_law) = true)
    (n_sorted : PySem.W.nsIn K mainGlobals "sorted" = some none)
    (n_list : PySem.W.nsIn K mainGlobals "list" = some none)
    (n_int : PySem.W.nsIn K mainGlobals "int" = some none)
    (n_abs : PySem.W.nsIn K mainGlobals "abs" = some none)
    (n_len : PySem.W.nsIn K mainGlobals "len" = some none)
    (n_range : PySem.W.nsIn K mainGlobals "range" = some none)
    (n_isinstance : PySem.W.nsIn K mainGlobals "isinstance" = some none) :
    ∃ fd : FuncData, (∀ (s : Shared) (v : Value), BindsTo s fd ⟨[v], []⟩ [("script", v)]) ∧ ∀ base : Heap, K.In base → base.Ns mainGlobals mg → FnOk l.prog w K mg base CX0 3 fa fd ["script"] (sp_law0 K) := by
  have e := hfa.symm.trans (PySem.W.mg_of X G a_law)
  cases e
  have F_schedule := fun_mk (st := s_schedule) l_schedule q_schedule k_schedule
  have d_schedule := F_schedule.binds (ps := ["requests"]) fun _ _ _ _ _ _ us hl => match us, hl with | [_], _ => rfl
  have F_ordered_writes := fun_mk (st := s_ordered_writes) l_ordered_writes q_ordered_writes k_ordered_writes
  have d_ordered_writes := F_ordered_writes.binds (ps := ["written"]) fun _ _ _ _ _ _ us hl => match us, hl with | [_], _ => rfl
  have F_law_pot := fun_mk (st := s_law_pot) l_law_pot q_law_pot k_law_pot
  have d_law_pot := F_law_pot.binds (ps := ["script"]) fun _ _ _ _ _ _ us hl => match us, hl with | [_], _ => rfl
  have F_law_next := fun_mk (st := s_law_next) l_law_next q_law_next k_law_next
  have d_law_next := F_law_next.binds (ps := ["pot", "limit"]) fun _ _ _ _ _ _ us hl => match us, hl with | [_, _], _ => rfl
  have F_law_states := fun_mk (st := s_law_states) l_law_states q_law_states k_law_states
  have d_law_states := F_law_states.binds (ps := ["requests"]) fun _ _ _ _ _ _ us hl => match us, hl with | [_], _ => rfl
  have F_law_in_order := fun_mk (st := s_law_in_order) l_law_in_order q_law_in_order k_law_in_order
  have d_law_in_order := F_law_in_order.binds (ps := ["requests"]) fun _ _ _ _ _ _ us hl => match us, hl with | [_], _ => rfl
  have F_law := fun_mk (st := s_law) l_law q_law k_law
  have d_law := F_law.binds (ps := ["script"]) fun _ _ _ _ _ _ us hl => match us, hl with | [_], _ => rfl
  have T : Txt K mg ⟨f_schedule, _, f_ordered_writes, _, f_law_pot, _, f_law_next, _, f_law_states, _, f_law_in_order, _, fa, _⟩ := {
    F_schedule := F_schedule, g_schedule := PySem.W.mg_of X G a_schedule, d_schedule := d_schedule,
    F_ordered_writes := F_ordered_writes, g_ordered_writes := PySem.W.mg_of X G a_ordered_writes, d_ordered_writes := d_ordered_writes,
    F_law_pot := F_law_pot, g_law_pot := PySem.W.mg_of X G a_law_pot, d_law_pot := d_law_pot,
    F_law_next := F_law_next, g_law_next := PySem.W.mg_of X G a_law_next, d_law_next := d_law_next,
    F_law_states := F_law_states, g_law_states := PySem.W.mg_of X G a_law_states, d_law_states := d_law_states,
    F_law_in_order := F_law_in_order, g_law_in_order := PySem.W.mg_of X G a_law_in_order, d_law_in_order := d_law_in_order,
    F_law := F_law, g_law := PySem.W.mg_of X G a_law, d_law := d_law,
    n_sorted := PySem.W.mg_none_of X G n_sorted,
    n_list := PySem.W.mg_none_of X G n_list,
    n_int := PySem.W.mg_none_of X G n_int,
    n_abs := PySem.W.mg_none_of X G n_abs,
    n_len := PySem.W.mg_none_of X G n_len,
    n_range := PySem.W.mg_none_of X G n_range,
    n_isinstance := PySem.W.mg_none_of X G n_isinstance }
  exact ⟨PySem.W.fnOf "law" "law" (defArgs s_law) (defBody s_law) (defScope s_law) .none kV_law dc_law pm_law an_law cd_law ct_law, fun s v => .of_eq rfl, fun base _ _ => (ok_law T).imp fun vs H Q E h => h⟩
theorem walk {l : PySem.W.OpenLaw} {q : Program} {loose : List Str} {XP : (Str → Option Value) → Heap → Prop} {YP : World → Heap → Prop} {d : DefRec} {K : Params → PySem.W.Frag} (hn : l.most = some 63) (hdf : d.params.defaults = [])
    (hY : ∀ (w : World) (h : Heap), YP w h → (K w.params).In h)
    (F : ∀ (w : World) (mg : Str → Option Value) (fa : Addr) (h : Heap), (K w.params).In h → h.Ns mainGlobals mg → mg d.name = some (.ref fa) →
      ∃ fd : FuncData, (∀ (s : Shared) (u : Value), BindsTo s fd ⟨[u], []⟩ [("script", u)]) ∧ ∀ base : Heap, (K w.params).In base → base.Ns mainGlobals mg → FnOk l.prog w (K w.params) mg base CX0 3 fa fd ["script"] (sp_law0 (K w.params))) :
    PySem.W.WalkO q loose XP YP l.row.toRowW d [] (fun f vs => PySem.call f vs) :=
  L2.walk_of (n := 63) (k := 3) (x := "script") (CX := fun _ => CX0) (sp := fun w => sp_law0 (K w.params)) hn (by decide) hdf ⟨rfl, by decide, by decide⟩ hY F (fun _ _ a ns hl _ hS => ⟨a, ns, rfl, hS, hl, fun _ => rfl⟩) fun _ _ _ _ _ z => z
end PP
open PySem PySem.W PyProof.Rows
set_option maxRecDepth 100000 in
set_option maxHeartbeats 0 in
theorem PySem.Challenge.cw_paritypool_k25_schedule_holds : PySem.Challenge.rw_paritypool_k25_schedule.Holds := by
  w_on; o_law; k_head; (case hw => w_witness2)
  k_fill
  refine PP.walk (l := PySem.Challenge.rw_paritypool_k25_schedule) rfl rfl (fun w h Y => PySem.W.kIn_of Y) ?F
  case F =>
    intro w mg fa h KX G hmg
    refine' PP.all_mk KX G hmg ?a_schedule ?l_schedule ?q_schedule ?k_schedule ?a_ordered_writes ?l_ordered_writes ?q_ordered_writes ?k_ordered_writes ?a_law_pot ?l_law_pot ?q_law_pot ?k_law_pot ?a_law_next ?l_law_next ?q_law_next ?k_law_next ?a_law_states ?l_law_states ?q_law_states ?k_law_states ?a_law_in_order ?l_law_in_order ?q_law_in_order ?k_law_in_order ?a_law ?l_law ?q_law ?k_law ?n_sorted ?n_list ?n_int ?n_abs ?n_len ?n_range ?n_isinstance
    (case a_schedule => k_is)
    (case l_schedule => k_is)
    (case q_schedule => k_is)
    (case k_schedule => k_is)
    (case a_ordered_writes => k_is)
    (case l_ordered_writes => k_is)
    (case q_ordered_writes => k_is)
    (case k_ordered_writes => k_is)
    (case a_law_pot => k_is)
    (case l_law_pot => k_is)
    (case q_law_pot => k_is)
    (case k_law_pot => k_is)
    (case a_law_next => k_is)
    (case l_law_next => k_is)
    (case q_law_next => k_is)
    (case k_law_next => k_is)
    (case a_law_states => k_is)
    (case l_law_states => k_is)
    (case q_law_states => k_is)
    (case k_law_states => k_is)
    (case a_law_in_order => k_is)
    (case l_law_in_order => k_is)
    (case q_law_in_order => k_is)
    (case k_law_in_order => k_is)
    (case a_law => k_is)
    (case l_law => k_is)
    (case q_law => k_is)
    (case k_law => k_is)
    (case n_sorted => k_is)
    (case n_list => k_is)
    (case n_int => k_is)
    (case n_abs => k_is)
    (case n_len => k_is)
    (case n_range => k_is)
    (case n_isinstance => k_is)
