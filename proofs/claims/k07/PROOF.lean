import PyProof.Rows.All
import Wide.All
import OpenK.AllK
import Wide.FinOn
import HandS.ForMost
import HandS.ForExc
import HandS.ExcIs
import HandS.IsInst
import HandS.Evl
import HandS.Walk
import HandS.Zip
import HandS.More
import HandS.Iter
import HandS.Star
import HandS.Conv
import PySem.Challenge.RW_paritypool_k07_encode
set_option Elab.async false
set_option linter.all false
set_option maxRecDepth 100000
set_option maxHeartbeats 2000000
namespace PySem
open Sem (wp)
namespace ZS

abbrev ZOb (h : Heap) (z TI TO : Addr) (f0 f1 : Value) : Prop :=
  h.get? z = some { cls := .type "zip", dict := none, data := .fields #[f0, f1, .bool false, .ref TI, .ref TO], slots := #[] }
abbrev refs1 (ps : List (Addr × Addr × Bool)) : List Value := ps.map fun p => .ref p.1
abbrev ZTup (h : Heap) (T : Addr) (xs : List Value) : Prop := h.get? T = some { cls := .type "tuple", data := .seq xs.toArray }
structure ZApart (z TI TO : Addr) (ps : List (Addr × Addr × Bool)) : Prop where
  TIz : TI ≠ z
  TOz : TO ≠ z
  TITO : TI ≠ TO
  it : ∀ p ∈ ps, p.1 ≠ z ∧ p.1 ≠ TI ∧ p.1 ≠ TO
  ls : ∀ p ∈ ps, p.2.1 ≠ z ∧ p.2.1 ≠ TO ∧ ∀ q ∈ ps, p.2.1 ≠ q.1
  nd : (ps.map (·.1)).Nodup
abbrev F0 (f : Value) : Prop := f = .none ∨ ∃ (a : Int) (t : Tok), f = .int a t
abbrev Keep (z TO : Addr) (ps : List (Addr × Addr × Bool)) (h h' : Heap) : Prop := ∀ c o, c ≠ z → c ≠ TO → (∀ p ∈ ps, c ≠ p.1) → h.get? c = some o → h'.get? c = some o

def clsI (k : Bool) : String := if k then "tuple_iterator" else "list_iterator"
def clsS (k : Bool) : String := if k then "tuple" else "list"
/-- an iterator over the list or tuple l, at its i-th item -/
def It1 (h : Heap) (it : Addr) (l : Addr × Bool) (i : Nat) : Prop := ∃ o, h.get? it = some o ∧ o.cls = .type (clsI l.2) ∧ o.data = .fields #[.ref l.1, .int i 0]
def Sq1 (h : Heap) (l : Addr × Bool) (items : Array Value) : Prop := ∃ o, h.get? l.1 = some o ∧ o.cls = .type (clsS l.2) ∧ ∃ n, o.data = .seq items n
theorem It1.extBut {h h' : Heap} {a b : Addr} {l : Addr × Bool} {i : Nat} (x : It1 h a l i) (hs : Heap.ExtBut b h h') (hab : a ≠ b) : It1 h' a l i := let ⟨o, ho, r⟩ := x; ⟨o, hs a o hab ho, r⟩
theorem It1.at {h h' : Heap} {a : Addr} {l : Addr × Bool} {i : Nat} (x : It1 h a l i) (hs : ∀ o, h.get? a = some o → h'.get? a = some o) : It1 h' a l i := let ⟨o, ho, r⟩ := x; ⟨o, hs o ho, r⟩
theorem Sq1.extBut {h h' : Heap} {b : Addr} {l : Addr × Bool} {xs : Array Value} (x : Sq1 h l xs) (hs : Heap.ExtBut b h h') (hab : l.1 ≠ b) : Sq1 h' l xs := let ⟨o, ho, r⟩ := x; ⟨o, hs l.1 o hab ho, r⟩
theorem nd_mid {ps1 ps2 : List (Addr × Addr × Bool)} {p : Addr × Addr × Bool} (h : ((ps1 ++ p :: ps2).map (·.1)).Nodup) : (∀ q ∈ ps1, q.1 ≠ p.1) ∧ (∀ q ∈ ps2, q.1 ≠ p.1) := by
  rw [List.map_append, List.map_cons, List.nodup_append] at h
  obtain ⟨_, h2, h3⟩ := h
  rw [List.nodup_cons] at h2
  exact ⟨fun q hq e => h3 q.1 (List.mem_map_of_mem hq) p.1 (by simp) e, fun q hq e => h2.1 (by rw [← e]; exact List.mem_map_of_mem hq)⟩

section
variable {prog : Program} {w : World} {A : Around} {E : Value → Shared → Prop} {s : Shared}

theorem nextOf_item {it : Addr} {l : Addr × Bool} {i : Nat} {items : Array Value} {x : Value} {Q : Value → Shared → Prop} (hit : It1 s.heap it l i)
    (hl : Sq1 s.heap l items) (hx : items[i]? = some x) (hQ : ∀ h', It1 h' it l (i + 1) → Heap.SameBut it s.heap h' → Q x { s with heap := h' }) :
    wpAny (model prog w) A (Builtin.SmallTypes.nextOf (.ref it)) Q E s := by
  obtain ⟨l, k⟩ := l
  cases k with
  | false => exact wpAny_nextOf_list_item hit hl hx hQ
  | true => exact RZ.nextOf_tuple_item hit hl hx hQ
theorem nextOf_end {it : Addr} {l : Addr × Bool} {i : Nat} {items : Array Value} {Q : Value → Shared → Prop} (hh : A.handled = none) (hit : It1 s.heap it l i)
    (hl : Sq1 s.heap l items) (hx : items[i]? = none) (hE : ∀ h' e, Heap.ExtBut it s.heap h' → (∃ o, h'.get? e = some o ∧ o.cls = .type "StopIteration") → E (.ref e) { s with heap := h' }) :
    wpAny (model prog w) A (Builtin.SmallTypes.nextOf (.ref it)) Q E s := by
  obtain ⟨l, k⟩ := l
  cases k with
  | false => exact wpAny_nextOf_list_end hh hit hl hx hE
  | true => exact RZ.nextOf_tuple_end hh hit hl hx hE
theorem pyIter_sq {l : Addr × Bool} {items : Array Value} {Q : Value → Shared → Prop} (hl : Sq1 s.heap l items)
    (hQ : Q (.ref s.heap.objs.size) { s with heap := s.heap.push { cls := .type (clsI l.2), data := .fields #[.ref l.1, .int 0 0] } }) : wpAny (model prog w) A (pyIter (.ref l.1)) Q E s := by
  obtain ⟨l, k⟩ := l
  cases k with
  | false => exact wpAny_pyIter_list hl hQ
  | true => exact wpAny_pyIter_tuple hl hQ
theorem updTup {T : Addr} {xs : List Value} {k : Nat} {x : Value} {Q : Unit → Shared → Prop} (hT : ZTup s.heap T xs) (hz : xs.length ≤ sizeLine)
    (h : ∀ h', ZTup h' T (xs.set k x) → Heap.SameBut T s.heap h' → Q () { s with heap := h' }) :
    wpAny (model prog w) A (updateSeq T (·.setIfInBounds k x)) Q E s := by
  refine wpAny_updateSeq hT rfl (h _ ?_ (Heap.SameBut.update ..)) (by simpa using hz) (by simp; omega)
  rw [ZTup, Heap.get?_update_self _ hT rfl]
  simp [Obj.mapSeq]

theorem wpAny_loadIfAlive {M : Model} {a : Addr} {Q : Option Obj → Shared → Prop} (h : Q (s.heap.get? a) s) : wpAny M A (loadIfAlive a) Q E s := fun _ _ _ => h
/-- the check whether the tuple is free: it may mark the zip object -/
theorem freeCheck {z TI TO : Addr} {f0 f1 : Value} {Q : Bool → Shared → Prop} (hz : ZOb s.heap z TI TO f0 f1) (hf : F0 f0)
    (h1 : Q true s) (h2 : ∀ h' f1', ZOb h' z TI TO f0 f1' → Heap.SameBut z s.heap h' → Q false { s with heap := h' }) :
    wpAny (model prog w) A (Builtin.SmallTypes.ownedTupleIsFree (.ref z)) Q E s := by
  unfold Builtin.SmallTypes.ownedTupleIsFree
  refine wpAny_bind (wpAny_field hz rfl (x := f0) rfl ?_)
  rcases hf with rfl | ⟨a, t, rfl⟩
  · exact wpAny_pure h1
  · refine wpAny_bind (wpAny_loadIfAlive ?_)
    cases hg : s.heap.get? a.toNat with
    | none => exact wpAny_pure h1
    | some o =>
      show wpAny _ _ (field (.ref z) 1 >>= _) _ _ _
      refine wpAny_bind (wpAny_field hz rfl (x := f1) rfl ?_)
      dsimp only
      split
      · refine wpAny_bind (wpAny_setField_rec hz (by simp) fun h₁ hz₁ hs₁ => ?_)
        exact wpAny_pure (h2 h₁ _ hz₁ hs₁)
      · exact wpAny_pure (h2 s.heap f1 hz ⟨rfl, fun _ _ => rfl⟩)

/-- one turn of zip(*lists): each list has an item at i -/
theorem zipS_next_item {z TI TO : Addr} {ps : List (Addr × Addr × Bool)} {i : Nat} {val : Addr × Bool → Value} {f0 f1 : Value} {ts : List Value} {Q : Value → Shared → Prop} (D : ZApart z TI TO ps)
    (hz : ZOb s.heap z TI TO f0 f1) (hf : F0 f0) (hTI : ZTup s.heap TI (refs1 ps)) (hTO : ZTup s.heap TO ts) (hts : ts.length = ps.length) (hn : ps.length ≤ sizeLine) (hne : ps ≠ [])
    (hit : ∀ p ∈ ps, It1 s.heap p.1 p.2 i) (hv : ∀ p ∈ ps, ∃ items, Sq1 s.heap p.2 items ∧ items[i]? = some (val p.2))
    (hQ : ∀ h' f0' f1', ZOb h' z TI TO f0' f1' → F0 f0' → (∃ ts', ZTup h' TO ts' ∧ ts'.length = ps.length) → (∀ p ∈ ps, It1 h' p.1 p.2 (i + 1)) → ZTup h' s.heap.objs.size (ps.map fun p => val p.2) →
      Keep z TO ps s.heap h' → Q (.ref s.heap.objs.size) { s with heap := h' }) :
    wpAny (model prog w) A (Builtin.«zip.__next__» ⟨[.ref z], []⟩) (fun fin s' => ∃ v, fin = .done (.ret v) ∧ Q v s') E s := by
  show wpAny _ _ (field (.ref z) 2 >>= _) _ _ _
  refine wpAny_bind (wpAny_field hz rfl (x := .bool false) rfl ?_)
  show wpAny _ _ (field (.ref z) 3 >>= _) _ _ _
  refine wpAny_bind (wpAny_field hz rfl (x := .ref TI) rfl ?_)
  refine wpAny_bind (wpAny_seqItems hTI rfl ?_)
  have hem : (refs1 ps).toArray.isEmpty = false := by cases ps with | nil => exact absurd rfl hne | cons _ _ => rfl
  simp only [hem]
  have hzlt : z < s.heap.objs.size := Heap.lt_size hz
  have hTOlt : TO < s.heap.objs.size := Heap.lt_size hTO
  show wpAny _ _ (Builtin.SmallTypes.ownedTupleIsFree (.ref z) >>= _) _ _ _
  refine wpAny_bind (freeCheck hz hf ?_ fun hA f1A hzA hsA => ?_)
  · simp only [if_true]
    refine wpAny_bind (wpAny_rule ?_)
    refine wpAny_bind (wpAny_field hz rfl (x := .ref TO) rfl ?_)
    refine wpAny_bind (wpAny_setField_rec hz (by simp) fun h₁ hz₁ hs₁ => ?_)
    replace hz₁ : ZOb h₁ z TI TO .ellipsis f1 := hz₁
    refine wpAny_bind ?_
    refine wpAny_forIn_list _ (fun rest b s' => ∃ ps1 ps2, ps = ps1 ++ ps2 ∧ rest = (refs1 ps2).zipIdx ps1.length ∧ b = (none, ()) ∧ ∃ h', s' = { s with heap := h' } ∧ ZOb h' z TI TO .ellipsis f1 ∧
      (∃ ts', ZTup h' TO ((ps1.map fun p => val p.2) ++ ts') ∧ ts'.length = ps2.length) ∧ (∀ p ∈ ps1, It1 h' p.1 p.2 (i + 1)) ∧ (∀ p ∈ ps2, It1 h' p.1 p.2 i) ∧ h'.objs.size = s.heap.objs.size ∧ Keep z TO ps s.heap h') _ ?_ ?_ _ _ ?_
    · rintro ⟨u, k⟩ rest b s' ⟨ps1, ps2, e, er, rfl, h', rfl, hz', ⟨ts', hTO', hl'⟩, ha, hb, hsz, hk⟩
      cases ps2 with
      | nil => simp at er
      | cons p ps2 =>
        simp only [refs1, List.map_cons, List.zipIdx_cons, List.cons.injEq, Prod.mk.injEq] at er
        obtain ⟨⟨rfl, rfl⟩, rfl⟩ := er
        cases ts' with
        | nil => simp at hl'
        | cons y ts' =>
        have hmem : p ∈ ps := by rw [e]; simp
        obtain ⟨pz, pTI, pTO⟩ := D.it p hmem
        obtain ⟨lz, lTO, lit⟩ := D.ls p hmem
        obtain ⟨items, hli, hx⟩ := hv p hmem
        obtain ⟨nd1, nd2⟩ := nd_mid (by rw [← e]; exact D.nd)
        have hli' : Sq1 h' p.2 items := by obtain ⟨o, ho, r⟩ := hli; exact ⟨o, hk _ _ lz lTO (fun q hq => lit q hq) ho, r⟩
        refine wpAny_bind (wpAny_onRaise ?_)
        show wpAny _ _ (Builtin.SmallTypes.nextOf (.ref p.1) >>= _) _ _ _
        refine wpAny_bind (nextOf_item (s := { s with heap := h' }) (hb p (by simp)) hli' hx fun h₂ h1₂ hs₂ => wpAny_pure ?_)
        have hTO₂ : ZTup h₂ TO ((ps1.map fun p => val p.2) ++ y :: ts') := hs₂.extBut _ _ (Ne.symm pTO) hTO'
        refine wpAny_bind (wpAny_seqItems (s := { s with heap := h₂ }) hTO₂ rfl ?_)
        have hlen : ((ps1.map fun p => val p.2) ++ y :: ts').length ≤ sizeLine := by
          rw [e] at hn; simp at hn hl' ⊢; omega
        refine wpAny_bind (updTup (s := { s with heap := h₂ }) hTO₂ hlen fun h₃ hTO₃ hs₃ => ?_)
        refine wpAny_bind (wpAny_letGo (wpAny_pure ?_))
        refine ⟨ps1 ++ [p], ps2, by rw [e]; simp, by simp [refs1], rfl, h₃, rfl, hs₃.extBut _ _ (Ne.symm D.TOz) (hs₂.extBut _ _ (Ne.symm pz) hz'), ⟨ts', ?_, by simpa using hl'⟩, ?_, ?_, ?_, ?_⟩
        · have e3 : (((ps1.map fun p => val p.2) ++ y :: ts').set ps1.length (val p.2)) = ((ps1 ++ [p]).map fun p => val p.2) ++ ts' := by
            rw [List.set_append_right _ _ (by simp)]; simp
          rw [← e3]; exact hTO₃
        · intro q hq
          rcases List.mem_append.1 hq with hq | hq
          · have hqm : q ∈ ps := by rw [e]; simp [hq]
            exact ((ha q hq).extBut hs₂.extBut (nd1 q hq)).extBut hs₃.extBut (D.it q hqm).2.2
          · simp only [List.mem_singleton] at hq
            subst hq
            exact h1₂.extBut hs₃.extBut pTO
        · intro q hq
          have hqm : q ∈ ps := by rw [e]; simp [hq]
          exact ((hb q (by simp [hq])).extBut hs₂.extBut (nd2 q hq)).extBut hs₃.extBut (D.it q hqm).2.2
        · rw [hs₃.1, hs₂.1]; exact hsz
        · intro c o c1 c2 c3 e'
          exact hs₃.extBut _ _ c2 (hs₂.extBut _ _ (c3 p hmem) (hk c o c1 c2 c3 e'))
    · rintro b s' ⟨ps1, ps2, e, er, rfl, h', rfl, hz', ⟨ts', hTO', hl'⟩, ha, hb, hsz, hk⟩
      have e2 : ps2 = [] := by
        cases ps2 with
        | nil => rfl
        | cons p ps2 => simp [refs1] at er
      subst e2
      have e3 : ts' = [] := by simpa using hl'
      subst e3
      simp only [List.append_nil] at e hTO'
      subst e
      refine wpAny_bind (wpAny_seqItems (s := { s with heap := h' }) hTO' rfl ?_)
      refine wpAny_bind (wpAny_newTuple (s := { s with heap := h' }) ?_ (by simpa using hn))
      show wpAny _ _ (Builtin.SmallTypes.ownedTupleHandOut (.ref z) (.ref h'.objs.size) >>= _) _ _ _
      refine wpAny_bind ?_
      unfold Builtin.SmallTypes.ownedTupleHandOut
      have hz₆ : ZOb (h'.push { cls := .type "tuple", data := .seq (ps.map fun p => val p.2).toArray.toList.toArray }) z TI TO .ellipsis f1 := Heap.get?_push_of_some _ hz'
      refine wpAny_bind (wpAny_setField_rec hz₆ (by simp) fun h₇ hz₇ hs₇ => ?_)
      replace hz₇ : ZOb h₇ z TI TO (rawInt h'.objs.size) f1 := hz₇
      refine wpAny_setField_rec hz₇ (by simp) fun h₈ hz₈ hs₈ => ?_
      replace hz₈ : ZOb h₈ z TI TO (rawInt h'.objs.size) (.bool false) := hz₈
      have hzl' : z < h'.objs.size := by rw [hsz]; exact hzlt
      have up : ∀ c o, c ≠ z → h'.get? c = some o → h₈.get? c = some o := fun c o c1 e => hs₈.extBut _ _ c1 (hs₇.extBut _ _ c1 (Heap.get?_push_of_some _ e))
      have hT₈ : ZTup h₈ h'.objs.size (ps.map fun p => val p.2) := by
        have z0 := hs₈.extBut _ _ (Nat.ne_of_gt hzl') (hs₇.extBut _ _ (Nat.ne_of_gt hzl') (Heap.get?_push_size h' rfl))
        simpa using z0
      refine wpAny_pure ⟨_, rfl, ?_⟩
      show Q (.ref h'.objs.size) _
      rw [hsz] at hT₈ ⊢
      exact hQ h₈ _ _ hz₈ (.inr ⟨_, _, rfl⟩) ⟨_, up _ _ D.TOz hTO', by simp⟩ (fun p hp => (ha p hp).at fun o e => up _ o (D.it p hp).1 e) hT₈ fun c o c1 c2 c3 e => up c o c1 (hk c o c1 c2 c3 e)
    · refine ⟨[], ps, rfl, rfl, rfl, h₁, rfl, hz₁, ⟨ts, hs₁.extBut _ _ D.TOz hTO, hts⟩, by simp, fun p hp => (hit p hp).extBut hs₁.extBut (D.it p hp).1, hs₁.1, fun c o c1 _ _ e => hs₁.extBut _ _ c1 e⟩
  · simp only [Bool.false_eq_true, if_false]
    refine wpAny_bind ?_
    rw [← Array.forIn_toList]
    refine wpAny_forIn_list _ (fun rest b s' => ∃ ps1 ps2, ps = ps1 ++ ps2 ∧ rest = (refs1 ps2) ∧ b = (none, (ps1.map fun p => val p.2).toArray) ∧ ∃ h', s' = { s with heap := h' } ∧ ZOb h' z TI TO f0 f1A ∧ ZTup h' TO ts ∧
      (∀ p ∈ ps1, It1 h' p.1 p.2 (i + 1)) ∧ (∀ p ∈ ps2, It1 h' p.1 p.2 i) ∧ h'.objs.size = s.heap.objs.size ∧ Keep z TO ps s.heap h') _ ?_ ?_ _ _ ?_
    · rintro u rest b s' ⟨ps1, ps2, e, er, rfl, h', rfl, hz', hTO', ha, hb, hsz, hk⟩
      cases ps2 with
      | nil => simp at er
      | cons p ps2 =>
        simp only [refs1, List.map_cons, List.cons.injEq] at er
        obtain ⟨rfl, rfl⟩ := er
        have hmem : p ∈ ps := by rw [e]; simp
        obtain ⟨pz, pTI, pTO⟩ := D.it p hmem
        obtain ⟨lz, lTO, lit⟩ := D.ls p hmem
        obtain ⟨items, hli, hx⟩ := hv p hmem
        obtain ⟨nd1, nd2⟩ := nd_mid (by rw [← e]; exact D.nd)
        have hli' : Sq1 h' p.2 items := by obtain ⟨o, ho, r⟩ := hli; exact ⟨o, hk _ _ lz lTO (fun q hq => lit q hq) ho, r⟩
        refine wpAny_bind (wpAny_holding ?_)
        show wpAny _ _ (Builtin.SmallTypes.nextOf (.ref p.1) >>= _) _ _ _
        refine wpAny_bind (nextOf_item (s := { s with heap := h' }) (hb p (by simp)) hli' hx fun h₂ h1₂ hs₂ => wpAny_pure ?_)
        refine wpAny_pure ?_
        refine ⟨ps1 ++ [p], ps2, by rw [e]; simp, rfl, by simp, h₂, rfl, hs₂.extBut _ _ (Ne.symm pz) hz', hs₂.extBut _ _ (Ne.symm pTO) hTO', ?_, ?_, ?_, ?_⟩
        · intro q hq
          rcases List.mem_append.1 hq with hq | hq
          · exact (ha q hq).extBut hs₂.extBut (nd1 q hq)
          · simp only [List.mem_singleton] at hq
            subst hq
            exact h1₂
        · intro q hq
          exact (hb q (by simp [hq])).extBut hs₂.extBut (nd2 q hq)
        · rw [hs₂.1]; exact hsz
        · intro c o c1 c2 c3 e'
          exact hs₂.extBut _ _ (c3 p hmem) (hk c o c1 c2 c3 e')
    · rintro b s' ⟨ps1, ps2, e, er, rfl, h', rfl, hz', hTO', ha, hb, hsz, hk⟩
      have e2 : ps2 = [] := by
        cases ps2 with
        | nil => rfl
        | cons p ps2 => simp [refs1] at er
      subst e2
      simp only [List.append_nil] at e
      subst e
      refine wpAny_bind (wpAny_newTuple (s := { s with heap := h' }) ?_ (by simpa using hn))
      refine wpAny_pure ⟨_, rfl, ?_⟩
      show Q (.ref h'.objs.size) _
      have up : ∀ c o, h'.get? c = some o → (h'.push { cls := .type "tuple", data := .seq (ps.map fun p => val p.2).toArray.toList.toArray }).get? c = some o := fun c o e => Heap.get?_push_of_some _ e
      have hT : ZTup (h'.push { cls := .type "tuple", data := .seq (ps.map fun p => val p.2).toArray.toList.toArray }) h'.objs.size (ps.map fun p => val p.2) := by
        have z0 : (h'.push { cls := .type "tuple", data := .seq (ps.map fun p => val p.2).toArray.toList.toArray }).get? h'.objs.size = _ := Heap.get?_push_size h' rfl
        simpa using z0
      rw [hsz] at hT
      rw [hsz]
      exact hQ _ _ _ (up _ _ hz') hf ⟨_, up _ _ hTO', hts⟩ (fun p hp => (ha p hp).at fun o e => up _ o e) hT fun c o c1 c2 c3 e => up c o (hk c o c1 c2 c3 e)
    · refine ⟨[], ps, rfl, rfl, rfl, hA, rfl, hzA, hsA.extBut _ _ D.TOz hTO, by simp, fun p hp => (hit p hp).extBut hsA.extBut (D.it p hp).1, hsA.1, fun c o c1 _ _ e => hsA.extBut _ _ c1 e⟩

/-- the last turn of zip(*lists): the first list has ended -/
theorem zipS_next_end {z TI TO : Addr} {p : Addr × Addr × Bool} {ps : List (Addr × Addr × Bool)} {i : Nat} {f0 f1 : Value} {ts : List Value} {items : Array Value} {Q : Fin → Shared → Prop} (hh : A.handled = none) (D : ZApart z TI TO (p :: ps))
    (hz : ZOb s.heap z TI TO f0 f1) (hf : F0 f0) (hTI : ZTup s.heap TI (refs1 (p :: ps))) (hTO : ZTup s.heap TO ts)
    (hit : It1 s.heap p.1 p.2 i) (hl : Sq1 s.heap p.2 items) (hx : items[i]? = none)
    (hE : ∀ h' e, Keep z TO (p :: ps) s.heap h' → (∃ o, h'.get? e = some o ∧ o.cls = .type "StopIteration") → E (.ref e) { s with heap := h' }) :
    wpAny (model prog w) A (Builtin.«zip.__next__» ⟨[.ref z], []⟩) Q E s := by
  show wpAny _ _ (field (.ref z) 2 >>= _) _ _ _
  refine wpAny_bind (wpAny_field hz rfl (x := .bool false) rfl ?_)
  show wpAny _ _ (field (.ref z) 3 >>= _) _ _ _
  refine wpAny_bind (wpAny_field hz rfl (x := .ref TI) rfl ?_)
  refine wpAny_bind (wpAny_seqItems hTI rfl ?_)
  have hem : (refs1 (p :: ps)).toArray.isEmpty = false := rfl
  simp only [hem]
  obtain ⟨pz, pTI, pTO⟩ := D.it p (by simp)
  obtain ⟨lz, lTO, lit⟩ := D.ls p (by simp)
  show wpAny _ _ (Builtin.SmallTypes.ownedTupleIsFree (.ref z) >>= _) _ _ _
  refine wpAny_bind (freeCheck hz hf ?_ fun hA f1A hzA hsA => ?_)
  · simp only [if_true]
    refine wpAny_bind (wpAny_rule ?_)
    refine wpAny_bind (wpAny_field hz rfl (x := .ref TO) rfl ?_)
    refine wpAny_bind (wpAny_setField_rec hz (by simp) fun h₁ hz₁ hs₁ => ?_)
    replace hz₁ : ZOb h₁ z TI TO .ellipsis f1 := hz₁
    refine wpAny_bind ?_
    simp only [refs1, List.map_cons, List.zipIdx_cons, List.forIn_cons]
    refine wpAny_bind (wpAny_bind (wpAny_onRaise ?_))
    show wpAny _ _ (Builtin.SmallTypes.nextOf (.ref p.1) >>= _) _ _ _
    refine wpAny_bind (nextOf_end (s := { s with heap := h₁ }) hh (hit.extBut hs₁.extBut pz) (hl.extBut hs₁.extBut lz) hx fun h₂ e hs₂ he => ?_)
    obtain ⟨oe, hoe, hce⟩ := he
    have hz₂ : ZOb h₂ z TI TO .ellipsis f1 := hs₂ _ _ (Ne.symm pz) hz₁
    have hez : e ≠ z := fun x => by subst x; rw [hz₂] at hoe; cases hoe; simp at hce
    refine wpAny_setField_rec (s := { s with heap := h₂ }) hz₂ (by simp) fun h₃ _ hs₃ => hE h₃ e (fun c o c1 c2 c3 x => hs₃.extBut _ _ c1 (hs₂ _ _ (c3 p (by simp)) (hs₁.extBut _ _ c1 x))) ⟨oe, hs₃.extBut _ _ hez hoe, hce⟩
  · simp only [Bool.false_eq_true, if_false]
    refine wpAny_bind ?_
    rw [← Array.forIn_toList]
    simp only [refs1, List.map_cons, List.forIn_cons]
    refine wpAny_bind (wpAny_bind (wpAny_holding ?_))
    show wpAny _ _ (Builtin.SmallTypes.nextOf (.ref p.1) >>= _) _ _ _
    refine wpAny_bind (nextOf_end (s := { s with heap := hA }) hh (hit.extBut hsA.extBut pz) (hl.extBut hsA.extBut lz) hx fun h₂ e hs₂ he => ?_)
    exact hE h₂ e (fun c o c1 c2 c3 x => hs₂ _ _ (c3 p (by simp)) (hsA.extBut _ _ c1 x)) he

theorem pyNext_zipS_item {z TI TO : Addr} {ps : List (Addr × Addr × Bool)} {i : Nat} {val : Addr × Bool → Value} {f0 f1 : Value} {ts : List Value} {Q : Option Value → Shared → Prop} (D : ZApart z TI TO ps)
    (hz : ZOb s.heap z TI TO f0 f1) (hf : F0 f0) (hTI : ZTup s.heap TI (refs1 ps)) (hTO : ZTup s.heap TO ts) (hts : ts.length = ps.length) (hn : ps.length ≤ sizeLine) (hne : ps ≠ [])
    (hit : ∀ p ∈ ps, It1 s.heap p.1 p.2 i) (hv : ∀ p ∈ ps, ∃ items, Sq1 s.heap p.2 items ∧ items[i]? = some (val p.2))
    (hQ : ∀ h' f0' f1', ZOb h' z TI TO f0' f1' → F0 f0' → (∃ ts', ZTup h' TO ts' ∧ ts'.length = ps.length) → (∀ p ∈ ps, It1 h' p.1 p.2 (i + 1)) → ZTup h' s.heap.objs.size (ps.map fun p => val p.2) →
      Keep z TO ps s.heap h' → Q (some (.ref s.heap.objs.size)) { s with heap := h' }) :
    wpAny (model prog w) A (pyNext (.ref z)) Q E s := by
  have hT : s.TypeIs (.ref z) "zip" := ⟨_, hz, rfl⟩
  unfold pyNext
  exact wpAny_bind (wpAny_attempt (wpAny_callSpecial?_slot (name := Str.ofString "__next__") hT F.slot_zip_next
    (wpAny_call_entry F.slot_zip_next hT F.entry_zip_next
      (zipS_next_item D hz hf hTI hTO hts hn hne hit hv fun h' a b a1 a2 a3 a4 a5 a6 => wpAny_pure (hQ h' a b a1 a2 a3 a4 a5 a6)) (F.args_zip_next_1 _))))

theorem pyNext_zipS_end {z TI TO : Addr} {p : Addr × Addr × Bool} {ps : List (Addr × Addr × Bool)} {i : Nat} {f0 f1 : Value} {ts : List Value} {items : Array Value} {Q : Option Value → Shared → Prop} (hh : A.handled = none) (D : ZApart z TI TO (p :: ps))
    (hz : ZOb s.heap z TI TO f0 f1) (hf : F0 f0) (hTI : ZTup s.heap TI (refs1 (p :: ps))) (hTO : ZTup s.heap TO ts)
    (hit : It1 s.heap p.1 p.2 i) (hl : Sq1 s.heap p.2 items) (hx : items[i]? = none)
    (hQ : ∀ h', Keep z TO (p :: ps) s.heap h' → Q none { s with heap := h' }) : wpAny (model prog w) A (pyNext (.ref z)) Q E s := by
  have hT : s.TypeIs (.ref z) "zip" := ⟨_, hz, rfl⟩
  unfold pyNext
  refine wpAny_bind (wpAny_attempt (wpAny_callSpecial?_slot (name := Str.ofString "__next__") hT F.slot_zip_next
    (wpAny_call_entry F.slot_zip_next hT F.entry_zip_next (zipS_next_end hh D hz hf hTI hTO hit hl hx fun h' e hk he => ?_) (F.args_zip_next_1 _))))
  obtain ⟨o, ho, hc⟩ := he
  refine wpAny_bind (wpAny_isInstance (T := "StopIteration") (b := true) ⟨o, ho, hc⟩ isSubtype_stop ?_)
  exact wpAny_pure (hQ _ hk)

theorem pyIter_zipS {z TI TO : Addr} {f0 f1 : Value} {Q : Value → Shared → Prop} (hz : ZOb s.heap z TI TO f0 f1) (h : Q (.ref z) s) : wpAny (model prog w) A (pyIter (.ref z)) Q E s := by
  have hT : s.TypeIs (.ref z) "zip" := ⟨_, hz, rfl⟩
  refine wpAny_pyIter_slot hT F.slot_zip_iter (wpAny_call_entry F.slot_zip_iter hT F.entry_zip_iter ?_ (F.args_zip_iter_1 _))
  show wpAny _ _ (ret (.ref z)) _ _ s
  exact wpAny_pure ⟨_, rfl, "zip", _, hT, F.slot_zip_next.lookup, h⟩

/-- the iterators laid one behind the other -/
def laid (h : Heap) : List (Addr × Bool) → Heap
  | [] => h
  | l :: ls => laid (h.push { cls := .type (clsI l.2), data := .fields #[.ref l.1, .int 0 0] }) ls
abbrev refsL (ls : List (Addr × Bool)) : List Value := ls.map fun l => Value.ref l.1
def pairs (n : Nat) : List (Addr × Bool) → List (Addr × Addr × Bool)
  | [] => []
  | l :: ls => (n, l) :: pairs (n + 1) ls

theorem typeCall_zip (xs : List Value) : checkTypeCall "zip" ⟨xs, []⟩ = pure () := by kernel_rfl
theorem newCall_zip0 : checkBuiltinCall "zip.__new__" ⟨[.type "zip"], []⟩ = pure () := by kernel_rfl
theorem newCall_zip1 (a : Value) : checkBuiltinCall "zip.__new__" ⟨[.type "zip", a], []⟩ = pure () := by kernel_rfl
theorem newCall_zip2 (a b : Value) : checkBuiltinCall "zip.__new__" ⟨[.type "zip", a, b], []⟩ = pure () := by kernel_rfl
theorem newCall_zip3 (a b c : Value) : checkBuiltinCall "zip.__new__" ⟨[.type "zip", a, b, c], []⟩ = pure () := by kernel_rfl
theorem newCall_zip4 (a b c d : Value) : checkBuiltinCall "zip.__new__" ⟨[.type "zip", a, b, c, d], []⟩ = pure () := by kernel_rfl
theorem newCall_zip5 (a b c d e : Value) : checkBuiltinCall "zip.__new__" ⟨[.type "zip", a, b, c, d, e], []⟩ = pure () := by kernel_rfl
theorem newCall_zip6 (a b c d e f : Value) : checkBuiltinCall "zip.__new__" ⟨[.type "zip", a, b, c, d, e, f], []⟩ = pure () := by kernel_rfl
theorem newCall_zip7 (a b c d e f g : Value) : checkBuiltinCall "zip.__new__" ⟨[.type "zip", a, b, c, d, e, f, g], []⟩ = pure () := by kernel_rfl
theorem newCall_zip8 (a b c d e f g h : Value) : checkBuiltinCall "zip.__new__" ⟨[.type "zip", a, b, c, d, e, f, g, h], []⟩ = pure () := by kernel_rfl
theorem newCall_zip : ∀ xs : List Value, xs.length ≤ 8 → checkBuiltinCall "zip.__new__" ⟨.type "zip" :: xs, []⟩ = pure ()
  | [], _ => newCall_zip0 
  | [a], _ => newCall_zip1 a
  | [a, b], _ => newCall_zip2 a b
  | [a, b, c], _ => newCall_zip3 a b c
  | [a, b, c, d], _ => newCall_zip4 a b c d
  | [a, b, c, d, e], _ => newCall_zip5 a b c d e
  | [a, b, c, d, e, f], _ => newCall_zip6 a b c d e f
  | [a, b, c, d, e, f, g], _ => newCall_zip7 a b c d e f g
  | [a, b, c, d, e, f, g, h], _ => newCall_zip8 a b c d e f g h
  | _ :: _ :: _ :: _ :: _ :: _ :: _ :: _ :: _ :: r, h => absurd h (by simp only [List.length_cons]; omega)
theorem objInit_zip1 (o a : Value) : argsOk "object.__init__" ⟨[o, a], []⟩ := by
  unfold argsOk; rw [signature?_of (id := "object.__init__") (n := ['_', '_', 't', 'i', 'n', 'i', '_', '_']) (o := ['t', 'c', 'e', 'j', 'b', 'o']) (by kernel_rfl) F.owner_object]; kernel_rfl
theorem objInit_zip2 (o a b : Value) : argsOk "object.__init__" ⟨[o, a, b], []⟩ := by
  unfold argsOk; rw [signature?_of (id := "object.__init__") (n := ['_', '_', 't', 'i', 'n', 'i', '_', '_']) (o := ['t', 'c', 'e', 'j', 'b', 'o']) (by kernel_rfl) F.owner_object]; kernel_rfl
theorem objInit_zip3 (o a b c : Value) : argsOk "object.__init__" ⟨[o, a, b, c], []⟩ := by
  unfold argsOk; rw [signature?_of (id := "object.__init__") (n := ['_', '_', 't', 'i', 'n', 'i', '_', '_']) (o := ['t', 'c', 'e', 'j', 'b', 'o']) (by kernel_rfl) F.owner_object]; kernel_rfl
theorem objInit_zip4 (o a b c d : Value) : argsOk "object.__init__" ⟨[o, a, b, c, d], []⟩ := by
  unfold argsOk; rw [signature?_of (id := "object.__init__") (n := ['_', '_', 't', 'i', 'n', 'i', '_', '_']) (o := ['t', 'c', 'e', 'j', 'b', 'o']) (by kernel_rfl) F.owner_object]; kernel_rfl
theorem objInit_zip5 (o a b c d e : Value) : argsOk "object.__init__" ⟨[o, a, b, c, d, e], []⟩ := by
  unfold argsOk; rw [signature?_of (id := "object.__init__") (n := ['_', '_', 't', 'i', 'n', 'i', '_', '_']) (o := ['t', 'c', 'e', 'j', 'b', 'o']) (by kernel_rfl) F.owner_object]; kernel_rfl
theorem objInit_zip6 (o a b c d e f : Value) : argsOk "object.__init__" ⟨[o, a, b, c, d, e, f], []⟩ := by
  unfold argsOk; rw [signature?_of (id := "object.__init__") (n := ['_', '_', 't', 'i', 'n', 'i', '_', '_']) (o := ['t', 'c', 'e', 'j', 'b', 'o']) (by kernel_rfl) F.owner_object]; kernel_rfl
theorem objInit_zip7 (o a b c d e f g : Value) : argsOk "object.__init__" ⟨[o, a, b, c, d, e, f, g], []⟩ := by
  unfold argsOk; rw [signature?_of (id := "object.__init__") (n := ['_', '_', 't', 'i', 'n', 'i', '_', '_']) (o := ['t', 'c', 'e', 'j', 'b', 'o']) (by kernel_rfl) F.owner_object]; kernel_rfl
theorem objInit_zip8 (o a b c d e f g h : Value) : argsOk "object.__init__" ⟨[o, a, b, c, d, e, f, g, h], []⟩ := by
  unfold argsOk; rw [signature?_of (id := "object.__init__") (n := ['_', '_', 't', 'i', 'n', 'i', '_', '_']) (o := ['t', 'c', 'e', 'j', 'b', 'o']) (by kernel_rfl) F.owner_object]; kernel_rfl
theorem objInit_zip (o : Value) : ∀ xs : List Value, xs ≠ [] → xs.length ≤ 8 → argsOk "object.__init__" ⟨o :: xs, []⟩
  | [], h, _ => absurd rfl h
  | [a], _, _ => objInit_zip1 o a
  | [a, b], _, _ => objInit_zip2 o a b
  | [a, b, c], _, _ => objInit_zip3 o a b c
  | [a, b, c, d], _, _ => objInit_zip4 o a b c d
  | [a, b, c, d, e], _, _ => objInit_zip5 o a b c d e
  | [a, b, c, d, e, f], _, _ => objInit_zip6 o a b c d e f
  | [a, b, c, d, e, f, g], _, _ => objInit_zip7 o a b c d e f g
  | [a, b, c, d, e, f, g, h], _, _ => objInit_zip8 o a b c d e f g h
  | _ :: _ :: _ :: _ :: _ :: _ :: _ :: _ :: _ :: r, _, h => absurd h (by simp only [List.length_cons]; omega)

theorem laid_append (h : Heap) : ∀ (l1 l2 : List (Addr × Bool)), laid h (l1 ++ l2) = laid (laid h l1) l2
  | [], _ => rfl
  | l :: l1, l2 => laid_append _ l1 l2
theorem laid_size : ∀ (ls : List (Addr × Bool)) (h : Heap), (laid h ls).objs.size = h.objs.size + ls.length
  | [], _ => rfl
  | l :: ls, h => by rw [laid, laid_size ls, Heap.size_push, List.length_cons]; omega
theorem laid_keep : ∀ (ls : List (Addr × Bool)) (h : Heap) (c : Addr) (o : Obj), h.get? c = some o → (laid h ls).get? c = some o
  | [], _, _, _, e => e
  | _ :: ls, _, c, o, e => laid_keep ls _ c o (Heap.get?_push_of_some _ e)
theorem pairs_append (n : Nat) : ∀ (l1 l2 : List (Addr × Bool)), pairs n (l1 ++ l2) = pairs n l1 ++ pairs (n + l1.length) l2
  | [], _ => by simp [pairs]
  | l :: l1, l2 => by
    simp only [List.cons_append, pairs, pairs_append (n + 1) l1 l2, List.length_cons]
    rw [show n + 1 + l1.length = n + (l1.length + 1) by omega]
theorem pairs_snd : ∀ (ls : List (Addr × Bool)) (n : Nat), (pairs n ls).map (·.2) = ls
  | [], _ => rfl
  | l :: ls, n => by simp [pairs, pairs_snd ls]
theorem pairs_len (ls : List (Addr × Bool)) (n : Nat) : (pairs n ls).length = ls.length := by rw [← List.length_map (f := (·.2)), pairs_snd]
theorem pairs_ge : ∀ (ls : List (Addr × Bool)) (n : Nat) (p : Addr × Addr × Bool), p ∈ pairs n ls → n ≤ p.1 ∧ p.1 < n + ls.length ∧ p.2 ∈ ls
  | [], _, _, h => by simp [pairs] at h
  | l :: ls, n, p, h => by
    simp only [pairs, List.mem_cons] at h
    rcases h with rfl | h
    · simp
    · obtain ⟨a, b, c⟩ := pairs_ge ls _ p h
      simp only [List.length_cons, List.mem_cons]
      exact ⟨Nat.le_trans (Nat.le_succ n) a, Nat.lt_of_lt_of_eq (m := n + 1 + ls.length) b (by omega), .inr c⟩
theorem pairs_nd : ∀ (ls : List (Addr × Bool)) (n : Nat), ((pairs n ls).map (·.1)).Nodup
  | [], _ => by simp [pairs]
  | l :: ls, n => by
    simp only [pairs, List.map_cons, List.nodup_cons, List.mem_map]
    refine ⟨?_, pairs_nd ls _⟩
    rintro ⟨p, hp, e⟩
    have q := (pairs_ge ls _ p hp).1
    rw [e] at q
    exact absurd q (Nat.not_succ_le_self n)
theorem laid_iter : ∀ (ls : List (Addr × Bool)) (h : Heap) (p : Addr × Addr × Bool), p ∈ pairs h.objs.size ls → It1 (laid h ls) p.1 p.2 0
  | [], _, _, h => by simp [pairs] at h
  | l :: ls, h, p, hp => by
    simp only [pairs, List.mem_cons] at hp
    rcases hp with rfl | hp
    · exact ⟨_, laid_keep ls _ _ _ (Heap.get?_push_size _ rfl), rfl, rfl⟩
    · refine laid_iter ls _ p ?_
      rw [Heap.size_push]; exact hp

theorem wpAny_iterAll {ls : List (Addr × Bool)} {Q : List Value → Shared → Prop} (hl : ∀ l ∈ ls, ∃ items, Sq1 s.heap l items)
    (hQ : Q (refs1 (pairs s.heap.objs.size ls)) { s with heap := laid s.heap ls }) :
    wpAny (model prog w) A (Builtin.SmallTypes.iterAll ((refsL ls))) Q E s := by
  unfold Builtin.SmallTypes.iterAll
  refine wpAny_bind ?_
  refine wpAny_forIn_list _ (fun rest b s' => ∃ l1 l2, ls = l1 ++ l2 ∧ rest = (refsL l2) ∧ b = (refs1 (pairs s.heap.objs.size l1)).toArray ∧ s' = { s with heap := laid s.heap l1 }) _ ?_ ?_ _ _ ⟨[], ls, rfl, rfl, rfl, rfl⟩
  · rintro u rest b s' ⟨l1, l2, e, er, rfl, rfl⟩
    cases l2 with
    | nil => simp at er
    | cons l l2 =>
      simp only [List.map_cons, List.cons.injEq] at er
      obtain ⟨rfl, rfl⟩ := er
      obtain ⟨items, o, ho, r⟩ := hl l (by rw [e]; simp)
      refine wpAny_bind (wpAny_holding (pyIter_sq (l := l) (s := { s with heap := laid s.heap l1 }) (items := items) ⟨o, laid_keep l1 _ _ _ ho, r⟩ (wpAny_pure ?_)))
      refine ⟨l1 ++ [l], l2, by rw [e]; simp, rfl, ?_, ?_⟩
      · rw [pairs_append, laid_size]; simp [pairs, refs1]
      · rw [laid_append]; rfl
  · rintro b s' ⟨l1, l2, e, er, rfl, rfl⟩
    have e2 : l2 = [] := by simpa using er.symm
    subst e2
    simp only [List.append_nil] at e
    subst e
    exact wpAny_pure hQ

abbrev newH1 (h : Heap) (ls : List (Addr × Bool)) : Heap := (laid h ls).push { cls := .type "tuple", data := .seq (refs1 (pairs h.objs.size ls)).toArray }
abbrev newH2 (h : Heap) (ls : List (Addr × Bool)) : Heap := (newH1 h ls).push { cls := .type "tuple", data := .seq ((refs1 (pairs h.objs.size ls)).map fun _ => Value.none).toArray }
abbrev newH3 (h : Heap) (ls : List (Addr × Bool)) : Heap := (newH2 h ls).push { cls := .type "zip", data := .fields #[.none, .bool false, .bool false, .ref (laid h ls).objs.size, .ref (newH1 h ls).objs.size] }

theorem meets_zipS_new (ls : List (Addr × Bool)) (hn : ls.length ≤ sizeLine) :
    Meets (Builtin.«zip.__new__» ⟨.type "zip" :: (refsL ls), []⟩) (fun _ R s => (∀ l ∈ ls, ∃ items, Sq1 s.heap l items) ∧
      R (.ok (.ret (.ref (newH2 s.heap ls).objs.size))) { s with heap := newH3 s.heap ls }) :=
  .of_wp fun prog w A R s h => by
    obtain ⟨hp, g, d, tk, os⟩ := s; obtain ⟨hl, h⟩ := h
    have hsub := sub_zip
    have hn' : (refs1 (pairs hp.objs.size ls)).length ≤ sizeLine := by rw [List.length_map, pairs_len]; exact hn
    have hI : ∀ {A' : Around} {Q E}, Q (refs1 (pairs hp.objs.size ls)) ⟨laid hp ls, g, d, tk, os⟩ → wpAny (model prog w) A' (Builtin.SmallTypes.iterAll ((refsL ls))) Q E ⟨hp, g, d, tk, os⟩ := fun q => wpAny_iterAll hl q
    wp_walk using hI
    have z1 := @wpAny_newTuple (model prog w) A.in1 (fun e s' => R (Except.error e) s') ⟨laid hp ls, g, d, tk, os⟩ (refs1 (pairs hp.objs.size ls))
    refine z1 ?_ hn'
    refine wpAny_bind (wpAny_newTuple ?_ (by rw [List.length_map]; exact hn'))
    wp_walk using hI
    exact ⟨_, rfl, h⟩

theorem call_zipS {ls : List (Addr × Bool)} {Q : Value → Shared → Prop} (hne : ls ≠ []) (h8 : ls.length ≤ 8) (hl : ∀ l ∈ ls, ∃ items, Sq1 s.heap l items)
    (h : ∀ h', ZOb h' (s.heap.objs.size + ls.length + 2) (s.heap.objs.size + ls.length) (s.heap.objs.size + ls.length + 1) .none (.bool false) → ZTup h' (s.heap.objs.size + ls.length) (refs1 (pairs s.heap.objs.size ls)) →
      (∃ ts, ZTup h' (s.heap.objs.size + ls.length + 1) ts ∧ ts.length = ls.length) → (∀ p ∈ pairs s.heap.objs.size ls, It1 h' p.1 p.2 0) →
      (∀ c o, s.heap.get? c = some o → h'.get? c = some o) → Q (.ref (s.heap.objs.size + ls.length + 2)) { s with heap := h' }) :
    wpAny (model prog w) A (call (.type "zip") ((refsL ls))) Q E s := by
  have hne' : (refsL ls) ≠ [] := by cases ls with | nil => exact absurd rfl hne | cons _ _ => simp
  have h8' : ((refsL ls)).length ≤ 8 := by rw [List.length_map]; exact h8
  refine callType_new F.called_zip (by decide) (typeCall_zip _) (newCall_zip _ h8') (fun obj => objInit_zip obj _ hne' h8') F.entry_zip_new
    (meets_zipS_new ls (Nat.le_trans h8 (by decide))) ⟨hl, ?_⟩
  have z0 : (laid s.heap ls).objs.size = s.heap.objs.size + ls.length := laid_size ..
  have z1 : (newH1 s.heap ls).objs.size = s.heap.objs.size + ls.length + 1 := by rw [Heap.size_push, z0]
  have z2 : (newH2 s.heap ls).objs.size = s.heap.objs.size + ls.length + 2 := by rw [Heap.size_push, z1]
  have g3 : (newH3 s.heap ls).get? (newH2 s.heap ls).objs.size = some _ := Heap.get?_push_size _ rfl
  have g2 : (newH3 s.heap ls).get? (newH1 s.heap ls).objs.size = some _ := Heap.get?_push_of_some _ (Heap.get?_push_size _ rfl)
  have g1 : (newH3 s.heap ls).get? (laid s.heap ls).objs.size = some _ := Heap.get?_push_of_some _ (Heap.get?_push_of_some _ (Heap.get?_push_size _ rfl))
  have up : ∀ c o, (laid s.heap ls).get? c = some o → (newH3 s.heap ls).get? c = some o := fun c o e => Heap.get?_push_of_some _ (Heap.get?_push_of_some _ (Heap.get?_push_of_some _ e))
  show _ ∧ _
  rw [z0, z1, z2] at g3
  rw [z1] at g2
  rw [z0] at g1
  rw [z2]
  refine ⟨⟨_, g3, rfl⟩, h _ g3 g1 ⟨_, g2, ?_⟩ (fun p hp => (laid_iter ls _ p hp).at fun o e => up _ o e) fun c o e => up c o (laid_keep ls _ c o e)⟩
  simp [pairs_len]
end
end ZS
end PySem
namespace L2
open PySem PySem.Spec PyProof.Rows PySem.ZS

/-- a list or a tuple -/
def SqA (K : PySem.W.Frag) (H : Hp) (l : Addr × Bool) (xs : List V) : Prop := match l with
  | (a, true) => SqT K H a xs
  | (a, false) => SqL K H a xs
theorem Inv.sqA {X : Cx} {pins : List (Addr × Obj)} {σ : St} {H : Hp} {s : Shared} {l : Addr × Bool} {xs : List V} (I : Inv X pins σ H s) (h : SqA X.K H l xs) : ∃ its : List Value, Vals xs its ∧ Sq1 s.heap l its.toArray := by
  obtain ⟨a, k⟩ := l
  cases k with
  | false => obtain ⟨its, r, p, _⟩ := I.list h; exact ⟨its, r, p.isList⟩
  | true => obtain ⟨its, r, ⟨o, ho, hc, n, hd⟩, _⟩ := I.tuple h; exact ⟨its, r, ⟨o, ho, hc, n, hd⟩⟩
theorem Inv.sqA_inj {X : Cx} {pins : List (Addr × Obj)} {σ : St} {H : Hp} {s : Shared} {l : Addr × Bool} {xs ys : List V} (I : Inv X pins σ H s) (h : SqA X.K H l xs) (h' : SqA X.K H l ys) : xs = ys := by
  obtain ⟨a, k⟩ := l
  cases k with
  | false => exact I.list_inj h h'
  | true => exact I.tuple_inj h h'
theorem Sq1.lt {h : Heap} {l : Addr × Bool} {xs : Array Value} (x : Sq1 h l xs) : l.1 < h.objs.size := by obtain ⟨o, ho, _⟩ := x; exact Heap.lt_size ho
/-- the step ahead of the store -/
theorem letGo_zipS {A : Around} {E : Value → Shared → Prop} {s : Shared} {prog : Program} {w : World} {z TI TO T : Addr} {f0 f1 : Value} {Q : Unit → Shared → Prop} (tg : Expr) (hz : ZOb s.heap z TI TO f0 f1) (hf : F0 f0)
    (hQ : ∀ h' f0', ZOb h' z TI TO f0' f1 → F0 f0' → Heap.SameBut z s.heap h' → Q () { s with heap := h' }) : wpAny (model prog w) A (letOwnedTupleGo tg (.ref z) (.ref T)) Q E s := by
  have h0 : Q () s := hQ s.heap f0 hz hf ⟨rfl, fun _ _ => rfl⟩
  unfold letOwnedTupleGo
  cases tg <;> first
    | exact wpAny_pure h0
    | (refine wpAny_bind (wpAny_load hz ?_)
       show wpAny _ _ (if (["enumerate", "zip", "dict_itemiterator", "dict_reverseitemiterator", "odict_iterator", "itertools.zip_longest", "itertools.pairwise"].contains "zip" &&
          (#[f0, f1, .bool false, .ref TI, .ref TO] : Array Value)[0]? == some (rawInt T)) = true then _ else _) Q E s
       split
       · refine wpAny_bind (wpAny_rule ?_)
         show wpAny _ _ (setField (.ref z) 0 .none) Q E s
         exact wpAny_setField_rec hz (by simp) fun h' hz' hs' => hQ h' .none hz' (.inl rfl) hs'
       · exact wpAny_pure h0)

/-- what a turn of zip(*lists) hands out: the i-th items -/
def Cols (K : PySem.W.Frag) (H : Hp) (i : Nat) : List (Addr × Bool) → List V → Prop
  | [], [] => True
  | l :: ls, y :: ys => (∀ xs, SqA K H l xs → xs[i]? = some y) ∧ Cols K H i ls ys
  | _, _ => False
def Itn (K : PySem.W.Frag) (ls : List (Addr × Bool)) : It :=
  ⟨fun i H => ∀ l ∈ ls, ∃ (xs : List V) (x : V), SqA K H l xs ∧ xs[i]? = some x, fun i H v H' => ∃ T ys, v = .ref T ∧ H T = none ∧ H' = upd H T (.tup ys) ∧ Cols K H i ls ys,
    fun i H => ∃ l ls' xs, ls = l :: ls' ∧ SqA K H l xs ∧ xs.length ≤ i⟩
theorem cols_of {K : PySem.W.Frag} {H : Hp} {i : Nat} {val : Addr × Bool → Value} : ∀ (ls : List (Addr × Bool)), (∀ l ∈ ls, ∃ y, (∀ xs, SqA K H l xs → xs[i]? = some y) ∧ RelV y (val l)) → ∃ ys, Cols K H i ls ys ∧ Vals ys (ls.map val) ∧ ys.length = ls.length
  | [], _ => ⟨[], trivial, .nil, rfl⟩
  | l :: ls, h => by
    obtain ⟨y, hy, r⟩ := h l (by simp)
    obtain ⟨ys, c, rv, hl⟩ := cols_of ls fun l' hl => h l' (by simp [hl])
    exact ⟨y :: ys, ⟨hy, c⟩, .cons r rv, by simp [hl]⟩
def itemAt (h : Heap) (i : Nat) (l : Addr × Bool) : Value :=
  match h.get? l.1 with
  | some o => match o.data with
    | .seq a _ => a[i]?.getD .none
    | _ => .none
  | none => .none
theorem itemAt_of {h : Heap} {i : Nat} {l : Addr × Bool} {items : Array Value} {u : Value} (hl : Sq1 h l items) (hu : items[i]? = some u) : itemAt h i l = u := by
  obtain ⟨o, ho, _, n, hd⟩ := hl
  simp [itemAt, ho, hd, hu]

theorem turn_zipS {P : Program} {w : World} {K : PySem.W.Frag} {tg : Expr} {z TI TO : Addr} {ps : List (Addr × Addr × Bool)} (D : ZApart z TI TO ps) (hne : ps ≠ []) (hn : ps.length ≤ sizeLine) :
    Turn P w K tg (Itn K (ps.map (·.2))) (z :: TI :: TO :: ps.map (·.1)) z
      (fun i h => (∃ f0 f1, ZOb h z TI TO f0 f1 ∧ F0 f0) ∧ ZTup h TI (refs1 ps) ∧ (∃ ts, ZTup h TO ts ∧ ts.length = ps.length) ∧ ∀ p ∈ ps, It1 h p.1 p.2 i) where
  mem := by simp
  obj := fun i h st c hc => by
    obtain ⟨⟨f0, f1, hz, _⟩, hTI, ⟨ts, hTO, _⟩, hit⟩ := st
    rcases List.mem_cons.1 hc with q | hc
    · rw [q]; exact ⟨_, hz, fun v q => nomatch q⟩
    rcases List.mem_cons.1 hc with q | hc
    · rw [q]; exact ⟨_, hTI, fun v q => nomatch q⟩
    rcases List.mem_cons.1 hc with q | hc
    · rw [q]; exact ⟨_, hTO, fun v q => nomatch q⟩
    obtain ⟨p, hp, rfl⟩ := List.mem_map.1 hc
    obtain ⟨o, e, _, d⟩ := hit p hp
    exact ⟨o, e, fun v q => by rw [d] at q; cases q⟩
  keep := fun i h h' st k => by
    obtain ⟨⟨f0, f1, hz, hf⟩, hTI, ⟨ts, hTO, hts⟩, hit⟩ := st
    exact ⟨⟨f0, f1, k z (by simp) _ hz, hf⟩, k TI (by simp) _ hTI, ⟨ts, k TO (by simp) _ hTO, hts⟩, fun p hp => (hit p hp).at fun o e => k p.1 (by simp only [List.mem_cons, List.mem_map]; exact .inr (.inr (.inr ⟨p, hp, rfl⟩))) o e⟩
  item := by
    intro X hP hw hK hc i pins s σ H E I hf st hg
    subst hP hw hK
    obtain ⟨⟨f0, f1, hz, hf0⟩, hTI, ⟨ts, hTO, hts⟩, hit⟩ := st
    have hv0 : ∀ p ∈ ps, ∃ y items, (∀ xs, SqA X.K H p.2 xs → xs[i]? = some y) ∧ RelV y (itemAt s.heap i p.2) ∧ Sq1 s.heap p.2 items ∧ items[i]? = some (itemAt s.heap i p.2) := fun p hp => by
      obtain ⟨xs, y, hq, hy⟩ := hg p.2 (List.mem_map_of_mem hp)
      obtain ⟨its, rv, pl⟩ := I.sqA hq
      obtain ⟨u, hu, ru⟩ := rv.get hy
      have hu' : its.toArray[i]? = some u := by simpa using hu
      have e := itemAt_of pl hu'
      exact ⟨y, its.toArray, fun xs' h' => by rw [I.sqA_inj h' hq]; exact hy, by rw [e]; exact ru, pl, by rw [e]; exact hu'⟩
    obtain ⟨ys, hcols, hvals, hlen⟩ := cols_of (K := X.K) (H := H) (i := i) (val := itemAt s.heap i) (ps.map (·.2)) fun l hl => by
      obtain ⟨p, hp, rfl⟩ := List.mem_map.1 hl
      obtain ⟨y, _, a, b, _⟩ := hv0 p hp
      exact ⟨y, a, b⟩
    refine pyNext_zipS_item D hz hf0 hTI hTO hts hn hne hit (val := itemAt s.heap i) (fun p hp => by obtain ⟨_, items, _, _, a, b⟩ := hv0 p hp; exact ⟨items, a, b⟩) fun h' f0' f1' z' hf0' ⟨ts', TO', hts'⟩ hit' hT hk => ?_
    refine ⟨_, rfl, letGo_zipS (s := { s with heap := h' }) tg z' hf0' fun h2 f0'' z'' hf0'' sb => ?_⟩
    have hTz : s.heap.objs.size ≠ z := Nat.ne_of_gt (Heap.lt_size hz)
    replace hk : Keep z TO ps s.heap h2 := fun c o c1 c2 c3 e => (sb.2 c c1).trans (hk c o c1 c2 c3 e)
    replace hT : ZTup h2 s.heap.objs.size (ps.map fun p => itemAt s.heap i p.2) := (sb.2 _ hTz).trans hT
    replace TO' : ZTup h2 TO ts' := (sb.2 _ D.TOz).trans TO'
    replace hit' : ∀ p ∈ ps, It1 h2 p.1 p.2 (i + 1) := fun p hp => (hit' p hp).at fun o e => (sb.2 _ (D.it p hp).1).trans e
    have hT' : h2.get? s.heap.objs.size = some { cls := .type "tuple", data := .seq ((ps.map (·.2)).map (itemAt s.heap i)).toArray } := by rw [List.map_map]; exact hT
    have new : ObjOk X.prog X.w (upd H s.heap.objs.size (.tup ys)) h2 s.heap.objs.size (.tup ys) :=
      ⟨by show ys.length ≤ sizeLine; rw [hlen, List.length_map]; exact hn, _, hvals, ⟨_, hT', rfl, _, rfl⟩⟩
    have I1 : Inv X pins σ (upd H s.heap.objs.size (.tup ys)) { s with heap := h2 } :=
      I.turnedNew (t' := s.toks) (ch := z :: TI :: TO :: ps.map (·.1)) (fun c o hb q => hk c o (fun q' => hb (by simp [q'])) (fun q' => hb (by simp [q'])) (fun p hp q' => hb (by simp only [List.mem_cons, List.mem_map]; exact .inr (.inr (.inr ⟨p, hp, q'.symm⟩)))) q) hf (Nat.le_refl _) new
    refine ⟨.ref s.heap.objs.size, _, I1, rfl, ⟨_, ys, rfl, I.hok.fresh (Nat.le_refl _), rfl, hcols⟩, ⟨⟨f0'', f1', z'', hf0''⟩, hk _ _ D.TIz D.TITO (fun p hp => Ne.symm (D.it p hp).2.1) hTI, ⟨ts', TO', hts'⟩, hit'⟩, fun c hcm => ?_⟩
    have hlt : c < s.heap.objs.size := by
      rcases List.mem_cons.1 hcm with q | hcm
      · rw [q]; exact Heap.lt_size hz
      rcases List.mem_cons.1 hcm with q | hcm
      · rw [q]; exact Heap.lt_size hTI
      rcases List.mem_cons.1 hcm with q | hcm
      · rw [q]; exact Heap.lt_size hTO
      obtain ⟨p, hp, rfl⟩ := List.mem_map.1 hcm
      obtain ⟨_, e, _⟩ := hit p hp
      exact Heap.lt_size e
    rw [upd_ne (Nat.ne_of_lt hlt)]
    exact (hf c hcm).1
  done := by
    intro X hP hw hK hc i pins s σ H E I hf st hg
    subst hP hw hK
    obtain ⟨⟨f0, f1, hz, hf0⟩, hTI, ⟨ts, hTO, hts⟩, hit⟩ := st
    obtain ⟨l, ls', xs, el, hq, hend⟩ := hg
    cases ps with
    | nil => exact absurd rfl hne
    | cons p ps =>
      simp only [List.map_cons, List.cons.injEq] at el
      obtain ⟨rfl, _⟩ := el
      obtain ⟨its, rv, pl⟩ := I.sqA hq
      have hl := rv.length
      exact pyNext_zipS_end (I.ok.hd hc) D hz hf0 hTI hTO (hit p (by simp)) pl (by simp; omega) fun h' hk => ⟨rfl, I.turnedL (t' := s.toks) (ch := z :: TI :: TO :: (p :: ps).map (·.1)) (fun c o hb q =>
        hk c o (fun q' => hb (by simp [q'])) (fun q' => hb (by simp [q'])) (fun p' hp q' => hb (by simp only [List.mem_cons (a := c), List.mem_map]; exact .inr (.inr (.inr ⟨p', hp, q'.symm⟩)))) q) hf⟩
  self := fun A i s Q E st h => let ⟨⟨_, _, hz, _⟩, _⟩ := st; pyIter_zipS hz h

theorem callWith_typeS {M : Model} {A : Around} {E : Value → Shared → Prop} {s : Shared} {pos : Pos} {T : String} {x : Sem Value} {Q : Value → Shared → Prop}
    (h : wpAny M A x (fun v s₁ => PySem.W.StarOf M A E v (fun vs s₂ => wpAny M A (call (.type T) vs) Q E s₂) s₁) E s) :
    wpAny M A (callWith pos (.type T) [] (backTo pos [(true, x)]) []) Q E s := by
  unfold callWith
  refine wpAny_bind (wpAny_holding (wpAny_mono (PySem.W.ks_lone (Q := fun a s₂ => wpAny M A (call (.type T) a.pos a.kw) Q E s₂) (wpAny_mono h (fun v s₁ h₁ => h₁) fun _ _ x => x)) (fun a s₁ h₁ => wpAny_bind (wpAny_standAt ?_)) fun _ _ x => x))
  have z := wpAny_bind (m := operate ((.type T :: a.pos.reverse) ++ a.kw.map (·.2)) (call (.type T) a.pos a.kw)) (f := fun r => do holding [r] point; pure r) (wpAny_operate' (wpAny_mono h₁ (fun r s₂ hr => wpAny_bind (wpAny_holding (wpAny_point (wpAny_pure hr)))) fun _ _ x => x))
  exact wpAny_bind (wpAny_pure z)
/-- an iterator of zip over these, laid -/
theorem pie_zipS {X : Cx} {pins : List (Addr × Obj)} {σ : St} {H1 : Hp} {R : It → Hp → Prop} {tg : Expr} {s2 : Shared} {ls : List (Addr × Bool)} (I2 : Inv X pins σ H1 s2) (hne : ls ≠ []) (h8 : ls.length ≤ 8) (hls : ∀ l ∈ ls, ∃ xs, SqA X.K H1 l xs) (q : R (Itn X.K ls) H1) :
    wpAny (model X.prog X.w) X.A (call (.type "zip") (refsL ls)) (fun v s1 => wpAny (model X.prog X.w) X.A (pyIter v) (PIE X pins σ tg R) X.xe s1) X.xe s2 := by
  refine call_zipS hne h8 (fun l hl => by obtain ⟨xs, hx⟩ := hls l hl; obtain ⟨its, _, pl⟩ := I2.sqA hx; exact ⟨_, pl⟩) fun h' hz hTI hTO hit hk => pyIter_zipS hz ?_
  have I3 : Inv X pins σ H1 { s2 with heap := h' } := I2.kept (t' := s2.toks) hk
  have lt : ∀ l ∈ ls, l.1 < s2.heap.objs.size := fun l hl => by obtain ⟨xs, hx⟩ := hls l hl; obtain ⟨its, _, pl⟩ := I2.sqA hx; exact Sq1.lt pl
  have D : ZApart (s2.heap.objs.size + ls.length + 2) (s2.heap.objs.size + ls.length) (s2.heap.objs.size + ls.length + 1) (pairs s2.heap.objs.size ls) := by
    refine ⟨fun e => absurd (show (s2.heap.objs.size + ls.length : Nat) = s2.heap.objs.size + ls.length + 2 from e) (by omega), fun e => absurd (show (s2.heap.objs.size + ls.length + 1 : Nat) = s2.heap.objs.size + ls.length + 2 from e) (by omega), fun e => absurd (show (s2.heap.objs.size + ls.length : Nat) = s2.heap.objs.size + ls.length + 1 from e) (by omega), fun p hp => ?_, fun p hp => ?_, pairs_nd ..⟩
    · have a1 : p.1 < s2.heap.objs.size + ls.length := (pairs_ge ls _ p hp).2.1
      exact ⟨Nat.ne_of_lt (Nat.lt_of_lt_of_le a1 (by omega)), Nat.ne_of_lt a1, Nat.ne_of_lt (Nat.lt_of_lt_of_le a1 (by omega))⟩
    · have a1 : p.2.1 < s2.heap.objs.size := lt p.2 (pairs_ge ls _ p hp).2.2
      exact ⟨Nat.ne_of_lt (Nat.lt_of_lt_of_le a1 (by omega)), Nat.ne_of_lt (Nat.lt_of_lt_of_le a1 (by omega)), fun q hq => Nat.ne_of_lt (Nat.lt_of_lt_of_le a1 (pairs_ge ls _ q hq).1)⟩
  obtain ⟨ts, hTO, hts⟩ := hTO
  have hpne : pairs s2.heap.objs.size ls ≠ [] := fun e => hne (by rw [← pairs_snd ls s2.heap.objs.size, e]; rfl)
  have T := turn_zipS (P := X.prog) (w := X.w) (K := X.K) (tg := tg) D hpne (by rw [ZS.pairs_len]; exact Nat.le_trans h8 (by decide))
  rw [pairs_snd] at T
  refine ⟨_, _, _, _, H1, rfl, I3, T, ⟨⟨_, _, hz, .inl rfl⟩, hTI, ⟨ts, hTO, by rw [ZS.pairs_len]; exact hts⟩, hit⟩, fun c hcm => ?_, q⟩
  have hle : s2.heap.objs.size ≤ c := by
    rcases List.mem_cons.1 hcm with q | hcm
    · rw [q]; omega
    rcases List.mem_cons.1 hcm with q | hcm
    · rw [q]; omega
    rcases List.mem_cons.1 hcm with q | hcm
    · rw [q]; omega
    obtain ⟨p, hp, rfl⟩ := List.mem_map.1 hcm
    exact (pairs_ge ls _ p hp).1
  exact I2.fpOk hle (I2.hok.fresh hle)
/-- zip(*e), e a list of at most 8 lists -/
def iZipS (K : PySem.W.Frag) (te : TE) : TI := fun σ H R => te σ H fun v H1 => ∃ a ls, v = .ref a ∧ SqL K H1 a (ls.map V.ref) ∧ ls ≠ [] ∧ ls.length ≤ 8 ∧ (∀ l ∈ ls, ∃ xs, SqL K H1 l xs) ∧ R (Itn K (ls.map fun l => (l, false))) H1
theorem zs_vals_refs : ∀ {ls : List Addr} {us : List Value}, Vals (ls.map V.ref) us → us = refsL (ls.map fun l => (l, false))
  | [], _, .nil => rfl
  | l :: ls, _, .cons r rr => by
    cases r
    rw [zs_vals_refs rr]; rfl
theorem pi_zipS {X : Cx} {tg e : Expr} {te : TE} {p p2 pos : Pos} (hg : Gl X "zip") (hm : X.mg "zip" = none) (he : PE X e te)
    (hs : starEach [.Starred e p2] X.env = [(true, eval e X.env)] := by rfl) :
    PI X tg (.Call (.Name "zip" p) [.Starred e p2] [] pos) (iZipS X.K te) := by
  refine ⟨fun pins s σ H R I h => ?_⟩
  refine Call_ (ld_blt I hg hm PyProof.Rows.boot_zip ?_)
  rw [hs]
  refine callWith_typeS (thn (he.run pins s σ H _ I h) fun v s1 ⟨y, H1, I1, ry, a, ls, ey, hq, hne, h8, hls, q⟩ => ?_)
  subst ey
  obtain rfl : v = Value.ref a := ry
  refine StX.star_lst I1 hq fun us s2 I2 rv => ?_
  have e := zs_vals_refs rv
  subst e
  refine pie_zipS I2 (by simpa using hne) (by simpa using h8) (fun l hl => ?_) q
  obtain ⟨l', hl', rfl⟩ := List.mem_map.1 hl
  exact hls l' hl'
/-- zip(e, e2), e a list, e2 a tuple -/
def iZipM (K : PySem.W.Frag) (ta : TA) : TI := fun σ H R => ta σ H fun vs H1 => ∃ a b xs ys, vs = [.ref a, .ref b] ∧ SqL K H1 a xs ∧ SqT K H1 b ys ∧ R (Itn K [(a, false), (b, true)]) H1
theorem pi_zipM {X : Cx} {tg e e2 : Expr} {ta : TA} {p pos : Pos} (hg : Gl X "zip") (hm : X.mg "zip" = none) (ha : PA X [e, e2] ta)
    (hs : starEach [e, e2] X.env = (false, eval e X.env) :: starEach [e2] X.env := by rfl) (hpl : (backTo pos (starEach [e2] X.env)).any (·.1) = false := by rfl) :
    PI X tg (.Call (.Name "zip" p) [e, e2] [] pos) (iZipM X.K ta) := by
  refine ⟨fun pins s σ H R I h => ?_⟩
  refine Call_ (ld_blt I hg hm PyProof.Rows.boot_zip (PyProof.Rows.callWith_type1 (thn (ha.run pos pins s σ H _ I h) fun us s1 ⟨vs, H1, I1, r1, q1⟩ => ?_) hs hpl))
  obtain ⟨a, b, xs, ys, ex, hqx, hqy, q⟩ := q1
  subst ex
  cases r1 with
  | cons r rr =>
    cases rr with
    | cons r' rr =>
      cases rr
      cases r
      cases r'
      refine pie_zipS (ls := [(a, false), (b, true)]) I1 (by simp) (by simp) (fun l hl => ?_) q
      rcases List.mem_cons.1 hl with rfl | hl
      · exact ⟨xs, hqx⟩
      · rw [List.mem_singleton.1 hl]
        exact ⟨ys, hqy⟩
end L2
namespace PP
open PySem L2
def top (i : Nat) : Stmt := (PySem.Challenge.pw_paritypool_k07_encode).main.body.getD i (.Pass ⟨0, 0, 0, 0⟩)
abbrev s_inverse : Stmt := top 6
abbrev s_weight : Stmt := top 7
abbrev s_weights : Stmt := top 8
abbrev s_check_lengths : Stmt := top 10
abbrev s_piece_at : Stmt := top 11
abbrev s_encode : Stmt := top 12
abbrev s_law_pot : Stmt := top 14
abbrev s_law_next : Stmt := top 15
abbrev s_law_word : Stmt := top 16
abbrev s_law_words : Stmt := top 17
abbrev s_law_horner : Stmt := top 18
abbrev s_law_stripe : Stmt := top 19
abbrev s_law_is_words : Stmt := top 20
abbrev s_law_refused : Stmt := top 21
abbrev s_law : Stmt := top 22
/-! small rules of one's own -/
section
variable {X : Cx}
theorem pe_const {x : Str} {v : V} {pos : Pos} (h : ∃ u, X.mg x = some u ∧ RelV v u) (hg : Gl X x := by rfl) (hd : (x == ("__debug__" : Str)) = false := by decide) : PE X (.Name x pos) (tC v) := by
  obtain ⟨u, h1, h2⟩ := h
  exact pe_glob hg h1 h2 hd
/-- isinstance of a caught error, whatever class the clause has caught -/
theorem call_isE' {a : Addr} {cls : Value} {d : Option Addr} {oe : Obj} {pn : List (Addr × Obj)} (hz : Zc cls d oe) (hf : ∃ vs, oe.data = .fields vs) :
    CallR (X.suite a ((a, oe) :: pn)) (.builtin "isinstance") (fun xs H Q => ∃ D, cls = .ref D ∧ d = none ∧ ExcC X.K D ∧ rIsE X.K D a xs H Q) := by
  intro pins s σ H xs us Q I r h
  obtain ⟨D, rfl, rfl, C, h⟩ := h
  exact call_isE C hz hf pins s σ H xs us Q I r h
end
/-- all but p is as it was, what is free too -/
def Only (p : Addr) (H H' : Hp) : Prop := ∀ b, b ≠ p → H' b = H b
theorem Only.upd {p : Addr} {H : Hp} {o : HO} : Only p H (upd H p o) := fun _ h => upd_ne h
theorem Only.refl {p : Addr} {H : Hp} : Only p H H := fun _ _ => rfl
theorem Only.trans {p : Addr} {H H1 H2 : Hp} (x : Only p H H1) (y : Only p H1 H2) : Only p H H2 := fun b h => (y b h).trans (x b h)
/-! which class is asked of a caught error -/
theorem kit_self {K : PySem.W.Frag} {c : Value} : PySem.W.kitOne K c c = some true := by
  unfold PySem.W.kitOne
  rw [if_pos (by simp)]
theorem kit_type {K : PySem.W.Frag} {D : Addr} {n : String} {b : Bool} (m : PySem.W.kitMeta n = true) (h : PySem.W.subIn K (.ref D) (.type n) = some b) : PySem.W.kitOne K (.ref D) (.type n) = some b := by
  unfold PySem.W.kitOne
  rw [if_neg (by intro z; cases (beq_iff_eq.mp z))]
  show (if PySem.W.kitMeta n = true then PySem.W.subIn K (.ref D) (.type n) else none) = some b
  rw [if_pos m]
  exact h
theorem kit_cls_of {K : PySem.W.Frag} {C : Addr} {t : Value} {b : Bool} (hd : PySem.W.hasDictIn K C = true) (ht : PySem.W.typeIn K (.ref C) = some (.type "type")) (h : PySem.W.subIn K t (.ref C) = some b) : PySem.W.kitCls K t (.ref C) = some b := by
  obtain ⟨cd, hc, _⟩ := PySem.W.any_some hd
  show (if ((PySem.W.clsIn K C).isSome && PySem.W.typeIn K (.ref C) == some (.type "type")) = true then PySem.W.subIn K t (.ref C) else none) = some b
  rw [if_pos (by rw [hc, ht]; rfl)]
  exact h
theorem kit_yes {K : PySem.W.Frag} {C D : Addr} (hd : PySem.W.hasDictIn K C = true) (ht : PySem.W.typeIn K (.ref C) = some (.type "type")) (h : PySem.W.subIn K (.ref D) (.ref C) = some true) : PySem.W.kitOne K (.ref D) (.ref C) = some true := by
  unfold PySem.W.kitOne
  split
  · rfl
  · exact kit_cls_of hd ht h
theorem kit_no {K : PySem.W.Frag} {C D : Addr} (hd : PySem.W.hasDictIn K C = true) (ht : PySem.W.typeIn K (.ref C) = some (.type "type")) (h : PySem.W.subIn K (.ref D) (.ref C) = some false) (hs : PySem.W.subIn K (.ref D) (.ref D) = some true) : PySem.W.kitOne K (.ref D) (.ref C) = some false := by
  unfold PySem.W.kitOne
  split
  · rename_i z
    have e : D = C := by
      have := beq_iff_eq.mp z
      injection this
    rw [← e] at h
    rw [h] at hs
    cases hs
  · exact kit_cls_of hd ht h
/-- len of a list or tuple; list of one -/
abbrev rLenS (K : PySem.W.Frag) := Evl.rLenS K
abbrev rListOf (K : PySem.W.Frag) := Evl.rListS K
/-! the prime, the inverse -/
theorem no_div (d : Nat) (h1 : 2 ≤ d) (h2 : d ≤ 255) : ¬ d ∣ 65521 := by
  intro h
  have e : 65521 % d = 0 := Nat.mod_eq_zero_of_dvd h
  have key : ∀ d : Fin 256, 2 ≤ d.val → ¬ 65521 % d.val = 0 := by decide +kernel
  exact key ⟨d, by omega⟩ h1 e
theorem prime_q (d : Nat) (h : d ∣ 65521) : d = 1 ∨ d = 65521 := by
  obtain ⟨e, he⟩ := h
  by_cases a : d ≤ 255
  · by_cases b : 2 ≤ d
    · exact absurd ⟨e, he⟩ (no_div d b a)
    · have : d ≠ 0 := by rintro rfl; omega
      omega
  · by_cases b : 2 ≤ e
    · by_cases c : e ≤ 255
      · exact absurd ⟨d, by rw [Nat.mul_comm]; exact he⟩ (no_div e b c)
      · have h1 : 256 * 256 ≤ d * e := Nat.mul_le_mul (by omega) (by omega)
        omega
    · have : e ≠ 0 := by rintro rfl; omega
      have e1 : e = 1 := by omega
      subst e1
      omega
theorem gcd_q (x : Int) (h : x % 65521 ≠ 0) : Int.gcd 65521 (x % 65521) = 1 := by
  have d1 : (Int.gcd 65521 (x % 65521) : Nat) ∣ 65521 := by
    have := Int.gcd_dvd_left (65521 : Int) (x % 65521)
    have h2 : ((Int.gcd 65521 (x % 65521) : Nat) : Int) ∣ ((65521 : Nat) : Int) := this
    exact Int.natCast_dvd_natCast.mp h2
  rcases prime_q _ d1 with e | e
  · exact e
  · exfalso
    have d2 := Int.gcd_dvd_right (65521 : Int) (x % 65521)
    rw [e] at d2
    obtain ⟨c, hc⟩ := d2
    have e2 : ((65521 : Nat) : Int) = 65521 := rfl
    rw [e2] at hc
    have p1 := Int.emod_nonneg x (show (65521 : Int) ≠ 0 by decide)
    have p2 := Int.emod_lt_of_pos x (show (0 : Int) < 65521 by decide)
    omega
theorem gcd_turn {n m : Int} (h : Int.gcd n m = 1) : Int.gcd m (n - n / m * m) = 1 := by
  rw [Int.gcd_sub_mul_right_right, Int.gcd_comm]
  exact h
/-- the inverse of a word, by what it is -/
noncomputable def invP (x : Int) : Int := open Classical in if h : ∃ b : Int, 0 ≤ b ∧ b < 65521 ∧ x * b % 65521 = 1 then h.choose else 0
theorem inv_unique {x b c : Int} (hb : 0 ≤ b ∧ b < 65521 ∧ x * b % 65521 = 1) (hc : 0 ≤ c ∧ c < 65521 ∧ x * c % 65521 = 1) : b = c := by
  have e1 : b * (x * c) % 65521 = b := by
    rw [Int.mul_emod, hc.2.2, Int.mul_one, Int.emod_emod_of_dvd _ (Int.dvd_refl _), Int.emod_eq_of_lt hb.1 hb.2.1]
  have e2 : c * (x * b) % 65521 = c := by
    rw [Int.mul_emod, hb.2.2, Int.mul_one, Int.emod_emod_of_dvd _ (Int.dvd_refl _), Int.emod_eq_of_lt hc.1 hc.2.1]
  have e3 : b * (x * c) = c * (x * b) := by grind
  rw [← e1, e3, e2]
theorem invP_eq {x b : Int} (h : 0 ≤ b ∧ b < 65521 ∧ x * b % 65521 = 1) : invP x = b := by
  have hx : ∃ b : Int, 0 ≤ b ∧ b < 65521 ∧ x * b % 65521 = 1 := ⟨b, h⟩
  unfold invP
  rw [dif_pos hx]
  exact inv_unique hx.choose_spec h
/-- one turn of Euclid's algorithm -/
theorem euclid_turn {x n m f g : Int} (h1 : (x * f - n) % 65521 = 0) (h2 : (x * g - m) % 65521 = 0) : (x * (f - n / m * g) - (n - n / m * m)) % 65521 = 0 := by
  have e : x * (f - n / m * g) - (n - n / m * m) = (x * f - n) - n / m * (x * g - m) := by grind
  rw [e, Int.sub_emod, h1, Int.mul_emod, h2, Int.mul_zero]
  rfl
theorem euclid_end {x f : Int} (h : (x * f - 1) % 65521 = 0) : 0 ≤ f % 65521 ∧ f % 65521 < 65521 ∧ x * (f % 65521) % 65521 = 1 := by
  refine ⟨Int.emod_nonneg _ (by decide), Int.emod_lt_of_pos _ (by decide), ?_⟩
  have e : x * (f % 65521) % 65521 = x * f % 65521 := by rw [Int.mul_emod, Int.emod_emod_of_dvd _ (Int.dvd_refl _), ← Int.mul_emod]
  rw [e]
  omega
/-- the inverse exists (Euclid, run in the mathematics) -/
theorem inv_ex : ∀ (k : Nat) (x n m f g : Int), m.toNat ≤ k → 0 ≤ m → 0 < n → (x * f - n) % 65521 = 0 → (x * g - m) % 65521 = 0 → Int.gcd n m = 1 → ∃ b : Int, 0 ≤ b ∧ b < 65521 ∧ x * b % 65521 = 1
  | k, x, n, m, f, g, hk, hm, hn, h1, h2, hg => by
    by_cases e : m = 0
    · subst e
      have : n = 1 := by
        rw [Int.gcd_zero_right] at hg
        omega
      subst this
      exact ⟨_, euclid_end h1⟩
    · have hm' : 0 < m := by omega
      match k, hk with
      | 0, hk => omega
      | k + 1, hk =>
        have r : n - n / m * m = n % m := by
          have := Int.mul_ediv_add_emod n m
          rw [Int.mul_comm] at this
          omega
        have r1 := Int.emod_nonneg n (show m ≠ 0 by omega)
        have r2 := Int.emod_lt_of_pos n hm'
        exact inv_ex k x m (n - n / m * m) g (f - n / m * g) (by omega) (by omega) hm' h2 (euclid_turn h1 h2) (gcd_turn hg)
theorem invP_spec {x : Int} (h : x % 65521 ≠ 0) : 0 ≤ invP x ∧ invP x < 65521 ∧ x * invP x % 65521 = 1 := by
  have p1 := Int.emod_nonneg x (show (65521 : Int) ≠ 0 by decide)
  obtain ⟨b, hb⟩ := inv_ex (x % 65521).toNat x 65521 (x % 65521) 0 1 (Nat.le_refl _) p1 (by decide) (by omega) (by omega) (gcd_q x h)
  rw [invP_eq hb]
  exact hb
/-! the field of words -/
def Zp : Type := Fin 65521
instance : Lean.Grind.CommRing Zp := inferInstanceAs (Lean.Grind.CommRing (Fin 65521))
instance : Lean.Grind.IsCharP Zp 65521 := inferInstanceAs (Lean.Grind.IsCharP (Fin 65521) 65521)
instance : DecidableEq Zp := inferInstanceAs (DecidableEq (Fin 65521))
def z (n : Int) : Zp := Lean.Grind.Ring.intCast.intCast n
theorem z_eq {a b : Int} : z a = z b ↔ a % 65521 = b % 65521 := Lean.Grind.IsCharP.intCast_ext_iff (α := Zp) 65521
theorem z_mod (a : Int) : z (a % 65521) = z a := z_eq.mpr (Int.emod_emod_of_dvd _ (Int.dvd_refl _))
theorem z_add (a b : Int) : z (a + b) = z a + z b := Lean.Grind.Ring.intCast_add a b
theorem z_sub (a b : Int) : z (a - b) = z a - z b := Lean.Grind.Ring.intCast_sub a b
theorem z_mul (a b : Int) : z (a * b) = z a * z b := Lean.Grind.Ring.intCast_mul a b
theorem z_neg (a : Int) : z (-a) = -z a := Lean.Grind.Ring.intCast_neg a
theorem z_zero : z 0 = 0 := Lean.Grind.Ring.intCast_zero
theorem z_one : z 1 = 1 := Lean.Grind.Ring.intCast_one
theorem z_z (a : Int) : z a = 0 ↔ a % 65521 = 0 := by
  rw [← z_zero, z_eq]
  rfl
theorem z_inj {a b : Int} (ha : 0 ≤ a) (ha' : a < 65521) (hb : 0 ≤ b) (hb' : b < 65521) (h : z a = z b) : a = b := by
  have := z_eq.mp h
  rw [Int.emod_eq_of_lt ha ha', Int.emod_eq_of_lt hb hb'] at this
  exact this
theorem z_mod_eq {a b : Int} (h : z a = z b) : a % 65521 = b % 65521 := z_eq.mp h
theorem z_surj (x : Zp) : ∃ n : Int, 0 ≤ n ∧ n < 65521 ∧ z n = x := by
  refine ⟨((show Fin 65521 from x).val : Int), by omega, by omega, ?_⟩
  show (Fin.intCast ((show Fin 65521 from x).val : Int) : Fin 65521) = x
  unfold Fin.intCast
  rw [if_pos (by omega), Int.natAbs_natCast]
  exact Fin.ofNat_val_eq_self _
theorem z_invP {n : Int} (h : z n ≠ 0) : z n * z (invP n) = 1 := by
  have h' : n % 65521 ≠ 0 := fun e => h ((z_z n).mpr e)
  obtain ⟨b0, b1, b2⟩ := invP_spec h'
  rw [← z_mul, ← z_one, z_eq]
  exact b2
theorem zp_inv {a : Zp} (h : a ≠ 0) : ∃ b : Zp, a * b = 1 := by
  obtain ⟨n, _, _, rfl⟩ := z_surj a
  exact ⟨_, z_invP h⟩
theorem zp_div {a b : Zp} (h : a * b = 0) : a = 0 ∨ b = 0 := by
  by_cases ha : a = 0
  · exact .inl ha
  · obtain ⟨c, hc⟩ := zp_inv ha
    right
    have : b = c * (a * b) := by grind
    rw [this, h]
    grind
theorem zp_01 : (1 : Zp) ≠ 0 := by
  rw [← z_one, ← z_zero]
  intro h
  have := z_eq.mp h
  omega
theorem zp_mul_ne {a b : Zp} (ha : a ≠ 0) (hb : b ≠ 0) : a * b ≠ 0 := fun h => (zp_div h).elim ha hb
/-! ### functions that are polynomials with n coefficients -/
def Pol : Nat → (Zp → Zp) → Prop
  | 0, f => ∀ x, f x = 0
  | n + 1, f => ∃ (c : Zp) (g : Zp → Zp), Pol n g ∧ ∀ x, f x = c + x * g x
theorem Pol.ext : ∀ {n : Nat} {f g : Zp → Zp}, Pol n f → (∀ x, g x = f x) → Pol n g
  | 0, _, _, h, e => fun x => (e x).trans (h x)
  | _ + 1, _, _, ⟨c, g, h, q⟩, e => ⟨c, g, h, fun x => (e x).trans (q x)⟩
theorem pol_nil : ∀ n : Nat, Pol n fun _ => 0
  | 0 => fun _ => rfl
  | n + 1 => ⟨0, fun _ => 0, pol_nil n, fun x => by grind⟩
theorem Pol.up : ∀ {n : Nat} {f : Zp → Zp}, Pol n f → Pol (n + 1) f
  | 0, f, h => ⟨0, fun _ => 0, fun _ => rfl, fun x => by rw [h x]; grind⟩
  | n + 1, _, ⟨c, g, h, q⟩ => ⟨c, g, h.up, q⟩
theorem Pol.mono {n m : Nat} {f : Zp → Zp} (h : Pol n f) (l : n ≤ m) : Pol m f := by
  induction l with
  | refl => exact h
  | step _ ih => exact ih.up
theorem Pol.add : ∀ {n : Nat} {f g : Zp → Zp}, Pol n f → Pol n g → Pol n fun x => f x + g x
  | 0, f, g, h, k => fun x => by show f x + g x = 0; rw [h x, k x]; grind
  | n + 1, f, g, ⟨c, u, h, p⟩, ⟨d, v, k, q⟩ => ⟨c + d, fun x => u x + v x, Pol.add h k, fun x => by show f x + g x = _; rw [p x, q x]; grind⟩
theorem Pol.smul : ∀ {n : Nat} {f : Zp → Zp} (a : Zp), Pol n f → Pol n fun x => f x * a
  | 0, f, a, h => fun x => by show f x * a = 0; rw [h x]; grind
  | n + 1, f, a, ⟨c, u, h, p⟩ => ⟨c * a, fun x => u x * a, Pol.smul a h, fun x => by show f x * a = _; rw [p x]; grind⟩
theorem Pol.const (c : Zp) : Pol 1 fun _ => c := ⟨c, fun _ => 0, fun _ => rfl, fun x => by grind⟩
theorem Pol.xmul {n : Nat} {f : Zp → Zp} (h : Pol n f) : Pol (n + 1) fun x => x * f x := ⟨0, f, h, fun x => by grind⟩
theorem Pol.lin {n : Nat} {f : Zp → Zp} (a : Zp) (h : Pol n f) : Pol (n + 1) fun x => (x - a) * f x :=
  (h.xmul.add (h.up.smul (-a))).ext fun x => by grind
theorem Pol.sub {n : Nat} {f g : Zp → Zp} (h : Pol n f) (k : Pol n g) : Pol n fun x => f x - g x :=
  (h.add (k.smul (-1))).ext fun x => by grind
/-- a polynomial less its value at a is a multiple of x - a -/
theorem Pol.at : ∀ {n : Nat} {f : Zp → Zp} (a : Zp), Pol (n + 1) f → ∃ g, Pol n g ∧ ∀ x, f x = f a + (x - a) * g x
  | 0, f, a, ⟨c, g, h, q⟩ => ⟨fun _ => 0, fun _ => rfl, fun x => by rw [q x, q a, h x, h a]; grind⟩
  | n + 1, f, a, ⟨c, g, h, q⟩ => by
    obtain ⟨k, hk, e⟩ := Pol.at a h
    refine ⟨fun x => g a + x * k x, ⟨g a, k, hk, fun _ => rfl⟩, fun x => ?_⟩
    have e1 := e x
    rw [q x, q a]
    grind
/-- as many zeros as coefficients: it is zero -/
theorem Pol.roots : ∀ {n : Nat} {f : Zp → Zp} (xs : List Zp), Pol n f → xs.Nodup → n ≤ xs.length → (∀ a ∈ xs, f a = 0) → ∀ x, f x = 0
  | 0, _, _, h, _, _, _ => h
  | n + 1, f, [], _, _, hl, _ => absurd hl (by simp)
  | n + 1, f, a :: r, h, hn, hl, hz => by
    obtain ⟨g, hg, e⟩ := Pol.at a h
    have ha : f a = 0 := hz a (by simp)
    have hn' := List.nodup_cons.mp hn
    have g0 : ∀ x, g x = 0 := Pol.roots r hg hn'.2 (by simpa using hl) fun b hb => by
      have hb0 := hz b (List.mem_cons_of_mem _ hb)
      rw [e b, ha] at hb0
      have : (b - a) * g b = 0 := by grind
      rcases zp_div this with q | q
      · exfalso
        have : b = a := by grind
        exact hn'.1 (this ▸ hb)
      · exact q
    intro x
    rw [e x, ha, g0 x]
    grind
/-! ### products of differences -/
def prodZ : List Int → Zp → Zp
  | [], _ => 1
  | o :: os, x => (x - z o) * prodZ os x
theorem prodZ_pol : ∀ os : List Int, Pol (os.length + 1) (prodZ os)
  | [] => (Pol.const 1).ext fun _ => rfl
  | o :: os => (Pol.lin (z o) (prodZ_pol os)).ext fun _ => rfl
theorem prodZ_root {o : Int} {x : Zp} : ∀ {os : List Int}, o ∈ os → x = z o → prodZ os x = 0
  | [], h, _ => by simp at h
  | p :: os, h, e => by
    show (x - z p) * prodZ os x = 0
    rcases List.mem_cons.mp h with q | q
    · rw [e, q]
      grind
    · rw [prodZ_root q e]
      grind
theorem prodZ_ne {x : Zp} : ∀ {os : List Int}, (∀ o ∈ os, x ≠ z o) → prodZ os x ≠ 0
  | [], _ => zp_01
  | p :: os, h => by
    refine zp_mul_ne (fun e => h p (by simp) ?_) (prodZ_ne fun o ho => h o (List.mem_cons_of_mem _ ho))
    grind
/-- as the program multiplies -/
def prodM (os : List Int) (x acc : Int) : Int := os.foldl (fun acc o => acc * (x - o) % 65521) acc
theorem prodM_z : ∀ (os : List Int) (x acc : Int), z (prodM os x acc) = z acc * prodZ os (z x)
  | [], x, acc => by
    show z acc = z acc * 1
    grind
  | o :: os, x, acc => by
    show z (prodM os x (acc * (x - o) % 65521)) = z acc * ((z x - z o) * prodZ os (z x))
    rw [prodM_z os x, z_mod, z_mul, z_sub]
    grind
theorem prodM_word : ∀ (os : List Int) (x acc : Int), 0 ≤ acc → acc < 65521 → 0 ≤ prodM os x acc ∧ prodM os x acc < 65521
  | [], _, _, h0, h1 => ⟨h0, h1⟩
  | o :: os, x, acc, _, _ => prodM_word os x _ (Int.emod_nonneg _ (by decide)) (Int.emod_lt_of_pos _ (by decide))
theorem prodM_snoc (os : List Int) (o x acc : Int) : prodM (os ++ [o]) x acc = prodM os x acc * (x - o) % 65521 := by
  unfold prodM
  rw [List.foldl_append]
  rfl
/-- a place's factor -/
noncomputable def wgt (p : Int) (os : List Int) (x : Int) : Int := prodM os x 1 * invP (prodM os p 1) % 65521
theorem wgt_word (p : Int) (os : List Int) (x : Int) : 0 ≤ wgt p os x ∧ wgt p os x < 65521 := ⟨Int.emod_nonneg _ (by decide), Int.emod_lt_of_pos _ (by decide)⟩
theorem wgt_z (p : Int) (os : List Int) (x : Int) : z (wgt p os x) = prodZ os (z x) * z (invP (prodM os p 1)) := by
  unfold wgt
  rw [z_mod, z_mul, prodM_z, z_one]
  grind
theorem wgt_ok {p : Int} {os : List Int} (h : ∀ o ∈ os, z p ≠ z o) : prodM os p 1 % 65521 ≠ 0 := fun e => by
  have := (z_z _).mpr e
  rw [prodM_z, z_one] at this
  refine prodZ_ne h ?_
  grind
/-- all places but the i-th -/
def others (ws : List Int) (i : Nat) : List Int := ws.take i ++ ws.drop (i + 1)
noncomputable def weightsM (ws : List Int) (x : Int) : List Int := (List.range ws.length).map fun i => wgt (ws.getD i 0) (others ws i) x
theorem weightsM_length (ws : List Int) (x : Int) : (weightsM ws x).length = ws.length := by simp [weightsM]
theorem weightsM_get {ws : List Int} {x : Int} {i : Nat} (h : i < ws.length) : (weightsM ws x)[i]? = some (wgt (ws.getD i 0) (others ws i) x) := by
  unfold weightsM
  rw [List.getElem?_map, List.getElem?_range h]
  rfl
/-- no two places are equal modulo the prime -/
def Apart (ws : List Int) : Prop := (ws.map z).Nodup
theorem apart_ne {ws : List Int} (h : Apart ws) {i j : Nat} (hi : i < ws.length) (hj : j < ws.length) (n : i ≠ j) : z (ws.getD i 0) ≠ z (ws.getD j 0) := fun e => by
  refine n ((List.getElem_inj (xs := ws.map z) (h₀ := by simpa using hi) (h₁ := by simpa using hj) h).mp ?_)
  rw [List.getElem_map, List.getElem_map]
  simpa [List.getD_eq_getElem?_getD, hi, hj] using e
theorem mem_others {ws : List Int} {i : Nat} {o : Int} : o ∈ others ws i ↔ ∃ j, j < ws.length ∧ j ≠ i ∧ o = ws.getD j 0 := by
  unfold others
  rw [List.mem_append, List.mem_iff_getElem?, List.mem_iff_getElem?]
  constructor
  · rintro (⟨j, h⟩ | ⟨j, h⟩)
    · rw [List.getElem?_take] at h
      by_cases c : j < i
      · rw [if_pos c] at h
        obtain ⟨hl, e⟩ := List.getElem?_eq_some_iff.mp h
        exact ⟨j, hl, by omega, by simp [List.getD_eq_getElem?_getD, hl, e]⟩
      · rw [if_neg c] at h
        cases h
    · rw [List.getElem?_drop] at h
      obtain ⟨hl, e⟩ := List.getElem?_eq_some_iff.mp h
      exact ⟨_, hl, by omega, by simp [List.getD_eq_getElem?_getD, hl, e]⟩
  · rintro ⟨j, hl, n, rfl⟩
    by_cases c : j < i
    · exact .inl ⟨j, by rw [List.getElem?_take, if_pos c, List.getElem?_eq_getElem hl]; simp [List.getD_eq_getElem?_getD, hl]⟩
    · refine .inr ⟨j - (i + 1), ?_⟩
      rw [List.getElem?_drop, show i + 1 + (j - (i + 1)) = j by omega, List.getElem?_eq_getElem hl]
      simp [List.getD_eq_getElem?_getD, hl]
theorem others_length {ws : List Int} {i : Nat} (h : i < ws.length) : (others ws i).length + 1 = ws.length := by
  unfold others
  rw [List.length_append, List.length_take, List.length_drop]
  omega
theorem others_apart {ws : List Int} (h : Apart ws) {i : Nat} (hi : i < ws.length) : ∀ o ∈ others ws i, z (ws.getD i 0) ≠ z o := fun o ho => by
  obtain ⟨j, hl, n, rfl⟩ := mem_others.mp ho
  exact apart_ne h hi hl (Ne.symm n)
/-! ### sums -/
def sumR : Nat → (Nat → Zp) → Zp
  | 0, _ => 0
  | n + 1, g => sumR n g + g n
theorem sumR_ext : ∀ {n : Nat} {f g : Nat → Zp}, (∀ i, i < n → f i = g i) → sumR n f = sumR n g
  | 0, _, _, _ => rfl
  | n + 1, f, g, h => by
    show sumR n f + f n = sumR n g + g n
    rw [sumR_ext fun i hi => h i (by omega), h n (by omega)]
theorem sumR_zero : ∀ {n : Nat} {f : Nat → Zp}, (∀ i, i < n → f i = 0) → sumR n f = 0
  | 0, _, _ => rfl
  | n + 1, f, h => by
    show sumR n f + f n = 0
    rw [sumR_zero fun i hi => h i (by omega), h n (by omega)]
    grind
theorem sumR_one : ∀ {n : Nat} {f : Nat → Zp} {j : Nat}, j < n → (∀ i, i < n → i ≠ j → f i = 0) → sumR n f = f j
  | n + 1, f, j, hj, h => by
    show sumR n f + f n = f j
    by_cases c : j = n
    · subst c
      rw [sumR_zero fun i hi => h i (by omega) (by omega)]
      grind
    · rw [sumR_one (j := j) (by omega) fun i hi n' => h i (by omega) n', h n (by omega) (by omega)]
      grind
theorem sumR_pol {m : Nat} : ∀ {n : Nat} {F : Nat → Zp → Zp}, (∀ i, i < n → Pol m (F i)) → Pol m fun x => sumR n fun i => F i x
  | 0, _, _ => (pol_nil m).ext fun _ => rfl
  | n + 1, F, h => (Pol.add (sumR_pol (n := n) fun i hi => h i (by omega)) (h n (by omega))).ext fun _ => rfl
/-- the sum of factors times values -/
def dotR (us vs : List Int) : Int := ((List.range us.length).map fun i => us.getD i 0 * vs.getD i 0).sum
theorem sum_range_z : ∀ (n : Nat) (f : Nat → Int), z ((List.range n).map f).sum = sumR n fun i => z (f i)
  | 0, _ => z_zero
  | n + 1, f => by
    rw [List.range_succ, List.map_append, List.sum_append, z_add, sum_range_z n f]
    show _ + z ((f n) + 0) = _
    rw [Int.add_zero]
    rfl
theorem dotR_z (us vs : List Int) : z (dotR us vs) = sumR us.length fun i => z (us.getD i 0) * z (vs.getD i 0) := by
  unfold dotR
  rw [sum_range_z]
  exact sumR_ext fun i _ => z_mul _ _
/-- the value at x, as the program reckons it -/
noncomputable def valM (ws ys : List Int) (x : Int) : Int := dotR (weightsM ws x) ys % 65521
theorem valM_word (ws ys : List Int) (x : Int) : 0 ≤ valM ws ys x ∧ valM ws ys x < 65521 := ⟨Int.emod_nonneg _ (by decide), Int.emod_lt_of_pos _ (by decide)⟩
theorem valM_z (ws ys : List Int) (x : Int) : z (valM ws ys x) = sumR ws.length fun i => prodZ (others ws i) (z x) * (z (invP (prodM (others ws i) (ws.getD i 0) 1)) * z (ys.getD i 0)) := by
  unfold valM
  rw [z_mod, dotR_z, weightsM_length]
  refine sumR_ext fun i hi => ?_
  have e : (weightsM ws x).getD i 0 = wgt (ws.getD i 0) (others ws i) x := by rw [List.getD_eq_getElem?_getD, weightsM_get hi]; rfl
  rw [e, wgt_z]
  grind
/-- at a place it is the point's own value -/
theorem valM_node {ws ys : List Int} (h : Apart ws) {x : Int} {j : Nat} (hj : j < ws.length) (e : z x = z (ws.getD j 0)) : z (valM ws ys x) = z (ys.getD j 0) := by
  rw [valM_z, sumR_one hj fun i hi n => ?_]
  · have p := others_apart h hj
    have q := wgt_ok p
    have r : z (prodM (others ws j) (ws.getD j 0) 1) * z (invP (prodM (others ws j) (ws.getD j 0) 1)) = 1 := z_invP fun e => q ((z_z _).mp e)
    rw [prodM_z, z_one] at r
    rw [e]
    grind
  · rw [prodZ_root (mem_others.mpr ⟨j, hj, Ne.symm n, rfl⟩) e]
    grind
/-- the values of a polynomial at the places give its value anywhere -/
theorem valM_pol {ws ys : List Int} (h : Apart ws) {f : Zp → Zp} (hf : Pol ws.length f) (hy : ∀ i, i < ws.length → z (ys.getD i 0) = f (z (ws.getD i 0))) (x : Int) : z (valM ws ys x) = f (z x) := by
  have P : Pol ws.length fun x => (sumR ws.length fun i => prodZ (others ws i) x * (z (invP (prodM (others ws i) (ws.getD i 0) 1)) * z (ys.getD i 0))) - f x := by
    refine Pol.sub (sumR_pol fun i hi => Pol.smul _ ?_) hf
    have := prodZ_pol (others ws i)
    rw [others_length hi] at this
    exact this
  have R := Pol.roots (ws.map z) P h (by simp) (fun a ha => ?_) (z x)
  · rw [valM_z]
    have R' : (sumR ws.length fun i => prodZ (others ws i) (z x) * (z (invP (prodM (others ws i) (ws.getD i 0) 1)) * z (ys.getD i 0))) - f (z x) = 0 := R
    grind
  · obtain ⟨p, hp, rfl⟩ := List.mem_map.mp ha
    obtain ⟨j, hj⟩ := List.mem_iff_getElem?.mp hp
    obtain ⟨hl, e⟩ := List.getElem?_eq_some_iff.mp hj
    have ep : ws.getD j 0 = p := by simp [List.getD_eq_getElem?_getD, hl, e]
    have v := valM_node (ys := ys) h (x := p) hl (by rw [ep])
    rw [valM_z, hy j hl, ep] at v
    show (sumR ws.length fun i => prodZ (others ws i) (z p) * (z (invP (prodM (others ws i) (ws.getD i 0) 1)) * z (ys.getD i 0))) - f (z p) = 0
    rw [v]
    grind
/-! a polynomial's value -/
def pev : List Int → Zp → Zp
  | [], _ => 0
  | c :: r, x => z c + x * pev r x
theorem pev_pol : ∀ ns : List Int, Pol ns.length (pev ns)
  | [] => fun _ => rfl
  | c :: r => ⟨z c, pev r, pev_pol r, fun _ => rfl⟩
/-- as it is reckoned: from the highest coefficient down -/
def horn : List Int → Int → Int
  | [], _ => 0
  | c :: r, x => (horn r x * x + c) % 65521
theorem horn_z : ∀ (ns : List Int) (x : Int), z (horn ns x) = pev ns (z x)
  | [], _ => z_zero
  | c :: r, x => by
    show z ((horn r x * x + c) % 65521) = z c + z x * pev r (z x)
    rw [z_mod, z_add, z_mul, horn_z r x]
    grind
theorem horn_word : ∀ (ns : List Int) (x : Int), 0 ≤ horn ns x ∧ horn ns x < 65521
  | [], _ => by show (0 : Int) ≤ 0 ∧ (0 : Int) < 65521; omega
  | _ :: _, _ => ⟨Int.emod_nonneg _ (by decide), Int.emod_lt_of_pos _ (by decide)⟩
theorem horn_drop {ns : List Int} {x c : Int} {i : Nat} (h : ns[i]? = some c) : horn (ns.drop i) x = (horn (ns.drop (i + 1)) x * x + c) % 65521 := by
  obtain ⟨hl, e⟩ := List.getElem?_eq_some_iff.mp h
  rw [List.drop_eq_getElem_cons hl, e]
  rfl
/-! polynomials by their values: degree, normal forms -/
def Wd (w : Int) : Prop := 0 ≤ w ∧ w < 65521
/-- a list of words whose last one is not 0 -/
def Norm (r : List Int) : Prop := (∀ w ∈ r, Wd w) ∧ (r = [] ∨ r.getD (r.length - 1) 0 ≠ 0)
def pw (x : Zp) : Nat → Zp
  | 0 => 1
  | n + 1 => x * pw x n
theorem pev_append : ∀ (a b : List Int) (x : Zp), pev (a ++ b) x = pev a x + pw x a.length * pev b x
  | [], b, x => by
    show pev b x = 0 + 1 * pev b x
    grind
  | c :: a, b, x => by
    show z c + x * pev (a ++ b) x = (z c + x * pev a x) + (x * pw x a.length) * pev b x
    rw [pev_append a b x]
    grind
theorem pev_zeros : ∀ {a : List Int}, (∀ w ∈ a, z w = 0) → ∀ x, pev a x = 0
  | [], _, _ => rfl
  | c :: a, h, x => by
    show z c + x * pev a x = 0
    rw [h c (by simp), pev_zeros (fun w m => h w (List.mem_cons_of_mem _ m))]
    grind
theorem pev_mod : ∀ (a : List Int) (x : Zp), pev (a.map (· % 65521)) x = pev a x
  | [], _ => rfl
  | c :: a, x => by
    show z (c % 65521) + x * pev (a.map (· % 65521)) x = z c + x * pev a x
    rw [z_mod, pev_mod a x]
/-- one place of the list gets another number -/
theorem pev_set : ∀ {a : List Int} {i : Nat} {c d : Int} (x : Zp), a[i]? = some c → pev (a.set i d) x = pev a x + pw x i * (z d - z c)
  | [], _, _, _, _, h => by simp at h
  | b :: a, 0, c, d, x, h => by
    have e : b = c := Option.some.inj h
    subst e
    show z d + x * pev a x = (z b + x * pev a x) + 1 * (z d - z b)
    grind
  | b :: a, i + 1, c, d, x, h => by
    show z b + x * pev (a.set i d) x = (z b + x * pev a x) + (x * pw x i) * (z d - z c)
    rw [pev_set (i := i) (c := c) x h]
    grind
theorem pw_add (x : Zp) : ∀ n m : Nat, pw x (n + m) = pw x n * pw x m
  | 0, m => by
    rw [Nat.zero_add]
    show pw x m = 1 * pw x m
    grind
  | n + 1, m => by
    rw [Nat.succ_add]
    show x * pw x (n + m) = (x * pw x n) * pw x m
    rw [pw_add x n m]
    grind
theorem pev_snoc (a : List Int) (c : Int) (x : Zp) : pev (a ++ [c]) x = pev a x + pw x a.length * z c := by
  rw [pev_append]
  show _ + _ * (z c + x * 0) = _
  grind
/-! all words as places -/
def allZ (n : Nat) : List Zp := (List.range n).map fun (k : Nat) => z ((k : Int) + 1)
theorem allZ_nodup {n : Nat} (h : n ≤ 65520) : (allZ n).Nodup := by
  unfold allZ List.Nodup
  rw [List.pairwise_map]
  refine (List.nodup_range (n := n)).imp_of_mem fun {a b} ha hb ne e => ?_
  have h1 := List.mem_range.mp ha
  have h2 := List.mem_range.mp hb
  have := z_eq.mp e
  omega
theorem allZ_ne {n : Nat} (h : n ≤ 65520) : ∀ a ∈ allZ n, a ≠ 0 := fun a ha e => by
  obtain ⟨k, hk, rfl⟩ := List.mem_map.mp ha
  have h1 := List.mem_range.mp hk
  have := (z_z _).mp e
  omega
/-- zero but perhaps at 0: zero -/
theorem Pol.punct {n : Nat} {f : Zp → Zp} (h : Pol n f) (hn : n ≤ 65520) (hz : ∀ x, x ≠ 0 → f x = 0) : ∀ x, f x = 0 :=
  Pol.roots (allZ n) h (allZ_nodup hn) (by simp [allZ]) fun a ha => hz a (allZ_ne hn a ha)
theorem Pol.pw : ∀ (n : Nat) (c : Zp), Pol (n + 1) fun x => c * PP.pw x n
  | 0, c => (Pol.const c).ext fun x => by show c * 1 = c; grind
  | n + 1, c => ((Pol.pw n c).xmul).ext fun x => by show c * (x * PP.pw x n) = x * (c * PP.pw x n); grind
/-- a power beyond the coefficients has the factor 0 -/
theorem lead_zero : ∀ (n : Nat) {c : Zp} {h : Zp → Zp}, n ≤ 60000 → Pol n h → (∀ x, c * pw x n = h x) → c = 0
  | 0, c, h, _, hp, e => by
    have := e 0
    rw [hp 0] at this
    have : c * 1 = 0 := this
    grind
  | n + 1, c, h, hn, ⟨d, g, hg, q⟩, e => by
    have e0 : d = 0 := by
      have h0 := e 0
      rw [q 0] at h0
      have : c * (0 * pw 0 n) = d + 0 * g 0 := h0
      grind
    have F : ∀ x, c * pw x n - g x = 0 := Pol.punct (n := n + 1) (Pol.sub (Pol.pw n c) hg.up) (by omega) fun x hx => by
      have h1 := e x
      rw [q x, e0] at h1
      have h2 : c * (x * pw x n) = 0 + x * g x := h1
      have h3 : x * (c * pw x n - g x) = 0 := by grind
      exact (zp_div h3).resolve_left hx
    exact lead_zero n (by omega) hg fun x => by
      have := F x
      grind
/-- a normal list has no more words than its values need -/
theorem norm_le {r : List Int} {n : Nat} (h : Norm r) (hn : n ≤ 60000) (hp : Pol n (pev r)) (hr : r.length ≤ 60000) : r.length ≤ n := by
  refine Classical.byContradiction fun c => ?_
  obtain ⟨hw, hl⟩ := h
  have rne : r ≠ [] := fun e => by rw [e] at c; simp at c
  have hl := hl.resolve_left rne
  have e : r = r.take (r.length - 1) ++ [r.getD (r.length - 1) 0] := by
    have hlt : r.length - 1 < r.length := by
      have := List.length_pos_iff.mpr rne
      omega
    conv => lhs; rw [← List.take_append_drop (r.length - 1) r]
    rw [List.drop_eq_getElem_cons hlt, show r.length - 1 + 1 = r.length by omega, List.drop_length]
    simp [List.getD_eq_getElem?_getD, hlt]
  have P1 : Pol (r.length - 1) (pev (r.take (r.length - 1))) := (pev_pol _).mono (by rw [List.length_take]; omega)
  have P2 : Pol (r.length - 1) (pev r) := hp.mono (by omega)
  have z0 := lead_zero (r.length - 1) (c := z (r.getD (r.length - 1) 0)) (by omega) (Pol.sub P2 P1) fun x => by
    have := pev_snoc (r.take (r.length - 1)) (r.getD (r.length - 1) 0) x
    rw [← e, List.length_take, Nat.min_eq_left (by omega)] at this
    show _ = pev r x - pev (r.take (r.length - 1)) x
    grind
  have w := hw (r.getD (r.length - 1) 0) (by
    have hlt : r.length - 1 < r.length := by
      have := List.length_pos_iff.mpr rne
      omega
    rw [List.getD_eq_getElem?_getD, List.getElem?_eq_getElem hlt]
    exact List.getElem_mem hlt)
  have := (z_z _).mp z0
  obtain ⟨w0, w1⟩ := w
  omega
/-- the same values everywhere: the same words -/
theorem pev_inj : ∀ {a b : List Int}, a.length = b.length → a.length ≤ 60000 → (∀ w ∈ a, Wd w) → (∀ w ∈ b, Wd w) → (∀ x, pev a x = pev b x) → a = b
  | [], [], _, _, _, _, _ => rfl
  | [], _ :: _, h, _, _, _, _ => by simp at h
  | _ :: _, [], h, _, _, _, _ => by simp at h
  | c :: a, d :: b, hl, hz, ha, hb, e => by
    have e0 : z c = z d := by
      have : z c + 0 * pev a 0 = z d + 0 * pev b 0 := e 0
      grind
    have wc := ha c (by simp)
    have wd := hb d (by simp)
    have ecd : c = d := z_inj wc.1 wc.2 wd.1 wd.2 e0
    have hl' : a.length = b.length := by simpa using hl
    have hz' : a.length + 1 ≤ 60000 := by simpa using hz
    have F : ∀ x, pev a x - pev b x = 0 := Pol.punct (n := a.length) (Pol.sub (pev_pol a) ((pev_pol b).mono (by omega))) (by omega) fun x hx => by
      have h1 : z c + x * pev a x = z d + x * pev b x := e x
      have h3 : x * (pev a x - pev b x) = 0 := by grind
      exact (zp_div h3).resolve_left hx
    rw [ecd, pev_inj hl' (by omega) (fun w m => ha w (List.mem_cons_of_mem _ m)) (fun w m => hb w (List.mem_cons_of_mem _ m)) fun x => by have := F x; grind]
theorem norm_inj {a b : List Int} (ha : Norm a) (hb : Norm b) (la : a.length ≤ 60000) (lb : b.length ≤ 60000) (e : ∀ x, pev a x = pev b x) : a = b := by
  have h1 := norm_le ha lb ((pev_pol b).ext e) la
  have h2 := norm_le hb la ((pev_pol a).ext fun x => (e x).symm) lb
  exact pev_inj (by omega) la ha.1 hb.1 e
/-! products -/
theorem Pol.mul : ∀ {n m : Nat} {f g : Zp → Zp}, Pol n f → Pol m g → Pol (n + m) fun x => f x * g x
  | 0, m, f, g, h, _ => (pol_nil (0 + m)).ext fun x => by show f x * g x = 0; rw [h x]; grind
  | n + 1, m, f, g, ⟨c, u, h, q⟩, k => by
    have A := (Pol.mul h k).xmul
    have B := (k.smul c).mono (show m ≤ n + m + 1 by omega)
    rw [show n + 1 + m = n + m + 1 by omega]
    exact (B.add A).ext fun x => by show f x * g x = g x * c + x * (u x * g x); rw [q x]; grind
/-- the highest coefficient -/
theorem norm_lead {a : List Int} (h : Norm a) (ne : a ≠ []) : ∃ (c : Zp) (g : Zp → Zp), c ≠ 0 ∧ Pol (a.length - 1) g ∧ ∀ x, pev a x = g x + c * pw x (a.length - 1) := by
  have hlt : a.length - 1 < a.length := by
    have := List.length_pos_iff.mpr ne
    omega
  refine ⟨z (a.getD (a.length - 1) 0), pev (a.take (a.length - 1)), fun e => ?_, (pev_pol _).mono (by rw [List.length_take]; omega), fun x => ?_⟩
  · have w : Wd (a.getD (a.length - 1) 0) := h.1 _ (by rw [List.getD_eq_getElem?_getD, List.getElem?_eq_getElem hlt]; exact List.getElem_mem hlt)
    have := (z_z _).mp e
    have ne0 := h.2.resolve_left ne
    obtain ⟨w0, w1⟩ := w
    omega
  · have e : a = a.take (a.length - 1) ++ [a.getD (a.length - 1) 0] := by
      conv => lhs; rw [← List.take_append_drop (a.length - 1) a]
      rw [List.drop_eq_getElem_cons hlt, show a.length - 1 + 1 = a.length by omega, List.drop_length]
      simp [List.getD_eq_getElem?_getD, hlt]
    have := pev_snoc (a.take (a.length - 1)) (a.getD (a.length - 1) 0) x
    rw [← e, List.length_take, Nat.min_eq_left (by omega)] at this
    rw [this]
    grind
theorem norm_mul {a b r : List Int} (ha : Norm a) (hb : Norm b) (hr : Norm r) (na : a ≠ []) (nb : b ≠ []) (la : a.length ≤ 1000) (lb : b.length ≤ 1000) (lr : r.length ≤ 60000) (e : ∀ x, pev r x = pev a x * pev b x) : r.length = a.length + b.length - 1 := by
  obtain ⟨c, g, hc, hg, eg⟩ := norm_lead ha na
  obtain ⟨d, k, hd, hk, ek⟩ := norm_lead hb nb
  have pa := List.length_pos_iff.mpr na
  have pb := List.length_pos_iff.mpr nb
  -- what is below the highest power
  have low : Pol (a.length - 1 + (b.length - 1)) fun x => pev r x - (c * d) * pw x (a.length - 1 + (b.length - 1)) := by
    have A := (hg.mul ((Pol.pw (b.length - 1) d).add hk.up)).mono (show a.length - 1 + (b.length - 1 + 1) ≤ a.length - 1 + (b.length - 1) + 1 by omega)
    have B : ∀ n m : Nat, ∀ u : Zp → Zp, Pol m u → Pol (n + m) fun x => pw x n * u x := by
      intro n
      induction n with
      | zero => exact fun m u hu => by rw [Nat.zero_add]; exact hu.ext fun x => by show 1 * u x = u x; grind
      | succ n ih => exact fun m u hu => by rw [Nat.succ_add]; exact ((ih m u hu).xmul).ext fun x => by show (x * pw x n) * u x = x * (pw x n * u x); grind
    have C := (B (a.length - 1) (b.length - 1) k hk).smul c
    have D := (B (b.length - 1) (a.length - 1) g hg).smul d
    have G : Pol (a.length - 1 + (b.length - 1)) fun x => g x * k x := hg.mul hk
    rw [Nat.add_comm (b.length - 1)] at D
    refine ((C.add D).add G).ext fun x => ?_
    show pev r x - (c * d) * pw x (a.length - 1 + (b.length - 1)) = (pw x (a.length - 1) * k x * c + pw x (b.length - 1) * g x * d) + g x * k x
    rw [e x, eg x, ek x, pw_add]
    grind
  have up : Pol (a.length - 1 + (b.length - 1) + 1) (pev r) := (low.up.add (Pol.pw _ (c * d))).ext fun x => by
    show pev r x = (pev r x - (c * d) * pw x _) + (c * d) * pw x _
    grind
  have h1 := norm_le hr (by omega) up lr
  by_cases q : r.length ≤ a.length - 1 + (b.length - 1)
  · exfalso
    have P := (pev_pol r).mono q
    have := lead_zero (a.length - 1 + (b.length - 1)) (c := c * d) (by omega) (P.sub low) fun x => by
      show _ = pev r x - (pev r x - (c * d) * pw x _)
      grind
    exact zp_mul_ne hc hd this
  · omega
theorem norm_snoc {a : List Int} {c : Int} (h : ∀ w ∈ a, Wd w) (hc : Wd c) (n : c ≠ 0) : Norm (a ++ [c]) := by
  refine ⟨fun w m => ?_, .inr ?_⟩
  · rcases List.mem_append.mp m with m | m
    · exact h w m
    · have : w = c := by simpa using m
      rw [this]
      exact hc
  · rw [List.length_append, List.length_singleton, Nat.add_sub_cancel, List.getD_eq_getElem?_getD]
    simpa using n
theorem norm_nil : Norm [] := ⟨fun _ m => (nomatch m), .inl rfl⟩
theorem pev_smul (fa : Int) : ∀ (b : List Int) (x : Zp), pev (b.map fun c => fa * c) x = z fa * pev b x
  | [], x => by show (0 : Zp) = _ * 0; grind
  | c :: r, x => by
    show z (fa * c) + x * pev (r.map fun c => fa * c) x = z fa * (z c + x * pev r x)
    rw [pev_smul fa r x, z_mul]
    grind
/-! heaps, slices, points -/
theorem _root_.L2.Same.tup {K : PySem.W.Frag} {H H' : Hp} {a : Addr} {xs : List V} (e : Same H H') (h : SqT K H a xs) : SqT K H' a xs := by
  rcases h with (h | ⟨o, h⟩) | h
  · exact .inl (.inl (e _ _ h))
  · exact .inl (.inr ⟨o, e _ _ h⟩)
  · exact .inr h
theorem _root_.L2.Same.new {H : Hp} {p : Addr} {o : HO} (h : H p = none) : Same H (upd H p o) := fun _ _ e => by
  rw [upd_ne (ne_of_none e h)]
  exact e
/-- what was tracked is as it was, but for p -/
def But (p : Addr) (H H' : Hp) : Prop := ∀ b o, H b = some o → b ≠ p → H' b = some o
theorem Only.but {p : Addr} {H H' : Hp} (h : Only p H H') : But p H H' := fun b _ e n => (h b n).trans e
theorem _root_.L2.Same.but {p : Addr} {H H' : Hp} (h : Same H H') : But p H H' := fun b o e _ => h b o e
theorem But.trans {p : Addr} {H H1 H2 : Hp} (x : But p H H1) (y : But p H1 H2) : But p H H2 := fun b o e n => y b o (x b o e n) n
theorem But.same {p : Addr} {H0 H H' : Hp} (y : But p H H') (x : Same H0 H) (h : H0 p = none) : Same H0 H' := fun b o e => y b o (x b o e) (ne_of_none e h)
theorem But.new {p q : Addr} {H H' : Hp} {o : HO} (x : But p H H') (h : H' q = none) : But p H (upd H' q o) := x.trans (Same.new h).but
theorem _root_.L2.Same.at {H H' : Hp} {b : Addr} {o : HO} (s : Same H H') (e : H b = some o) : H' b = some o := s b o e
theorem cut_take (xs : List V) (i : Nat) : cutV xs none (some (i : Int)) = xs.take i := by
  unfold cutV
  rw [HT.sIx_none, HT.sIx_nat, List.drop_zero, Nat.sub_zero]
  by_cases h : i ≤ xs.length
  · rw [Nat.min_eq_left h]
  · rw [Nat.min_eq_right (by omega), List.take_of_length_le (by omega), List.take_of_length_le (by omega)]
theorem cut_drop (xs : List V) (i : Nat) : cutV xs (some (i : Int)) none = xs.drop i := by
  unfold cutV
  rw [HT.sIx_none, HT.sIx_nat]
  by_cases h : i ≤ xs.length
  · rw [Nat.min_eq_left h, List.take_of_length_le (by rw [List.length_drop]; omega)]
  · rw [Nat.min_eq_right (by omega), List.drop_of_length_le (by omega), List.drop_of_length_le (by omega), List.take_nil]
theorem take_snoc {α : Type} {l : List α} {i : Nat} {x : α} (h : l[i]? = some x) : l.take (i + 1) = l.take i ++ [x] := by
  rw [List.take_add_one, h]
  rfl
theorem item_lt {α : Type} {l : List α} {i : Nat} {x : α} (h : l[i]? = some x) : i < l.length := (List.getElem?_eq_some_iff.mp h).1
theorem small (n : Nat) (h : n ≤ 1000) : n < sizeLine := Nat.lt_of_le_of_lt h (by decide)
theorem getD_item {α : Type} {l : List α} {i : Nat} {x d : α} (h : l[i]? = some x) : l.getD i d = x := by rw [List.getD_eq_getElem?_getD, h]; rfl
theorem seq_off {K : PySem.W.Frag} {H : Hp} {a b : Addr} {xs : List V} {o : HO} (h : SqL K H a xs) (n : a ≠ b) : SqL K (upd H b o) a xs := by
  rcases h with (h | ⟨u, h⟩) | h
  · exact .inl (.inl (by rw [upd_ne n]; exact h))
  · exact .inl (.inr ⟨u, by rw [upd_ne n]; exact h⟩)
  · exact .inr h
/-- one more thing at a place that was free at the entry -/
theorem same_put {H H' : Hp} {p : Addr} {o : HO} (s : Same H H') (n : H p = none) : Same H (upd H' p o) := fun b u e => by
  rw [upd_ne (ne_of_none e n)]
  exact s b u e
theorem item_set {α : Type} {l : List α} {i j : Nat} {x y : α} (h : (l.set i x)[j]? = some y) : (i = j ∧ y = x ∧ j < l.length) ∨ (i ≠ j ∧ l[j]? = some y) := by
  rw [List.getElem?_set] at h
  by_cases e : i = j
  · subst e
    rw [if_pos rfl] at h
    split at h
    · exact .inl ⟨rfl, (Option.some.inj h).symm, by assumption⟩
    · cases h
  · rw [if_neg e] at h
    exact .inr ⟨e, h⟩
/-! data: == of lists of ints, of pairs -/
theorem eqvAll_ints : ∀ xs ys : List Int, PyData.eqvAll (xs.map .int) (ys.map .int) = decide (xs = ys)
  | [], [] => by simp [PyData.eqvAll]
  | [], _ :: _ => by simp [PyData.eqvAll]
  | _ :: _, [] => by simp [PyData.eqvAll]
  | x :: xs, y :: ys => by
    simp only [List.map_cons, PyData.eqvAll, PyData.eqv, eqvAll_ints xs ys]
    by_cases h : x = y <;> by_cases k : xs = ys <;> simp [h, k]
theorem canLayAll_ints : ∀ xs : List Int, PyData.canLayAll0 (xs.map .int) = true
  | [] => rfl
  | x :: xs => by simp [PyData.canLayAll0, PyData.canLay0, canLayAll_ints xs]
theorem depthAll_ints : ∀ xs : List Int, PyData.depthAll (xs.map .int) = 0
  | [] => rfl
  | x :: xs => by simp [PyData.depthAll, PyData.depth, depthAll_ints xs]
theorem shaped_ints (xs : List Int) : SeqAt.shaped (.list (xs.map .int)) = true := by
  simp [SeqAt.shaped, PyData.canLay0, canLayAll_ints, PyData.depth, depthAll_ints]
theorem dpAll_ints {K : PySem.W.Frag} {H : Hp} : ∀ xs : List Int, DpAll K H (xs.map V.int) (xs.map .int)
  | [] => .nil
  | x :: xs => .cons (.int x) (dpAll_ints xs)
theorem dp_ints {K : PySem.W.Frag} {H : Hp} {a : Addr} {xs : List Int} (h : SqL K H a (xs.map V.int)) : Dp K H (.ref a) (.list (xs.map .int)) := .lst h (dpAll_ints xs)
theorem eqv_ints (xs ys : List Int) : PyData.eqv (.list (xs.map .int)) (.list (ys.map .int)) = decide (xs = ys) := by
  simp only [PyData.eqv]
  exact eqvAll_ints xs ys
/-- rows of ints -/
def rowD (xs : List Int) : PyData := .list (xs.map .int)
theorem rows_data : ∀ xss : List (List Int), PyData.canLayAll0 (xss.map rowD) = true ∧ PyData.depthAll (xss.map rowD) ≤ 1
  | [] => ⟨rfl, Nat.zero_le _⟩
  | xs :: xss => by
    obtain ⟨h1, h2⟩ := rows_data xss
    refine ⟨by simp [PyData.canLayAll0, PyData.canLay0, rowD, canLayAll_ints, h1], ?_⟩
    simp only [List.map_cons, PyData.depthAll, rowD, PyData.depth, depthAll_ints]
    omega
theorem rows_shaped (xss : List (List Int)) : SeqAt.shaped (.list (xss.map rowD)) = true := by
  obtain ⟨h1, h2⟩ := rows_data xss
  have e : PyData.depth (.list (xss.map rowD)) = PyData.depthAll (xss.map rowD) + 1 := by simp only [PyData.depth]
  unfold SeqAt.shaped
  rw [Bool.and_eq_true]
  exact ⟨by simp only [PyData.canLay0]; exact h1, decide_eq_true (by rw [e]; omega)⟩
theorem eqvAll_rows : ∀ xss yss : List (List Int), PyData.eqvAll (xss.map rowD) (yss.map rowD) = decide (xss = yss)
  | [], [] => by simp [PyData.eqvAll]
  | [], _ :: _ => by simp [PyData.eqvAll]
  | _ :: _, [] => by simp [PyData.eqvAll]
  | x :: xs, y :: ys => by
    have h := eqv_ints x y
    simp only [List.map_cons, PyData.eqvAll, rowD, eqvAll_rows xs ys, h]
    by_cases h : x = y <;> by_cases k : xs = ys <;> simp [h, k]
theorem eqv_rows (xss yss : List (List Int)) : PyData.eqv (.list (xss.map rowD)) (.list (yss.map rowD)) = decide (xss = yss) := by
  simp only [PyData.eqv]
  exact eqvAll_rows xss yss
theorem dp_two {K : PySem.W.Frag} {H : Hp} {a b c : Addr} {xs ys : List Int} (h : SqL K H a [V.ref b, V.ref c]) (hb : SqL K H b (xs.map V.int)) (hc : SqL K H c (ys.map V.int)) : Dp K H (.ref a) (.list ([xs, ys].map rowD)) :=
  .lst h (.cons (dp_ints hb) (.cons (dp_ints hc) .nil))
/-! xs[i] op= e, i not below 0 -/
def rGetL (K : PySem.W.Frag) : V → V → Hp → VK → Prop := fun x y H Q => ∃ (p : Addr) (xs : List V) (i : Int) (j : Nat) (v : V), x = .ref p ∧ y = .int i ∧ i = (j : Int) ∧ SqL K H p xs ∧ xs[j]? = some v ∧ Q v H
theorem pget_list {X : Cx} : PGet X (rGetL X.K) := by
  intro pins s σ H o i ov iv Q I ro ri h
  obtain ⟨p, xs, _, j, v, rfl, rfl, rfl, hS, hv, q⟩ := h
  cases ro
  obtain ⟨t, rfl⟩ := ri
  obtain ⟨its, r, pl, hz⟩ := I.list hS
  obtain ⟨u, hu, ru⟩ := r.get hv
  have hl : j < xs.length := (List.getElem?_eq_some_iff.mp hv).1
  have hn := line63
  exact PySem.wpAny_getItem_list pl.isList (by omega) (by omega) (by rw [Int.toNat_natCast]; simpa using hu) ⟨v, H, I, ru, q⟩
theorem rep_zero (n : Nat) : (List.replicate n [V.int 0]).flatten = (List.replicate n (0 : Int)).map V.int := by
  induction n with
  | zero => rfl
  | succ n ih => rw [List.replicate_succ, List.flatten_cons, ih, List.replicate_succ]; rfl
theorem pev_rep (n : Nat) (x : Zp) : pev (List.replicate n (0 : Int)) x = 0 := pev_zeros (fun w m => by rw [(List.mem_replicate.mp m).2]; exact z_zero) x
theorem ixN_nat {n j : Nat} (h : j < n) : ixN n (j : Int) = some j := by
  unfold ixN
  rw [if_pos (by omega), if_pos (by omega), Int.toNat_natCast]
/-- a list of pairs of ints stands at p -/
def PtsAt (K : PySem.W.Frag) (H : Hp) (p : Addr) (ps : List (Int × Int)) : Prop := ∃ L : List (Addr × Int × Int), SqL K H p (L.map fun e => V.ref e.1) ∧ L.map (·.2) = ps ∧ ∀ e ∈ L, SqT K H e.1 [.int e.2.1, .int e.2.2]
theorem PtsAt.same {K : PySem.W.Frag} {H H' : Hp} {p : Addr} {ps : List (Int × Int)} (h : PtsAt K H p ps) (s : Same H H') : PtsAt K H' p ps := by
  obtain ⟨L, h1, h2, h3⟩ := h
  exact ⟨L, s.seq h1, h2, fun e m => s.tup (h3 e m)⟩
theorem PtsAt.old {K : PySem.W.Frag} {H : Hp} {p : Addr} {ps : List (Int × Int)} (h : PtsAt K H p ps) : ∃ as : List Addr, SqL K H p (as.map V.ref) ∧ as.length = ps.length ∧
    ∀ (i : Nat) (t : Addr) (q : Int × Int), as[i]? = some t → ps[i]? = some q → SqT K H t [.int q.1, .int q.2] := by
  obtain ⟨L, h1, rfl, h3⟩ := h
  refine ⟨L.map (·.1), by rw [List.map_map]; exact h1, by simp, fun i t q a b => ?_⟩
  rw [List.getElem?_map] at a b
  cases e : L[i]? with
  | none => rw [e] at a; cases a
  | some u =>
    rw [e] at a b
    cases a
    cases b
    exact h3 u (List.mem_of_getElem? e)
/-- an item of the list: a pair -/
theorem pts_item {K : PySem.W.Frag} {H : Hp} {as : List Addr} {ps : List (Int × Int)} (hl : as.length = ps.length) (h : ∀ (i : Nat) (t : Addr) (q : Int × Int), as[i]? = some t → ps[i]? = some q → SqT K H t [.int q.1, .int q.2])
    {i : Nat} {y : V} (hi : (as.map V.ref)[i]? = some y) : ∃ t q, y = .ref t ∧ as[i]? = some t ∧ ps[i]? = some q ∧ SqT K H t [.int q.1, .int q.2] := by
  rw [List.getElem?_map] at hi
  cases e : as[i]? with
  | none => rw [e] at hi; cases hi
  | some t =>
    rw [e] at hi
    have lt := item_lt e
    have e2 : ps[i]? = some ps[i] := List.getElem?_eq_getElem (by omega)
    exact ⟨t, _, (Option.some.inj hi).symm, rfl, e2, h i t _ e e2⟩
theorem words_apart {ps : List Int} : (ps.map (· % 65521)).Nodup ↔ Apart ps := by
  unfold Apart List.Nodup
  rw [List.pairwise_map, List.pairwise_map]
  constructor
  · intro h
    exact h.imp fun {a b} n e => n (z_mod_eq e)
  · intro h
    exact h.imp fun {a b} n e => n (z_eq.mpr e)
theorem apart_words {ps : List Int} : Apart (ps.map (· % 65521)) ↔ Apart ps := by
  unfold Apart
  rw [List.map_map, show (z ∘ fun x : Int => x % 65521) = z from funext fun a => z_mod a]
/-- data of pairs -/
def pairD (q : Int × Int) : PyData := .tuple [.int q.1, .int q.2]
theorem pairs_data : ∀ ps : List (Int × Int), PyData.canLayAll0 (ps.map pairD) = true ∧ PyData.depthAll (ps.map pairD) ≤ 1 ∧ PyData.eqvAll (ps.map pairD) (ps.map pairD) = true
  | [] => ⟨rfl, Nat.zero_le _, by simp [PyData.eqvAll]⟩
  | q :: ps => by
    obtain ⟨h1, h2, h3⟩ := pairs_data ps
    refine ⟨by simp [PyData.canLayAll0, PyData.canLay0, pairD, h1], ?_, by simp [PyData.eqvAll, PyData.eqv, pairD, h3]⟩
    simp only [List.map_cons, PyData.depthAll, pairD, PyData.depth]
    omega
theorem pairs_shaped (ps : List (Int × Int)) : SeqAt.shaped (.list (ps.map pairD)) = true := by
  obtain ⟨h1, h2, _⟩ := pairs_data ps
  have e : PyData.depth (.list (ps.map pairD)) = PyData.depthAll (ps.map pairD) + 1 := by simp only [PyData.depth]
  unfold SeqAt.shaped
  rw [Bool.and_eq_true]
  exact ⟨by simp only [PyData.canLay0]; exact h1, decide_eq_true (by rw [e]; omega)⟩
theorem pairs_eqv (ps : List (Int × Int)) : PyData.eqv (.list (ps.map pairD)) (.list (ps.map pairD)) = true := by
  simp only [PyData.eqv]
  exact (pairs_data ps).2.2
theorem PtsAt.dp {K : PySem.W.Frag} {H : Hp} {p : Addr} {ps : List (Int × Int)} (h : PtsAt K H p ps) : Dp K H (.ref p) (.list (ps.map pairD)) := by
  obtain ⟨L, h1, rfl, h3⟩ := h
  refine .lst h1 ?_
  have : ∀ M : List (Addr × Int × Int), (∀ e ∈ M, SqT K H e.1 [.int e.2.1, .int e.2.2]) → DpAll K H (M.map fun e => V.ref e.1) ((M.map (·.2)).map pairD) := by
    intro M
    induction M with
    | nil => intro _; exact .nil
    | cons e M ih => exact fun g => .cons (.tup (g e (by simp)) (.cons (.int _) (.cons (.int _) .nil))) (ih fun u m => g u (List.mem_cons_of_mem _ m))
  exact this L h3
/-- where things stand -/
structure Ad where
  f_inverse : Addr
  d_inverse : FuncData
  f_weight : Addr
  d_weight : FuncData
  f_weights : Addr
  d_weights : FuncData
  f_check_lengths : Addr
  d_check_lengths : FuncData
  f_piece_at : Addr
  d_piece_at : FuncData
  f_encode : Addr
  d_encode : FuncData
  f_law_pot : Addr
  d_law_pot : FuncData
  f_law_next : Addr
  d_law_next : FuncData
  f_law_word : Addr
  d_law_word : FuncData
  f_law_words : Addr
  d_law_words : FuncData
  f_law_horner : Addr
  d_law_horner : FuncData
  f_law_stripe : Addr
  d_law_stripe : FuncData
  f_law_is_words : Addr
  d_law_is_words : FuncData
  f_law_refused : Addr
  d_law_refused : FuncData
  f_law : Addr
  d_law : FuncData
  c_PoolError : Addr
  c_InvalidArgument : Addr
/-- what the top has written -/
structure Txt (K : PySem.W.Frag) (mg : Str → Option Value) (a : Ad) : Prop where
  F_inverse : Fun K "inverse" "inverse" s_inverse a.f_inverse a.d_inverse
  g_inverse : mg "inverse" = some (.ref a.f_inverse)
  d_inverse : Binds K a.d_inverse ["a"] []
  F_weight : Fun K "weight" "weight" s_weight a.f_weight a.d_weight
  g_weight : mg "weight" = some (.ref a.f_weight)
  d_weight : Binds K a.d_weight ["place", "others", "x"] []
  F_weights : Fun K "weights" "weights" s_weights a.f_weights a.d_weights
  g_weights : mg "weights" = some (.ref a.f_weights)
  d_weights : Binds K a.d_weights ["places", "x"] []
  F_check_lengths : Fun K "check_lengths" "check_lengths" s_check_lengths a.f_check_lengths a.d_check_lengths
  g_check_lengths : mg "check_lengths" = some (.ref a.f_check_lengths)
  d_check_lengths : Binds K a.d_check_lengths ["pieces"] []
  F_piece_at : Fun K "piece_at" "piece_at" s_piece_at a.f_piece_at a.d_piece_at
  g_piece_at : mg "piece_at" = some (.ref a.f_piece_at)
  d_piece_at : Binds K a.d_piece_at ["known", "places", "number"] []
  F_encode : Fun K "encode" "encode" s_encode a.f_encode a.d_encode
  g_encode : mg "encode" = some (.ref a.f_encode)
  d_encode : Binds K a.d_encode ["pieces", "parity"] []
  F_law_pot : Fun K "_law_pot" "_law_pot" s_law_pot a.f_law_pot a.d_law_pot
  g_law_pot : mg "_law_pot" = some (.ref a.f_law_pot)
  d_law_pot : Binds K a.d_law_pot ["script"] []
  F_law_next : Fun K "_law_next" "_law_next" s_law_next a.f_law_next a.d_law_next
  g_law_next : mg "_law_next" = some (.ref a.f_law_next)
  d_law_next : Binds K a.d_law_next ["pot", "limit"] []
  F_law_word : Fun K "_law_word" "_law_word" s_law_word a.f_law_word a.d_law_word
  g_law_word : mg "_law_word" = some (.ref a.f_law_word)
  d_law_word : Binds K a.d_law_word ["pot"] []
  F_law_words : Fun K "_law_words" "_law_words" s_law_words a.f_law_words a.d_law_words
  g_law_words : mg "_law_words" = some (.ref a.f_law_words)
  d_law_words : Binds K a.d_law_words ["pot", "count"] []
  F_law_horner : Fun K "_law_horner" "_law_horner" s_law_horner a.f_law_horner a.d_law_horner
  g_law_horner : mg "_law_horner" = some (.ref a.f_law_horner)
  d_law_horner : Binds K a.d_law_horner ["numbers", "x"] []
  F_law_stripe : Fun K "_law_stripe" "_law_stripe" s_law_stripe a.f_law_stripe a.d_law_stripe
  g_law_stripe : mg "_law_stripe" = some (.ref a.f_law_stripe)
  d_law_stripe : Binds K a.d_law_stripe ["pot", "data", "count", "length"] []
  F_law_is_words : Fun K "_law_is_words" "_law_is_words" s_law_is_words a.f_law_is_words a.d_law_is_words
  g_law_is_words : mg "_law_is_words" = some (.ref a.f_law_is_words)
  d_law_is_words : Binds K a.d_law_is_words ["value", "count"] []
  F_law_refused : Fun K "_law_refused" "_law_refused" s_law_refused a.f_law_refused a.d_law_refused
  g_law_refused : mg "_law_refused" = some (.ref a.f_law_refused)
  d_law_refused : Binds K a.d_law_refused ["pieces", "parity"] []
  F_law : Fun K "law" "law" s_law a.f_law a.d_law
  g_law : mg "law" = some (.ref a.f_law)
  d_law : Binds K a.d_law ["script"] []
  g_PRIME : ∃ u, mg "PRIME" = some u ∧ RelV (.int 65521) u
  g_MAX_PIECES : ∃ u, mg "MAX_PIECES" = some u ∧ RelV (.int 8) u
  n_enumerate : mg "enumerate" = none
  n_len : mg "len" = none
  n_sum : mg "sum" = none
  n_zip : mg "zip" = none
  n_list : mg "list" = none
  n_range : mg "range" = none
  n_int : mg "int" = none
  n_abs : mg "abs" = none
  n_isinstance : mg "isinstance" = none
  n_bool : mg "bool" = none
  g_PoolError : mg "PoolError" = some (.ref a.c_PoolError)
  x_PoolError : PySem.W.excIn K a.c_PoolError [.type "ValueError", .type "Exception", .type "BaseException", .type "object"] "ValueError.__new__" = true
  k_PoolError : PySem.W.keepIn K (.ref a.c_PoolError) = true
  b_PoolError : PySem.W.subIn K (.ref a.c_PoolError) (.type "BaseException") = some true
  t_PoolError : PySem.W.typeIn K (.ref a.c_PoolError) = some (.type "type")
  E_PoolError : ExcC K a.c_PoolError
  g_InvalidArgument : mg "InvalidArgument" = some (.ref a.c_InvalidArgument)
  x_InvalidArgument : PySem.W.excIn K a.c_InvalidArgument [.type "ValueError", .type "Exception", .type "BaseException", .type "object"] "ValueError.__new__" = true
  k_InvalidArgument : PySem.W.keepIn K (.ref a.c_InvalidArgument) = true
  b_InvalidArgument : PySem.W.subIn K (.ref a.c_InvalidArgument) (.type "BaseException") = some true
  t_InvalidArgument : PySem.W.typeIn K (.ref a.c_InvalidArgument) = some (.type "type")
  E_InvalidArgument : ExcC K a.c_InvalidArgument
  u_InvalidArgument_PoolError : PySem.W.exmOne K (.ref a.c_InvalidArgument) (.ref a.c_PoolError) = some true
  i_InvalidArgument_InvalidArgument : PySem.W.kitOne K (.ref a.c_InvalidArgument) (.ref a.c_InvalidArgument) = some true
/-! the promises -/
/-! the draws: a list of the script, a place in it, a rest, a seed -/
/-- at p stands a pot, its script's list at l -/
def Pot (H : Hp) (p l : Addr) : Prop := ∃ (ns : List Int) (i acc seed : Int), H p = some (.lst [.ref l, .int i, .int acc, .int seed]) ∧ H l = some (.lst (ns.map V.int)) ∧ 0 ≤ i ∧ 0 ≤ acc ∧ 0 ≤ seed ∧ seed < 2147483647
theorem Pot.ne {H : Hp} {p l : Addr} (h : Pot H p l) : l ≠ p := by
  obtain ⟨ns, i, acc, seed, h1, h2, _⟩ := h
  refine ne_of h2 h1 fun e => ?_
  have e1 := HO.lst.inj e
  cases ns with
  | nil => cases e1
  | cons a r => rw [List.map_cons] at e1; injection e1 with e2 _; cases e2
theorem Pot.same {H H' : Hp} {p l : Addr} (h : Pot H p l) (s : Same H H') : Pot H' p l := by
  obtain ⟨ns, i, acc, seed, h1, h2, h3⟩ := h
  exact ⟨ns, i, acc, seed, s _ _ h1, s _ _ h2, h3⟩
theorem Pot.only {H H' : Hp} {p l q : Addr} (h : Pot H p l) (s : Only q H H') (n1 : p ≠ q) (n2 : l ≠ q) : Pot H' p l := by
  obtain ⟨ns, i, acc, seed, h1, h2, h3⟩ := h
  exact ⟨ns, i, acc, seed, by rw [s _ n1]; exact h1, by rw [s _ n2]; exact h2, h3⟩
/-- a draw's answer below the limit -/
def sp_law_next (K : PySem.W.Frag) (a : Ad) : Sp := fun vs H Q _ => ∃ (p l : Addr) (m : Int), vs = [.ref p, .int m] ∧ Pot H p l ∧ 0 < m ∧ m < 1073741824 ∧
  ∀ (v : Int) (H' : Hp), 0 ≤ v → v < m → Pot H' p l → Only p H H' → Q (.int v) H'
theorem sp_law_next_len {K : PySem.W.Frag} {a : Ad} {vs : List V} {H : Hp} {Q : VK} {E : XK} (h : sp_law_next K a vs H Q E) : vs.length = 2 := by
  obtain ⟨p, l, m, rfl, _⟩ := h
  rfl
def sp_law_pot (K : PySem.W.Frag) (a : Ad) : Sp := fun vs H Q _ => ∃ (s : Addr) (ns : List Int), vs = [.ref s] ∧ SqL K H s (ns.map V.int) ∧ ns.length ≤ 1000 ∧
  ∀ (p l : Addr) (H' : Hp), H p = none → H l = none → Same H H' → Pot H' p l → Q (.ref p) H'
theorem sp_law_pot_len {K : PySem.W.Frag} {a : Ad} {vs : List V} {H : Hp} {Q : VK} {E : XK} (h : sp_law_pot K a vs H Q E) : vs.length = 1 := by
  obtain ⟨s, ns, rfl, _⟩ := h
  rfl
/-- the law itself: True at every script -/
def sp_law0 (K : PySem.W.Frag) : Sp := fun vs H Q _ => ∃ (s : Addr) (ns : List Int), vs = [.ref s] ∧ SqL K H s (ns.map V.int) ∧ ns.length ≤ 63 ∧ ∀ H', Q (.bl true) H'
def sp_law (K : PySem.W.Frag) (a : Ad) : Sp := sp_law0 K
theorem sp_law_len {K : PySem.W.Frag} {a : Ad} {vs : List V} {H : Hp} {Q : VK} {E : XK} (h : sp_law K a vs H Q E) : vs.length = 1 := by
  obtain ⟨s, ns, rfl, _⟩ := h
  rfl
theorem int_item {ns : List Int} {i : Nat} {y : V} (h : (ns.map V.int)[i]? = some y) : ∃ z, ns[i]? = some z ∧ y = V.int z := by
  rw [List.getElem?_map] at h
  cases e : ns[i]? with
  | none => rw [e] at h; cases h
  | some z => rw [e] at h; exact ⟨z, rfl, (Option.some.inj h).symm⟩
/-- the pot's own object is no list of refs alone, no tuple -/
theorem Pot.list {H : Hp} {p l : Addr} (h : Pot H p l) : ∃ i acc seed : Int, H p = some (.lst [.ref l, .int i, .int acc, .int seed]) := by
  obtain ⟨ns, i, acc, seed, h1, _⟩ := h
  exact ⟨i, acc, seed, h1⟩
theorem But.seq {K : PySem.W.Frag} {H H' : Hp} {p a : Addr} {xs : List V} (b : But p H H') (n : a ≠ p) (h : SqL K H a xs) : SqL K H' a xs := by
  rcases h with (h | ⟨o, h⟩) | h
  · exact .inl (.inl (b _ _ h n))
  · exact .inl (.inr ⟨o, b _ _ h n⟩)
  · exact .inr h
theorem But.tup {K : PySem.W.Frag} {H H' : Hp} {p l a : Addr} {xs : List V} (P : Pot H p l) (b : But p H H') (h : SqT K H a xs) : SqT K H' a xs := by
  obtain ⟨i, acc, seed, hp⟩ := P.list
  rcases h with (h | ⟨o, h⟩) | h
  · exact .inl (.inl (b _ _ h (ne_of h hp (by intro q; cases q))))
  · exact .inl (.inr ⟨o, b _ _ h (ne_of h hp (by intro q; cases q))⟩)
  · exact .inr h
theorem Pot.noList {H : Hp} {p l a : Addr} (P : Pot H p l) {xs : List V} (h : H a = some (.lst xs)) (hx : ∀ i acc seed : Int, xs ≠ [.ref l, .int i, .int acc, .int seed]) : a ≠ p := by
  obtain ⟨i, acc, seed, hp⟩ := P.list
  exact ne_of h hp fun q => hx i acc seed (HO.lst.inj q)
theorem Pot.off {H : Hp} {p l q : Addr} (P : Pot H p l) (h : H q = none) : p ≠ q ∧ l ≠ q := by
  obtain ⟨_, _, _, _, g1, g2, _⟩ := P
  exact ⟨ne_of_none g1 h, ne_of_none g2 h⟩
theorem Pot.new {H : Hp} {p l q : Addr} {o : HO} (P : Pot H p l) (h : H q = none) : Pot (upd H q o) p l := P.same (Same.new h)
def sp_inverse (K : PySem.W.Frag) (a : Ad) : Sp := fun vs H Q E => ∃ x : Int, vs = [.int x] ∧ (x % 65521 = 0 → ∀ H', Same H H' → E (.ref a.c_InvalidArgument) none H') ∧ (x % 65521 ≠ 0 → ∀ H', Same H H' → Q (.int (invP x)) H')
theorem sp_inverse_len {K : PySem.W.Frag} {a : Ad} {vs : List V} {H : Hp} {Q : VK} {E : XK} (h : sp_inverse K a vs H Q E) : vs.length = 1 := by
  obtain ⟨x, rfl, _⟩ := h
  rfl
/-- an int is an int -/
def sp_law_is_int (K : PySem.W.Frag) (a : Ad) : Sp := fun vs H Q _ => ∃ x : Int, vs = [.int x] ∧ Q (.bl true) H
theorem sp_law_is_int_len {K : PySem.W.Frag} {a : Ad} {vs : List V} {H : Hp} {Q : VK} {E : XK} (h : sp_law_is_int K a vs H Q E) : vs.length = 1 := by
  obtain ⟨x, rfl, _⟩ := h
  rfl
/-! words drawn, a polynomial's value -/
def sp_law_word (K : PySem.W.Frag) (a : Ad) : Sp := fun vs H Q _ => ∃ (p l : Addr), vs = [.ref p] ∧ Pot H p l ∧ ∀ (v : Int) (H' : Hp), Wd v → Pot H' p l → Only p H H' → Q (.int v) H'
theorem sp_law_word_len {K : PySem.W.Frag} {a : Ad} {vs : List V} {H : Hp} {Q : VK} {E : XK} (h : sp_law_word K a vs H Q E) : vs.length = 1 := by
  obtain ⟨p, l, rfl, _⟩ := h
  rfl
def sp_law_words (K : PySem.W.Frag) (a : Ad) : Sp := fun vs H Q _ => ∃ (p l : Addr) (n : Int), vs = [.ref p, .int n] ∧ Pot H p l ∧ 0 ≤ n ∧ n ≤ 500 ∧
  ∀ (D : Addr) (ws : List Int) (H' : Hp), ws.length = n.toNat → (∀ w ∈ ws, Wd w) → H D = none → H' D = some (.lst (ws.map V.int)) → But p H H' → Pot H' p l → Q (.ref D) H'
theorem sp_law_words_len {K : PySem.W.Frag} {a : Ad} {vs : List V} {H : Hp} {Q : VK} {E : XK} (h : sp_law_words K a vs H Q E) : vs.length = 2 := by
  obtain ⟨p, l, n, rfl, _⟩ := h
  rfl
def sp_law_horner (K : PySem.W.Frag) (a : Ad) : Sp := fun vs H Q _ => ∃ (d : Addr) (ns : List Int) (x : Int), vs = [.ref d, .int x] ∧ SqL K H d (ns.map V.int) ∧ ns.length ≤ 500 ∧ Q (.int (horn ns x)) H
theorem sp_law_horner_len {K : PySem.W.Frag} {a : Ad} {vs : List V} {H : Hp} {Q : VK} {E : XK} (h : sp_law_horner K a vs H Q E) : vs.length = 2 := by
  obtain ⟨d, ns, x, rfl, _⟩ := h
  rfl
def BadPts (ps : List (Int × Int)) : Prop := ps = [] ∨ ¬ Apart (ps.map (·.1))
def placesM (ps : List (Int × Int)) : List Int := (ps.map (·.1)).map (· % 65521)
def sp_distinct_places (K : PySem.W.Frag) (a : Ad) : Sp := fun vs H Q E => ∃ (p : Addr) (ps : List (Int × Int)), vs = [.ref p] ∧ PtsAt K H p ps ∧ ps.length ≤ 500 ∧
  (BadPts ps → ∀ H', Same H H' → E (.ref a.c_InvalidArgument) none H') ∧
  (¬ BadPts ps → ∀ (D : Addr) (H' : Hp), Same H H' → H D = none → H' D = some (.lst ((placesM ps).map V.int)) → Q (.ref D) H')
def sp_weight (K : PySem.W.Frag) (a : Ad) : Sp := fun vs H Q _ => ∃ (p : Int) (o : Addr) (os : List Int) (x : Int), vs = [.int p, .ref o, .int x] ∧ SqL K H o (os.map V.int) ∧ prodM os p 1 % 65521 ≠ 0 ∧
  ∀ H', Same H H' → Q (.int (wgt p os x)) H'
def sp_weights (K : PySem.W.Frag) (a : Ad) : Sp := fun vs H Q _ => ∃ (l : Addr) (ws : List Int) (x : Int), vs = [.ref l, .int x] ∧ H l = some (.lst (ws.map V.int)) ∧ Apart ws ∧ ws.length ≤ 500 ∧
  ∀ (D : Addr) (H' : Hp), Same H H' → H D = none → H' D = some (.lst ((weightsM ws x).map V.int)) → Q (.ref D) H'
def sp_value_at (K : PySem.W.Frag) (a : Ad) : Sp := fun vs H Q E => ∃ (p : Addr) (ps : List (Int × Int)) (x : Int), vs = [.ref p, .int x] ∧ PtsAt K H p ps ∧ ps.length ≤ 500 ∧
  (BadPts ps → ∀ H', Same H H' → E (.ref a.c_InvalidArgument) none H') ∧
  (¬ BadPts ps → ∀ H', Same H H' → Q (.int (valM (placesM ps) (ps.map (·.2)) x)) H')
theorem sp_distinct_places_len {K : PySem.W.Frag} {a : Ad} {vs : List V} {H : Hp} {Q : VK} {E : XK} (h : sp_distinct_places K a vs H Q E) : vs.length = 1 := by
  obtain ⟨p, ps, rfl, _⟩ := h
  rfl
theorem sp_weight_len {K : PySem.W.Frag} {a : Ad} {vs : List V} {H : Hp} {Q : VK} {E : XK} (h : sp_weight K a vs H Q E) : vs.length = 3 := by
  obtain ⟨p, o, os, x, rfl, _⟩ := h
  rfl
theorem sp_weights_len {K : PySem.W.Frag} {a : Ad} {vs : List V} {H : Hp} {Q : VK} {E : XK} (h : sp_weights K a vs H Q E) : vs.length = 2 := by
  obtain ⟨l, ws, x, rfl, _⟩ := h
  rfl
theorem sp_value_at_len {K : PySem.W.Frag} {a : Ad} {vs : List V} {H : Hp} {Q : VK} {E : XK} (h : sp_value_at K a vs H Q E) : vs.length = 2 := by
  obtain ⟨p, ps, x, rfl, _⟩ := h
  rfl
def sp_law_is_words (K : PySem.W.Frag) (a : Ad) : Sp := fun vs H Q _ => ∃ (d : Addr) (r : List Int) (n : Int), vs = [.ref d, .int n] ∧ H d = some (.lst (r.map V.int)) ∧ (∀ w ∈ r, Wd w) ∧ (r.length : Int) = n ∧ Q (.bl true) H
theorem sp_law_is_words_len {K : PySem.W.Frag} {a : Ad} {vs : List V} {H : Hp} {Q : VK} {E : XK} (h : sp_law_is_words K a vs H Q E) : vs.length = 2 := by
  obtain ⟨d, r, n, rfl, _⟩ := h
  rfl
/-! rows, lines: lists of lists -/
def refs (E : List (Addr × List Int)) : List V := E.map fun e => V.ref e.1
theorem refs_len (E : List (Addr × List Int)) : (refs E).length = E.length := by simp [refs]
theorem refs_get {E : List (Addr × List Int)} {i : Nat} {e : Addr × List Int} (h : E[i]? = some e) : (refs E)[i]? = some (V.ref e.1) := by unfold refs; rw [List.getElem?_map, h]; rfl
theorem refs_item {E : List (Addr × List Int)} {i : Nat} {y : V} (h : (refs E)[i]? = some y) : ∃ e, E[i]? = some e ∧ y = V.ref e.1 := by
  unfold refs at h
  rw [List.getElem?_map] at h
  cases q : E[i]? with
  | none => rw [q] at h; cases h
  | some e => rw [q] at h; exact ⟨e, rfl, (Option.some.inj h).symm⟩
/-- rows that are read -/
def RL (K : PySem.W.Frag) (H : Hp) (R : Addr) (E : List (Addr × List Int)) : Prop := SqL K H R (refs E) ∧ ∀ e ∈ E, SqL K H e.1 (e.2.map V.int)
theorem RL.same {K : PySem.W.Frag} {H H' : Hp} {R : Addr} {E : List (Addr × List Int)} (h : RL K H R E) (s : Same H H') : RL K H' R E := ⟨s.seq h.1, fun e m => s.seq (h.2 e m)⟩
/-- lines that are changed -/
def LA (H : Hp) (L : Addr) (E : List (Addr × List Int)) : Prop := H L = some (.lst (refs E)) ∧ ∀ e ∈ E, H e.1 = some (.lst (e.2.map V.int)) ∧ e.1 ≠ L
theorem LA.same {H H' : Hp} {L : Addr} {E : List (Addr × List Int)} (h : LA H L E) (s : Same H H') : LA H' L E := ⟨s _ _ h.1, fun e m => ⟨s _ _ (h.2 e m).1, (h.2 e m).2⟩⟩
theorem LA.put {H : Hp} {L : Addr} {E' : List (Addr × List Int)} (h : ∀ e ∈ E', H e.1 = some (.lst (e.2.map V.int)) ∧ e.1 ≠ L) : LA (upd H L (.lst (refs E'))) L E' := ⟨upd_same, fun e m => ⟨by rw [upd_ne (h e m).2]; exact (h e m).1, (h e m).2⟩⟩
theorem LA.rl {K : PySem.W.Frag} {H : Hp} {L : Addr} {E : List (Addr × List Int)} (h : LA H L E) : RL K H L E := ⟨SqL.of h.1, fun e m => SqL.of (h.2 e m).1⟩
abbrev snds (E : List (Addr × List Int)) : List (List Int) := E.map (·.2)
theorem snds_get {E : List (Addr × List Int)} {i : Nat} {e : Addr × List Int} (h : E[i]? = some e) : (snds E).getD i [] = e.2 := getD_item (by rw [List.getElem?_map, h]; rfl)
theorem snds_len (E : List (Addr × List Int)) : (snds E).length = E.length := List.length_map _
theorem ints_pot {l : Addr} {xs : List Int} {i acc seed : Int} : xs.map V.int ≠ [.ref l, .int i, .int acc, .int seed] := fun e => by
  cases xs with
  | nil => cases e
  | cons a r => rw [List.map_cons] at e; injection e with e1 _; cases e1
theorem LA.but {H H' : Hp} {p l L : Addr} {F : List (Addr × List Int)} (h : LA H L F) (P : Pot H p l) (n : L ≠ p) (b : But p H H') : LA H' L F :=
  ⟨b _ _ h.1 n, fun e m => ⟨b _ _ (h.2 e m).1 (P.noList (h.2 e m).1 fun _ _ _ => ints_pot), (h.2 e m).2⟩⟩
/-! pieces of a stripe -/
def BadLen (rows : List (List Int)) : Prop := ∃ r ∈ rows, r.length ≠ (rows.getD 0 []).length
noncomputable def pieceM (ws : List Int) (rows : List (List Int)) (x : Int) (n : Nat) : List Int := (List.range n).map fun i => valM ws (rows.map fun r => r.getD i 0) x
def upto (n : Nat) : List Int := (List.range n).map fun (i : Nat) => (i : Int)
theorem upto_len (n : Nat) : (upto n).length = n := by simp [upto]
theorem upto_get {n i : Nat} (h : i < n) : (upto n).getD i 0 = (i : Int) := by
  apply getD_item
  simp [upto, h]
theorem upto_apart {n : Nat} (h : n ≤ 60000) : Apart (upto n) := by
  unfold Apart
  unfold upto List.Nodup
  rw [List.map_map, List.pairwise_map]
  refine List.Pairwise.imp_of_mem (fun {a b} ha hb hab e => ?_) (List.pairwise_lt_range (n := n))
  have h1 := List.mem_range.mp ha
  have h2 := List.mem_range.mp hb
  have this : (a : Int) % 65521 = (b : Int) % 65521 := z_mod_eq e
  have hab' : a < b := hab
  omega
/-- the i-th column of the rows, as a new tuple -/
def YCol (F : List (Addr × List Int)) : Nat → Hp → V → Hp → Prop := fun i H v H' => ∃ T, v = .ref T ∧ H T = none ∧ H' = upd H T (.tup (((snds F).map fun r => r.getD i 0).map V.int))
theorem cols_rows {K : PySem.W.Frag} {H : Hp} {i : Nat} : ∀ (F : List (Addr × List Int)) (ys : List V), (∀ e ∈ F, SqL K H e.1 (e.2.map V.int) ∧ i < e.2.length) → Cols K H i ((F.map (·.1)).map fun l => (l, false)) ys → ys = ((snds F).map fun r => r.getD i 0).map V.int
  | [], [], _, _ => rfl
  | [], _ :: _, _, h => False.elim h
  | _ :: _, [], _, h => False.elim h
  | e :: F, y :: ys, h, ⟨h1, h2⟩ => by
    obtain ⟨a, b⟩ := h e (by simp)
    have q : (e.2.map V.int)[i]? = some y := h1 _ a
    rw [List.getElem?_map, List.getElem?_eq_getElem b] at q
    have e1 : e.2.getD i 0 = e.2[i] := getD_item (List.getElem?_eq_getElem b)
    rw [cols_rows F ys (fun e' m => h e' (by simp [m])) h2]
    simp only [snds, List.map_cons, e1]
    rw [← Option.some.inj q]
theorem walk_cols {K : PySem.W.Frag} {F : List (Addr × List Int)} {n : Nat} (hne : F ≠ []) (hrow : ∀ e ∈ F, e.2.length = n) :
    Walk (Itn K ((F.map (·.1)).map fun l => (l, false))) n (fun H => ∀ e ∈ F, SqL K H e.1 (e.2.map V.int)) (YCol F) := by
  refine ⟨fun i H hi q l hl => ?_, fun H q => ?_, fun i H v H' hi q y => ?_⟩
  · obtain ⟨l', hl', rfl⟩ := List.mem_map.1 hl
    obtain ⟨e, me, rfl⟩ := List.mem_map.1 hl'
    have := hrow e me
    exact ⟨_, _, q e me, List.getElem?_eq_getElem (by rw [List.length_map]; omega)⟩
  · cases F with
    | nil => exact absurd rfl hne
    | cons e F => exact ⟨(e.1, false), _, _, rfl, q e (by simp), by rw [List.length_map, hrow e (by simp)]; exact Nat.le_refl _⟩
  · obtain ⟨T, ys, h1, h2, h3, h4⟩ := y
    have := cols_rows F ys (fun e m => ⟨q e m, by have := hrow e m; omega⟩) h4
    exact ⟨T, h1, h2, by rw [h3, this]⟩
theorem walk_zipM {K : PySem.W.Frag} {a b : Addr} {xs ys : List V} {n : Nat} (h1 : xs.length = n) (h2 : ys.length = n) :
    Walk (Itn K [(a, false), (b, true)]) n (fun H => SqL K H a xs ∧ SqT K H b ys) (YPair (fun i => xs[i]?) (fun i => ys[i]?)) := by
  refine ⟨fun i H hi q l hl => ?_, fun H q => ⟨(a, false), _, xs, rfl, q.1, by omega⟩, fun i H v H' hi q y => ?_⟩
  · rcases List.mem_cons.1 hl with rfl | hl
    · exact ⟨xs, _, q.1, List.getElem?_eq_getElem (by omega)⟩
    · rw [List.mem_singleton.1 hl]
      exact ⟨ys, _, q.2, List.getElem?_eq_getElem (by omega)⟩
  · obtain ⟨T, zs, e1, e2, e3, e4⟩ := y
    match zs, e4 with
    | [x, y], ⟨c1, c2, _⟩ => exact ⟨T, x, y, e1, e2, e3, c1 xs q.1, c2 ys q.2⟩
def sp_check_lengths (K : PySem.W.Frag) (a : Ad) : Sp := fun vs H Q E => ∃ (R : Addr) (F : List (Addr × List Int)), vs = [.ref R] ∧ RL K H R F ∧
  (BadLen (snds F) → ∀ H', Same H H' → E (.ref a.c_InvalidArgument) none H') ∧ (¬ BadLen (snds F) → ∀ H', Same H H' → Q .non H')
theorem sp_check_lengths_len {K : PySem.W.Frag} {a : Ad} {vs : List V} {H : Hp} {Q : VK} {E : XK} (h : sp_check_lengths K a vs H Q E) : vs.length = 1 := by
  obtain ⟨R, F, rfl, _⟩ := h
  rfl
def sp_piece_at (K : PySem.W.Frag) (a : Ad) : Sp := fun vs H Q _ => ∃ (R P : Addr) (F : List (Addr × List Int)) (ws : List Int) (x : Int) (n : Nat), vs = [.ref R, .ref P, .int x] ∧ RL K H R F ∧ H P = some (.lst (ws.map V.int)) ∧ Apart ws ∧ ws.length = F.length ∧ F ≠ [] ∧ F.length ≤ 8 ∧ n ≤ 500 ∧
  (∀ e ∈ F, e.2.length = n) ∧ ∀ (D : Addr) (H' : Hp), Same H H' → H D = none → H' D = some (.lst ((pieceM ws (snds F) x n).map V.int)) → Q (.ref D) H'
theorem sp_piece_at_len {K : PySem.W.Frag} {a : Ad} {vs : List V} {H : Hp} {Q : VK} {E : XK} (h : sp_piece_at K a vs H Q E) : vs.length = 3 := by
  obtain ⟨R, P, F, ws, x, n, rfl, _⟩ := h
  rfl
def BadEnc (rows : List (List Int)) (par : Int) : Prop := rows = [] ∨ par < 0 ∨ (rows.length : Int) + par > 8 ∨ BadLen rows
def sp_encode (K : PySem.W.Frag) (a : Ad) : Sp := fun vs H Q E => ∃ (R : Addr) (F : List (Addr × List Int)) (par : Int), vs = [.ref R, .int par] ∧ RL K H R F ∧ F.length ≤ 20 ∧ ((snds F).getD 0 []).length ≤ 500 ∧ -500 ≤ par ∧ par ≤ 500 ∧
  (BadEnc (snds F) par → ∀ H', Same H H' → E (.ref a.c_InvalidArgument) none H') ∧
  (¬ BadEnc (snds F) par → ∀ (D : Addr) (G : List (Addr × List Int)) (H' : Hp), Same H H' → H D = none → LA H' D G → snds G = (List.range par.toNat).map (fun k => pieceM (upto F.length) (snds F) ((F.length + k : Nat) : Int) ((snds F).getD 0 []).length) → Q (.ref D) H')
theorem sp_encode_len {K : PySem.W.Frag} {a : Ad} {vs : List V} {H : Hp} {Q : VK} {E : XK} (h : sp_encode K a vs H Q E) : vs.length = 2 := by
  obtain ⟨R, F, par, rfl, _⟩ := h
  rfl
theorem same_none {H H' : Hp} {b : Addr} (s : Same H H') (n : H' b = none) : H b = none := by
  cases q : H b with
  | none => rfl
  | some o => rw [s _ _ q] at n; cases n
theorem but_none {p : Addr} {H H' : Hp} {b : Addr} (s : But p H H') (nb : b ≠ p) (n : H' b = none) : H b = none := by
  cases q : H b with
  | none => rfl
  | some o => rw [s _ _ q nb] at n; cases n
def sp_law_stripe (K : PySem.W.Frag) (a : Ad) : Sp := fun vs H Q _ => ∃ (p l : Addr) (d c n : Nat), vs = [.ref p, .int (d : Int), .int (c : Int), .int (n : Int)] ∧ Pot H p l ∧ d ≤ 20 ∧ c ≤ 20 ∧ n ≤ 20 ∧
  ∀ (D : Addr) (F : List (Addr × List Int)) (ps : List (List Int)) (H' : Hp), But p H H' → Pot H' p l → H D = none → LA H' D F → F.length = c → ps.length = n → (∀ ws ∈ ps, ws.length = d ∧ ∀ w ∈ ws, Wd w) → (∀ k < c, (snds F).getD k [] = ps.map fun ws => horn ws (k : Int)) → Q (.ref D) H'
theorem sp_law_stripe_len {K : PySem.W.Frag} {a : Ad} {vs : List V} {H : Hp} {Q : VK} {E : XK} (h : sp_law_stripe K a vs H Q E) : vs.length = 4 := by
  obtain ⟨p, l, d, c, n, rfl, _⟩ := h
  rfl
def sp_law_refused (K : PySem.W.Frag) (a : Ad) : Sp := fun vs H Q _ => ∃ (R : Addr) (F : List (Addr × List Int)) (par : Int), vs = [.ref R, .int par] ∧ RL K H R F ∧ F.length ≤ 20 ∧ ((snds F).getD 0 []).length ≤ 500 ∧ -500 ≤ par ∧ par ≤ 500 ∧ BadEnc (snds F) par ∧ ∀ H', Same H H' → Q (.bl true) H'
theorem sp_law_refused_len {K : PySem.W.Frag} {a : Ad} {vs : List V} {H : Hp} {Q : VK} {E : XK} (h : sp_law_refused K a vs H Q E) : vs.length = 2 := by
  obtain ⟨R, F, par, rfl, _⟩ := h
  rfl
/-! any pieces determine the others -/
theorem piece_of {ws : List Int} {rows ps : List (List Int)} (ha : Apart ws) (hr : rows.length = ws.length) (hps : ∀ w ∈ ps, w.length ≤ ws.length) (h : ∀ j, j < ws.length → rows.getD j [] = ps.map fun w => horn w (ws.getD j 0)) (x : Int) :
    pieceM ws rows x ps.length = ps.map fun w => horn w x := by
  refine List.ext_getElem (by simp [pieceM]) fun i h1 h2 => ?_
  have hi : i < ps.length := by simpa using h2
  have e1 : (pieceM ws rows x ps.length)[i] = valM ws (rows.map fun r => r.getD i 0) x := by simp [pieceM]
  have e2 : (ps.map fun w => horn w x)[i] = horn ps[i] x := by simp
  rw [e1, e2]
  have w1 := valM_word ws (rows.map fun r => r.getD i 0) x
  have w2 := horn_word ps[i] x
  refine z_inj w1.1 w1.2 w2.1 w2.2 ?_
  rw [horn_z]
  have hp := (pev_pol ps[i]).mono (hps _ (List.getElem_mem hi))
  refine valM_pol ha hp (fun j hj => ?_) x
  have hj' : j < rows.length := by omega
  have g1 : (rows.map fun r => r.getD i 0).getD j 0 = (rows.getD j []).getD i 0 := by
    rw [List.getD_eq_getElem?_getD, List.getElem?_map, List.getElem?_eq_getElem hj', List.getD_eq_getElem?_getD (l := rows), List.getElem?_eq_getElem hj']
    rfl
  rw [g1, h j hj]
  have g2 : (ps.map fun w => horn w (ws.getD j 0)).getD i 0 = horn ps[i] (ws.getD j 0) := getD_item (by rw [List.getElem?_map, List.getElem?_eq_getElem hi]; rfl)
  rw [g2, horn_z]
theorem dp_rows {K : PySem.W.Frag} {H : Hp} {R : Addr} {F : List (Addr × List Int)} (h : RL K H R F) : Dp K H (.ref R) (.list ((snds F).map rowD)) := by
  refine .lst h.1 ?_
  have : ∀ G : List (Addr × List Int), (∀ e ∈ G, SqL K H e.1 (e.2.map V.int)) → DpAll K H (refs G) ((snds G).map rowD) := by
    intro G
    induction G with
    | nil => intro _; exact .nil
    | cons e G ih => exact fun g => .cons (dp_ints (g e (by simp))) (ih fun u m => g u (List.mem_cons_of_mem _ m))
  exact this F h.2
theorem refs_take (F : List (Addr × List Int)) (n : Nat) : (refs F).take n = refs (F.take n) := by simp [refs, List.map_take]
theorem snds_take (F : List (Addr × List Int)) (n : Nat) : (snds F).take n = snds (F.take n) := by simp [snds, List.map_take]
theorem RL.take {K : PySem.W.Frag} {H : Hp} {S : Addr} {F : List (Addr × List Int)} {n : Nat} (h : SqL K H S ((refs F).take n)) (g : ∀ e ∈ F, SqL K H e.1 (e.2.map V.int)) : RL K H S (F.take n) :=
  ⟨by rw [← refs_take]; exact h, fun e m => g e (List.mem_of_mem_take m)⟩
section
variable {P : Program} {w : World} {K : PySem.W.Frag} {mg : Str → Option Value} {base : Heap} {a : Ad}
theorem sc_inverse : FnScope ["a", "number", "next_number", "factor", "next_factor", "quotient"] ["a"] (defScope s_inverse) := ⟨rfl, rfl, rfl, by decide +kernel, rfl, by decide +kernel, by decide +kernel⟩
theorem ok_inverse (T : Txt K mg a) : FnOk P w K mg base (L2.CX P w) 1 a.f_inverse a.d_inverse ["a"] (sp_inverse K a) := by
  refine T.F_inverse.okX sc_inverse (fun vs H Q E h => ?len) (fun cdv A outer s H vs Q E hr h => ?body)
  case len =>
    exact sp_inverse_len h
  case body =>
    obtain ⟨x, rfl, kE, kQ⟩ := h
    refine ⟨_, (pss_cons (ps_par (i := 1) (j := 2) (by rfl) sc_inverse.nd rfl rfl (by decide) rfl rfl (pa_cons (pe_const T.g_PRIME) (pa_cons (pe_op op_mod (pv 0) (pe_const T.g_PRIME)) pa_nil)) (by rfl))
      (pss_cons (ps_asg (pe_tup (pa_cons pe_int (pa_cons pe_int pa_nil))) (pg_tup rfl (pgs_cons (pg_name (i := 3) sc_inverse.nd rfl (Or.inl rfl)) (pgs_cons (pg_name (i := 4) sc_inverse.nd rfl (Or.inl rfl)) pgs_nil))))
      (pss_cons (ps_if (pt_cmpR op_eq (pv 2) pe_int (nomark _))
      (pss_one (ps_raise rfl (takes_of rfl rfl rfl rfl) (pmk_own PySem.F.excBase_ValueError T.x_InvalidArgument T.g_InvalidArgument T.k_InvalidArgument (raises_own T.b_InvalidArgument T.t_InvalidArgument) (by exact rfl))))
      pss_nil)
      (pss_cons (ps_while (passes_of rfl) (pt_cmpR op_ne (pv 2) pe_int (nomark _))
      (pss_cons (ps_set (i := 5) sc_inverse.nd rfl (Or.inl rfl) (pe_op op_fdiv (pv 1) (pv 2)))
      (pss_cons (ps_par (i := 1) (j := 2) (by rfl) sc_inverse.nd rfl rfl (by decide) rfl rfl (pa_cons (pv 2) (pa_cons (pe_op op_sub (pv 1) (pe_op op_mul (pv 5) (pv 2))) pa_nil)) (by rfl))
      (pss_one (ps_par (i := 3) (j := 4) (by rfl) sc_inverse.nd rfl rfl (by decide) rfl rfl (pa_cons (pv 4) (pa_cons (pe_op op_sub (pv 3) (pe_op op_mul (pv 5) (pv 4))) pa_nil)) (by rfl))))))
      (pss_one (ps_ret (pe_op op_mod (pv 3) (pe_const T.g_PRIME)))))))), ?_⟩
    have p1 := Int.emod_nonneg x (show (65521 : Int) ≠ 0 by decide)
    have p2 := Int.emod_lt_of_pos x (show (0 : Int) < 65521 by decide)
    refine ⟨_, rfl, _, _, rfl, rfl, (by show (0 : Int) < 65521; decide), _, _, rfl, (by show 2 ≤ sizeLine; decide), fun t ht => ?_⟩
    have sm : Same H (upd H t (.tup [V.int 0, V.int 1])) := fun b o z => by rw [upd_ne (ne_of_none z ht)]; exact z
    refine ⟨t, _, rfl, SqT.of upd_same, rfl, _, _, rfl, _, _, rfl, rfl, ?_⟩
    refine ⟨_, rfl, rfl, _, rfl, ?_⟩
    refine ite2 (fun e => ?_) (fun e => ?_)
    · have e0 : x % 65521 = 0 := V.int.inj (of_decide_eq_true e)
      exact kE e0 _ sm
    · have e0 : x % 65521 ≠ 0 := fun z => e (decide_eq_true (congrArg V.int z))
      refine ⟨fun m σ H' => ∃ (n r f g : Int) (u : Option V), σ = [some (.int x), some (.int n), some (.int r), some (.int f), some (.int g), u] ∧ Same H H' ∧ m = r.toNat ∧ 0 ≤ r ∧ r < n ∧ n ≤ 65521 ∧ (x * f - n) % 65521 = 0 ∧ (x * g - r) % 65521 = 0 ∧ Int.gcd n r = 1,
        ⟨_, _, _, _, _, _, rfl, sm, rfl, p1, p2, Int.le_refl _, by omega, by omega, gcd_q x e0⟩, ?_⟩
      rintro m σ H' ⟨n, r, f, g, u, rfl, sm', rfl, r0, rn, nq, h1, h2, hg⟩
      refine ⟨_, rfl, rfl, _, rfl, ?_⟩
      refine ite2 (fun er => ?_) (fun er => ?_)
      · have r1 : r ≠ 0 := fun z => by subst z; simp at er
        have rp : 0 < r := by omega
        have d0 : 0 ≤ n / r := Int.ediv_nonneg (by omega) r0
        have d1 : n / r ≤ 65521 := by
          have := Int.ediv_le_self r (show 0 ≤ n by omega)
          omega
        have rr : n - n / r * r = n % r := by
          have := Int.mul_ediv_add_emod n r
          rw [Int.mul_comm] at this
          omega
        have q1 := Int.emod_nonneg n r1
        have q2 := Int.emod_lt_of_pos n rp
        refine ⟨fun σ' H'' => ∃ m', m' < r.toNat ∧ _, fun _ _ z => z, ?_⟩
        refine ⟨_, rfl, _, rfl, _, _, rfl, rfl, ⟨rp, by omega⟩, ?_⟩
        refine ⟨_, rfl, _, rfl, _, rfl, _, rfl, _, _, rfl, rfl, .inl ⟨by omega, by omega⟩, _, _, rfl, rfl, _, _, rfl, ?_⟩
        refine ⟨_, rfl, _, rfl, _, rfl, _, rfl, _, _, rfl, rfl, .inl ⟨by omega, by omega⟩, _, _, rfl, rfl, _, _, rfl, ?_⟩
        exact ⟨(n - n / r * r).toNat, by omega, r, n - n / r * r, g, f - n / r * g, _, rfl, sm', rfl, by omega, by omega, by omega, h2, euclid_turn h1 h2, gcd_turn hg⟩
      · have r1 : r = 0 := by
          have := Classical.not_not.mp (fun z => er (by rw [decide_eq_false z]; rfl))
          exact V.int.inj this
        subst r1
        have n1 : n = 1 := by
          rw [Int.gcd_zero_right] at hg
          omega
        subst n1
        have z := invP_eq (euclid_end h1)
        refine ⟨_, rfl, _, _, rfl, rfl, (by show (0 : Int) < 65521; decide), ?_⟩
        show Q (.int (f % 65521)) H'
        rw [← z]
        exact kQ e0 _ sm'
theorem sc_weight : FnScope ["place", "others", "x", "above", "below", "other"] ["place", "others", "x"] (defScope s_weight) := ⟨rfl, rfl, rfl, by decide +kernel, rfl, by decide +kernel, by decide +kernel⟩
theorem ok_weight (T : Txt K mg a) : FnOk P w K mg base CX0 2 a.f_weight a.d_weight ["place", "others", "x"] (sp_weight K a) := by
  refine T.F_weight.ok sc_weight (fun vs H Q E h => ?len) (fun cdv A outer s H vs Q E hr h => ?body)
  case len =>
    exact sp_weight_len h
  case body =>
    obtain ⟨p, o, os, x, rfl, hO, hne, k⟩ := h
    refine ⟨_, (pss_cons (ps_asg (pe_tup (pa_cons pe_int (pa_cons pe_int pa_nil))) (pg_tup rfl (pgs_cons (pg_name (i := 3) sc_weight.nd rfl (Or.inl rfl)) (pgs_cons (pg_name (i := 4) sc_weight.nd rfl (Or.inl rfl)) pgs_nil))))
      (pss_cons (ps_for PassesOwn.never rfl (pi_list (pv 1)) (pg_name (i := 5) sc_weight.nd rfl (Or.inl rfl))
      (pss_cons (ps_set (i := 3) sc_weight.nd rfl (Or.inl rfl) (pe_op op_mod (pe_op op_mul (pv 3) (pe_op op_sub (pv 2) (pv 5))) (pe_const T.g_PRIME)))
      (pss_one (ps_set (i := 4) sc_weight.nd rfl (Or.inl rfl) (pe_op op_mod (pe_op op_mul (pv 4) (pe_op op_sub (pv 0) (pv 5))) (pe_const T.g_PRIME))))))
      (pss_one (ps_ret (pe_op op_mod (pe_op op_mul (pv 3) (pe_call (ok_inverse T) (hr.mono (by decide)) rfl T.g_inverse T.F_inverse.kp T.d_inverse .nil passL (pa_cons (pv 4) pa_nil))) (pe_const T.g_PRIME)))))), ?_⟩
    refine ⟨by show 2 ≤ sizeLine; decide, fun t ht => ?_⟩
    have sm : Same H (upd H t (.tup [V.int 1, V.int 1])) := Same.new ht
    refine ⟨t, _, rfl, SqT.of upd_same, rfl, _, _, rfl, _, _, rfl, rfl, ?_⟩
    refine ⟨_, rfl, o, rfl, ⟨_, sm.seq hO⟩, for_list (K := K) (a := o) (xs := os.map V.int) (fun i σ H' => ∃ v : Option V, σ = [some (.int p), some (.ref o), some (.int x), some (.int (prodM (os.take i) x 1)), some (.int (prodM (os.take i) p 1)), v] ∧ Same H H')
      ⟨none, rfl, sm⟩ (fun i σ H' _ ⟨_, _, s⟩ => s.seq hO) ?_ ?_⟩
    · rintro i y σ H' hi ⟨v, rfl, s'⟩
      obtain ⟨c, hc, rfl⟩ := int_item hi
      have b1 := prodM_word (os.take i) x 1 (by decide) (by decide)
      have b2 := prodM_word (os.take i) p 1 (by decide) (by decide)
      refine ⟨_, rfl, _, rfl, _, rfl, _, _, rfl, rfl, _, _, rfl, rfl, .inl ⟨by omega, by omega⟩, _, _, rfl, rfl, (by show (0 : Int) < 65521; decide), ?_⟩
      refine ⟨_, rfl, _, rfl, _, rfl, _, _, rfl, rfl, _, _, rfl, rfl, .inl ⟨by omega, by omega⟩, _, _, rfl, rfl, (by show (0 : Int) < 65521; decide), ?_⟩
      refine ⟨some (V.int c), ?_, s'⟩
      rw [take_snoc hc, prodM_snoc, prodM_snoc]
      rfl
    · rintro σ H' ⟨v, rfl, s'⟩
      have ea : os.take (os.map V.int).length = os := by rw [List.length_map, List.take_length]
      rw [ea]
      have b1 := prodM_word os x 1 (by decide) (by decide)
      refine ⟨_, rfl, _, rfl, _, rfl, fun z => absurd z hne, fun _ H2 s2 => ?_⟩
      refine ⟨_, _, rfl, rfl, .inl ⟨by omega, by omega⟩, _, _, rfl, rfl, (by show (0 : Int) < 65521; decide), ?_⟩
      exact k _ (s'.trans s2)
theorem sc_weights : FnScope ["places", "x", "at", "place"] ["places", "x"] (defScope s_weights) := ⟨rfl, rfl, rfl, by decide +kernel, rfl, by decide +kernel, by decide +kernel⟩
theorem ok_weights (T : Txt K mg a) : FnOk P w K mg base CX0 3 a.f_weights a.d_weights ["places", "x"] (sp_weights K a) := by
  refine T.F_weights.ok sc_weights (fun vs H Q E h => ?len) (fun cdv A outer s H vs Q E hr h => ?body)
  case len =>
    exact sp_weights_len h
  case body =>
    obtain ⟨l, ws, x, rfl, hW, hap, hlen, k⟩ := h
    refine ⟨_, (pss_one (ps_ret (pe_lc (own := [("at", 2), ("place", 3)]) (g := (gTup K 2 (gCons (gName 2) (gCons (gName 3) gNil)))) (by rfl) sc_weights.nd (pi_enum (by rfl) T.n_enumerate (pa_cons (pv 0) pa_nil)) (blkOk_by (own := [("at", 2), ("place", 3)]) (N := ["places", "x", "at", "place"]) (sc := defScope s_weights) (by decide +kernel))
      (fun _ _ _ _ _ => (pg_tup rfl (pgs_cons (pg_name (i := 2) sc_weights.nd rfl (Or.inl rfl)) (pgs_cons (pg_name (i := 3) sc_weights.nd rfl (Or.inl rfl)) pgs_nil)))) (fun _ _ _ _ _ => pts_nil) (fun _ _ _ _ _ => (pe_call (ok_weight T) (hr.mono (by decide)) rfl T.g_weight T.F_weight.kp T.d_weight .nil pass0 (pa_cons (pv 3) (pa_cons (pe_op op_cat (pe_slice (by exact sl_list : SlR _ (rSlL K)) (pv 0) po_none (po_some (pv 2))) (pe_slice (by exact sl_list : SlR _ (rSlL K)) (pv 0) (po_some (pe_op op_add (pv 2) pe_int)) po_none)) (pa_cons (pv 1) pa_nil)))))))), ?_⟩
    have hS : SqL K H l (ws.map V.int) := SqL.of hW
    refine ⟨_, rfl, l, _, rfl, hS, fun D new => lc_it walk_enum (fun i H' => Same H H' ∧ H' D = some (.lst (((weightsM ws x).take i).map V.int))) ⟨Same.new new, upd_same⟩ (fun i H' _ q => q.1.seq hS) ?_ ?_⟩
    · rintro i y H1 H2 hi ⟨s1, hD⟩ ⟨t, u, v, rfl, ht, rfl, hu, hv⟩
      cases hu
      obtain ⟨c, hc, rfl⟩ := int_item hv
      have s2 : Same H1 (upd H1 t (.tup [V.int (i : Nat), V.int c])) := Same.new ht
      have s3 := s1.trans s2
      have w3 := s3 _ _ hW
      refine ⟨t, _, rfl, SqT.of upd_same, rfl, _, _, rfl, _, _, rfl, rfl, ?_⟩
      refine ⟨rfl, _, rfl, _, rfl, _, rfl, _, rfl, l, _, rfl, SqL.of w3, fun p1 n1 => ?_⟩
      have s4 := Same.new (o := .lst (cutV (ws.map V.int) none (some ((i : Nat) : Int)))) n1
      refine ⟨_, rfl, _, rfl, _, _, rfl, rfl, _, rfl, l, _, rfl, SqL.of (s4 _ _ w3), fun p2 n2 => ?_⟩
      have s5 := Same.new (o := .lst (cutV (ws.map V.int) (some (((i : Nat) : Int) + 1)) none)) n2
      have q1 := s5 _ _ (upd_same (H := upd H1 t (.tup [V.int (i : Nat), V.int c])) (a := p1) (o := .lst (cutV (ws.map V.int) none (some ((i : Nat) : Int)))))
      refine ⟨p1, p2, _, _, rfl, rfl, q1, upd_same, ?_, fun p3 n3 => ?_⟩
      · have a1 := cutV_length (ws.map V.int) none (some ((i : Nat) : Int))
        have a2 := cutV_length (ws.map V.int) (some (((i : Nat) : Int) + 1)) none
        rw [List.length_map] at a1 a2
        exact Nat.le_of_lt (small _ (by omega))
      · have eo : cutV (ws.map V.int) none (some ((i : Nat) : Int)) ++ cutV (ws.map V.int) (some (((i : Nat) : Int) + 1)) none = (others ws i).map V.int := by
          rw [cut_take, show (((i : Nat) : Int) + 1) = ((i + 1 : Nat) : Int) from rfl, cut_drop]
          simp [others, List.map_append, List.map_take, List.map_drop]
        rw [eo]
        have s6 := Same.new (o := .lst ((others ws i).map V.int)) n3
        have hi' : i < ws.length := by simpa using hi
        have gc : ws.getD i 0 = c := getD_item hc
        have ok := wgt_ok (others_apart hap hi')
        rw [gc] at ok
        refine ⟨_, rfl, c, p3, others ws i, x, rfl, SqL.of upd_same, ok, fun H7 s7 => ?_⟩
        have s8 := (((s3.trans s4).trans s5).trans s6).trans s7
        have d8 := s7 _ _ (s6 _ _ (s5 _ _ (s4 _ _ (s2 _ _ hD))))
        refine ⟨_, d8, small _ (by simp; omega), fun b o e => ?_, ?_⟩
        · rw [upd_ne (ne_of_none e new)]
          exact s8 b o e
        · rw [upd_same, take_snoc (weightsM_get hi'), List.map_append, gc]
          rfl
    · rintro H' ⟨s', hD⟩
      rw [List.take_of_length_le (by rw [weightsM_length]; simp)] at hD
      exact k D H' s' new hD
theorem sc_check_lengths : FnScope ["pieces", "piece"] ["pieces"] (defScope s_check_lengths) := ⟨rfl, rfl, rfl, by decide +kernel, rfl, by decide +kernel, by decide +kernel⟩
theorem ok_check_lengths (T : Txt K mg a) : FnOk P w K mg base (L2.CX P w) 1 a.f_check_lengths a.d_check_lengths ["pieces"] (sp_check_lengths K a) := by
  refine T.F_check_lengths.okX sc_check_lengths (fun vs H Q E h => ?len) (fun cdv A outer s H vs Q E hr h => ?body)
  case len =>
    exact sp_check_lengths_len h
  case body =>
    obtain ⟨R, F, rfl, hR, kE, kQ⟩ := h
    refine ⟨_, (pss_one (ps_for (passes_of rfl) rfl (pi_list (pv 0)) (pg_name (i := 1) sc_check_lengths.nd rfl (Or.inl rfl))
      (pss_one (ps_if (pt_cmpR op_ne (pe_callB call_len_seq (by rfl) T.n_len PySem.boot_len (pa_cons (pv 1) pa_nil)) (pe_callB call_len_seq (by rfl) T.n_len PySem.boot_len (pa_cons (pe_ix ix_list (pv 0) pe_int (fun _ _ => rfl)) pa_nil)) (nomark _))
      (pss_one (ps_raise rfl (takes_of rfl rfl rfl rfl) (pmk_own PySem.F.excBase_ValueError T.x_InvalidArgument T.g_InvalidArgument T.k_InvalidArgument (raises_own T.b_InvalidArgument T.t_InvalidArgument) (by exact rfl))))
      pss_nil)))), ?_⟩
    refine ⟨_, rfl, R, rfl, ⟨_, hR.1⟩, for_list (K := K) (a := R) (xs := refs F) (fun i σ H' => ∃ v : Option V, σ = [some (.ref R), v] ∧ H' = H ∧ ∀ (j : Nat) (e : Addr × List Int), j < i → F[j]? = some e → e.2.length = ((snds F).getD 0 []).length)
      ⟨none, rfl, rfl, fun j e h => absurd h (by omega)⟩ (fun i σ H' _ ⟨_, _, e, _⟩ => by rw [e]; exact hR.1) ?_ ?_⟩
    · rintro i y σ H' hi ⟨v, rfl, rfl, hq⟩
      obtain ⟨e, he, rfl⟩ := refs_item hi
      have em := List.mem_of_getElem? he
      have lt0 : 0 < F.length := by have := item_lt he; omega
      have h0 : F[0]? = some F[0] := List.getElem?_eq_getElem lt0
      have m0 := List.mem_of_getElem? h0
      have g0 : ((snds F).getD 0 []) = F[0].2 := snds_get h0
      refine ⟨_, rfl, e.1, _, rfl, .inl (hR.2 e em), _, rfl, R, _, _, _, rfl, rfl, hR.1, at_of (j := 0) rfl (refs_get h0), F[0].1, _, rfl, .inl (hR.2 _ m0), rfl, _, rfl, ?_⟩
      rw [List.length_map, List.length_map]
      refine ite2 (fun q => ?_) (fun q => ?_)
      · refine kE ⟨e.2, List.mem_map.mpr ⟨e, em, rfl⟩, fun q' => ?_⟩ _ (Same.refl _)
        rw [g0] at q'
        rw [q'] at q
        simp at q
      · refine ⟨some (V.ref e.1), rfl, rfl, fun j e' hj hj' => ?_⟩
        by_cases c : j = i
        · subst c
          rw [he] at hj'
          have := Option.some.inj hj'
          subst this
          rw [g0]
          refine Classical.byContradiction fun ne => q ?_
          rw [decide_eq_false (fun z' => ne (by have := V.int.inj z'; omega))]
          rfl
        · exact hq j e' (by omega) hj'
    · rintro σ H' ⟨v, rfl, rfl, hq⟩
      rw [refs_len] at hq
      refine kQ (fun ⟨r, m, ne⟩ => ne ?_) _ (Same.refl _)
      obtain ⟨e, me, rfl⟩ := List.mem_map.mp m
      obtain ⟨j, hj⟩ := List.mem_iff_getElem?.mp me
      exact hq j e (item_lt hj) hj
theorem sc_piece_at : FnScope ["known", "places", "number", "factors", "column", "factor", "word"] ["known", "places", "number"] (defScope s_piece_at) := ⟨rfl, rfl, rfl, by decide +kernel, rfl, by decide +kernel, by decide +kernel⟩
theorem ok_piece_at (T : Txt K mg a) : FnOk P w K mg base CX0 4 a.f_piece_at a.d_piece_at ["known", "places", "number"] (sp_piece_at K a) := by
  refine T.F_piece_at.ok sc_piece_at (fun vs H Q E h => ?len) (fun cdv A outer s H vs Q E hr h => ?body)
  case len =>
    exact sp_piece_at_len h
  case body =>
    obtain ⟨R, P, F, ws, x, n, rfl, hR, hP, hap, hlen, hne, h8, hn, hrow, k⟩ := h
    refine ⟨_, (pss_cons (ps_set (i := 3) sc_piece_at.nd rfl (Or.inr rfl) (pe_call (ok_weights T) (hr.mono (by decide)) rfl T.g_weights T.F_weights.kp T.d_weights .nil pass0 (pa_cons (pv 1) (pa_cons (pv 2) pa_nil))))
      (pss_one (ps_ret (pe_lc (own := [("column", 4)]) (g := (gName 4)) (by rfl) sc_piece_at.nd (pi_zipS (by rfl) T.n_zip (pv 0)) (blkOk_by (own := [("column", 4)]) (N := ["known", "places", "number", "factors", "column", "factor", "word"]) (sc := defScope s_piece_at) (by decide +kernel))
      (fun _ _ _ _ _ => (pg_name (i := 4) sc_piece_at.nd rfl (Or.inl rfl))) (fun _ _ _ _ _ => pts_nil) (fun _ _ _ _ _ => (pe_op op_mod (pe_callB (by exact cr_sum rfl : CallR _ _ (rSum K)) (by rfl) T.n_sum (by decide +kernel) (pa_cons (pe_lc (own := [("factor", 5), ("word", 6)]) (g := (gTup K 2 (gCons (gName 5) (gCons (gName 6) gNil)))) (by rfl) sc_piece_at.nd (by exact pi_zipM (by rfl) T.n_zip (pa_cons (pv 3) (pa_cons (pv 4) pa_nil)) : PI _ _ _ (iZipM K _)) (blkOk_by (own := [("factor", 5), ("word", 6)]) (N := ["known", "places", "number", "factors", "column", "factor", "word"]) (by kernel_rfl))
      (fun _ _ _ _ _ => (pg_tup rfl (pgs_cons (pg_name (i := 5) sc_piece_at.nd rfl (Or.inl rfl)) (pgs_cons (pg_name (i := 6) sc_piece_at.nd rfl (Or.inl rfl)) pgs_nil)))) (fun _ _ _ _ _ => pts_nil) (fun _ _ _ _ _ => (pe_op op_mul (pv 5) (pv 6)))) pa_nil)) (pe_const T.g_PRIME))))))), ?_⟩
    refine ⟨_, rfl, _, rfl, P, ws, x, rfl, hP, hap, by omega, fun D1 H1 s1 n1 h1 => ?_⟩
    have R1 := hR.same s1
    have wl : (weightsM ws x).length = F.length := by rw [weightsM_length, hlen]
    have hr : (F.map (·.1)).map V.ref = refs F := by simp [refs]
    refine ⟨_, rfl, R, F.map (·.1), rfl, by rw [hr]; exact R1.1, by simpa using hne, by simpa using h8, fun l hl => ?_, ?_⟩
    · obtain ⟨e, me, rfl⟩ := List.mem_map.1 hl
      exact ⟨_, R1.2 e me⟩
    refine fun D new => lc_it (walk_cols hne hrow) (fun i H' => Same H1 H' ∧ H' D = some (.lst (((pieceM ws (snds F) x n).take i).map V.int))) ⟨Same.new new, upd_same⟩ (fun i H' _ q e m => q.1.seq (R1.2 e m)) ?_ ?_
    · rintro i y Ha Hb hi ⟨s2, hD⟩ ⟨T, rfl, hT, rfl⟩
      refine ⟨rfl, ?_⟩
      have s3 : Same Ha (upd Ha T (.tup (((snds F).map fun r => r.getD i 0).map V.int))) := Same.new hT
      have d1 := s3 _ _ (s2 _ _ h1)
      have cl : ((snds F).map fun r => r.getD i 0).length = F.length := by simp [snds]
      refine ⟨_, rfl, _, rfl, D1, T, _, _, rfl, SqL.of d1, SqT.of upd_same, fun G nG => lc_it (walk_zipM (n := F.length) (by rw [List.length_map]; exact wl) (by rw [List.length_map]; exact cl)) (fun j H' => Same (upd Ha T (.tup (((snds F).map fun r => r.getD i 0).map V.int))) H' ∧ H' G = some (.lst (((List.range j).map fun j => (weightsM ws x).getD j 0 * ((snds F).map fun r => r.getD i 0).getD j 0).map V.int)))
        ⟨Same.new nG, upd_same⟩ (fun i H' _ q => ⟨q.1.seq (SqL.of d1), q.1.tup (SqT.of upd_same)⟩) ?_ ?_⟩
      · rintro j y Hc Hd hj ⟨s4, hG⟩ ⟨t, u, v, rfl, ht, rfl, hu, hv⟩
        obtain ⟨c, hc, rfl⟩ := int_item hu
        obtain ⟨d, hd, rfl⟩ := int_item hv
        have s5 : Same Hc (upd Hc t (.tup [V.int c, V.int d])) := Same.new ht
        refine ⟨t, _, rfl, SqT.of upd_same, rfl, _, _, rfl, _, _, rfl, rfl, ?_⟩
        have wc : 0 ≤ c ∧ c < 65521 := by
          have e1 := weightsM_get (x := x) (ws := ws) (i := j) (by omega)
          rw [hc] at e1
          rw [Option.some.inj e1]
          exact wgt_word _ _ _
        refine ⟨rfl, _, rfl, _, rfl, _, _, rfl, rfl, .inl ⟨by omega, by omega⟩, _, s5 _ _ hG, small _ (by simp; omega), fun b o e => ?_, ?_⟩
        · rw [upd_ne (ne_of_none e nG)]
          exact s5 _ _ (s4 b o e)
        · rw [upd_same, List.range_succ, List.map_append, List.map_append]
          have e1 : (weightsM ws x).getD j 0 = c := getD_item hc
          have e2 : ((snds F).map fun r => r.getD i 0).getD j 0 = d := getD_item hd
          show some (HO.lst (_ ++ [V.int (c * d)])) = some (HO.lst (_ ++ [V.int ((weightsM ws x).getD j 0 * ((snds F).map fun r => r.getD i 0).getD j 0)]))
          rw [e1, e2]
      · rintro H3 ⟨s4, hG⟩
        refine ⟨G, _, rfl, SqL.of hG, _, _, rfl, rfl, (by show (0 : Int) < 65521; decide), ?_⟩
        have e : ((List.range F.length).map fun j => (weightsM ws x).getD j 0 * ((snds F).map fun r => r.getD i 0).getD j 0).sum % 65521 = valM ws ((snds F).map fun r => r.getD i 0) x := by
          unfold valM dotR
          rw [wl]
        have g : (pieceM ws (snds F) x n)[i]? = some (valM ws ((snds F).map fun r => r.getD i 0) x) := by simp [pieceM, hi]
        refine ⟨_, s4 _ _ (s3 _ _ hD), small _ (by simp [pieceM]; omega), fun b o e' => ?_, ?_⟩
        · rw [upd_ne (ne_of_none e' new)]
          exact s4 _ _ (s3 _ _ (s2 b o e'))
        · rw [upd_same, take_snoc g, List.map_append]
          show some (HO.lst (_ ++ [V.int (((List.range F.length).map fun j => (weightsM ws x).getD j 0 * ((snds F).map fun r => r.getD i 0).getD j 0).sum % 65521)])) = _
          rw [e]
          rfl
    · rintro H' ⟨s2, hD⟩
      have e : (pieceM ws (snds F) x n).take n = pieceM ws (snds F) x n := List.take_of_length_le (by simp [pieceM])
      rw [e] at hD
      exact k D H' (s1.trans s2) (Classical.byContradiction fun q => by cases q' : H D with | none => exact q q' | some o => exact absurd (s1 _ _ q') (by rw [new]; exact fun z => nomatch z)) hD
theorem sc_encode : FnScope ["pieces", "parity", "data", "places", "number"] ["pieces", "parity"] (defScope s_encode) := ⟨rfl, rfl, rfl, by decide +kernel, rfl, by decide +kernel, by decide +kernel⟩
theorem ok_encode (T : Txt K mg a) : FnOk P w K mg base (L2.CX P w) 5 a.f_encode a.d_encode ["pieces", "parity"] (sp_encode K a) := by
  refine T.F_encode.okX sc_encode (fun vs H Q E h => ?len) (fun cdv A outer s H vs Q E hr h => ?body)
  case len =>
    exact sp_encode_len h
  case body =>
    obtain ⟨R, F, par, rfl, hR, h20, h500, p0, p5, kE, kQ⟩ := h
    refine ⟨_, (pss_cons (ps_set (i := 2) sc_encode.nd rfl (Or.inl rfl) (pe_callB call_len_seq (by rfl) T.n_len PySem.boot_len (pa_cons (pv 0) pa_nil)))
      (pss_cons (ps_if (pt_cmpR op_eq (pv 2) pe_int (nomark _))
      (pss_one (ps_raise rfl (takes_of rfl rfl rfl rfl) (pmk_own PySem.F.excBase_ValueError T.x_InvalidArgument T.g_InvalidArgument T.k_InvalidArgument (raises_own T.b_InvalidArgument T.t_InvalidArgument) (by exact rfl))))
      pss_nil)
      (pss_cons (ps_if (pt_cmpR op_lt (pv 1) pe_int (nomark _))
      (pss_one (ps_raise rfl (takes_of rfl rfl rfl rfl) (pmk_own PySem.F.excBase_ValueError T.x_InvalidArgument T.g_InvalidArgument T.k_InvalidArgument (raises_own T.b_InvalidArgument T.t_InvalidArgument) (by exact rfl))))
      pss_nil)
      (pss_cons (ps_if (pt_cmpR op_gt (pe_op op_add (pv 2) (pv 1)) (pe_const T.g_MAX_PIECES) (nomark _))
      (pss_one (ps_raise rfl (takes_of rfl rfl rfl rfl) (pmk_own PySem.F.excBase_ValueError T.x_InvalidArgument T.g_InvalidArgument T.k_InvalidArgument (raises_own T.b_InvalidArgument T.t_InvalidArgument) (by exact rfl))))
      pss_nil)
      (pss_cons (ps_expr (pe_call (ok_check_lengths T) (hr.mono (by decide)) rfl T.g_check_lengths T.F_check_lengths.kp T.d_check_lengths .nil (passes_call (takes_of rfl rfl rfl rfl) (fun _ _ _ _ z => z)) (pa_cons (pv 0) pa_nil)))
      (pss_cons (ps_set (i := 3) sc_encode.nd rfl (Or.inr rfl) (pe_listRg (by rfl) (by rfl) T.n_list (prg_1 (by rfl) T.n_range (pv 2))))
      (pss_one (ps_ret (pe_lc (own := [("number", 4)]) (g := (gName 4)) (by rfl) sc_encode.nd (pi_range2 (by rfl) T.n_range (pa_cons (pv 2) (pa_cons (pe_op op_add (pv 2) (pv 1)) pa_nil))) (blkOk_by (own := [("number", 4)]) (N := ["pieces", "parity", "data", "places", "number"]) (sc := defScope s_encode) (by decide +kernel))
      (fun _ _ _ _ _ => (pg_name (i := 4) sc_encode.nd rfl (Or.inl rfl))) (fun _ _ _ _ _ => pts_nil) (fun _ _ _ _ _ => (pe_call (ok_piece_at T) (hr.mono (by decide)) rfl T.g_piece_at T.F_piece_at.kp T.d_piece_at .nil pass0 (pa_cons (pv 0) (pa_cons (pv 3) (pa_cons (pv 4) pa_nil)))))))))))))), ?_⟩
    refine ⟨_, rfl, R, _, rfl, .inl hR.1, ?_⟩
    rw [refs_len]
    refine ⟨_, rfl, rfl, _, rfl, ?_⟩
    refine ite2 (fun q => kE (.inl (by have := V.int.inj (of_decide_eq_true q); exact List.length_eq_zero_iff.mp (by rw [snds_len]; omega))) _ (Same.refl _)) (fun q0 => ?_)
    have f0 : 0 < F.length := Nat.pos_of_ne_zero fun z => q0 (decide_eq_true (by rw [z]; rfl))
    refine ⟨_, rfl, _, _, rfl, rfl, _, rfl, ?_⟩
    refine ite2 (fun q => kE (.inr (.inl (of_decide_eq_true q))) _ (Same.refl _)) (fun q1 => ?_)
    have p1 : 0 ≤ par := Int.not_lt.mp fun z => q1 (decide_eq_true z)
    refine ⟨_, rfl, _, rfl, _, _, rfl, rfl, _, _, rfl, rfl, _, rfl, ?_⟩
    refine ite2 (fun q => kE (.inr (.inr (.inl (by rw [snds_len]; have := of_decide_eq_true q; omega)))) _ (Same.refl _)) (fun q2 => ?_)
    have p2 : (F.length : Int) + par ≤ 8 := Int.not_lt.mp fun z => q2 (decide_eq_true z)
    refine ⟨_, rfl, R, F, rfl, hR, fun b => kE (.inr (.inr (.inr b))), fun nb H1 s1 => ?_⟩
    have ne : F ≠ [] := fun z => by rw [z] at f0; exact absurd f0 (by decide)
    have nbad : ¬ BadEnc (snds F) par := fun b => by
      rcases b with b | b | b | b
      · exact ne (List.map_eq_nil_iff.mp b)
      · omega
      · rw [snds_len] at b; omega
      · exact nb b
    have rows : ∀ e ∈ F, e.2.length = ((snds F).getD 0 []).length := fun e m => Classical.byContradiction fun z => nb ⟨e.2, List.mem_map.mpr ⟨e, m, rfl⟩, z⟩
    obtain ⟨pn, rfl⟩ : ∃ n : Nat, par = (n : Int) := ⟨par.toNat, by omega⟩
    refine ⟨_, rfl, _, rfl, RgOk.of_le (by omega) (by omega) (by omega) (by omega), fun P nP => ?_⟩
    have eP : rgV 0 (F.length : Int) = (upto F.length).map V.int := by simp [rgV, upto]
    rw [eP]
    have sP := Same.new (o := .lst ((upto F.length).map V.int)) nP
    have s2 := s1.trans sP
    refine ⟨_, rfl, _, rfl, _, rfl, _, _, rfl, rfl, _, _, rfl, ⟨by omega, by omega, by omega, by omega⟩, fun D nD => ?_⟩
    have en : ((F.length : Int) + (pn : Int) - (F.length : Int)).toNat = pn := by omega
    rw [en]
    have RP := hR.same s2
    refine lc_it walk_range (fun i H' => ∃ G : List (Addr × List Int), Same (upd H1 P (.lst ((upto F.length).map V.int))) H' ∧ LA H' D G ∧ snds G = (List.range i).map (fun k => pieceM (upto F.length) (snds F) ((F.length + k : Nat) : Int) ((snds F).getD 0 []).length))
      ⟨[], Same.new nD, ⟨upd_same, fun _ m => nomatch m⟩, rfl⟩ (fun _ _ _ _ => True.intro) ?_ ?_
    · rintro i y H3 H4 hi ⟨G, s3, LG, eG⟩ ⟨rfl, rfl⟩
      refine ⟨rfl, _, rfl, _, rfl, _, rfl, R, P, F, upto F.length, ((F.length + i : Nat) : Int), ((snds F).getD 0 []).length, rfl, RP.same s3, s3 _ _ upd_same, upto_apart (by omega), upto_len _, ne, by omega, h500, rows, fun D2 H5 s4 n2 h2 => ?_⟩
      have L5 := LG.same s4
      have nD2 : D2 ≠ D := (ne_of_none LG.1 n2).symm
      have gl : G.length = i := by rw [← snds_len, eG]; simp
      refine ⟨_, L5.1, small _ (by rw [refs_len]; omega), ?_⟩
      have e : refs G ++ [V.ref D2] = refs (G ++ [(D2, pieceM (upto F.length) (snds F) ((F.length + i : Nat) : Int) ((snds F).getD 0 []).length)]) := by unfold refs; rw [List.map_append]; rfl
      rw [e]
      refine ⟨_, fun b o e' => ?_, LA.put fun e' me => ?_, ?_⟩
      · rw [upd_ne (ne_of_none e' nD)]
        exact s4 _ _ (s3 b o e')
      · rcases List.mem_append.mp me with me | me
        · exact L5.2 e' me
        · have : e' = (D2, pieceM (upto F.length) (snds F) ((F.length + i : Nat) : Int) ((snds F).getD 0 []).length) := by simpa using me
          subst this
          exact ⟨h2, nD2⟩
      · rw [snds, List.map_append, List.range_succ, List.map_append]
        show snds G ++ _ = _
        rw [eG]
        rfl
    · rintro H3 ⟨G, s3, LG, eG⟩
      refine kQ nbad D G H3 (s2.trans s3) ?_ LG (by rw [Int.toNat_natCast]; exact eG)
      exact Classical.byContradiction fun q => by
        cases q' : H D with
        | none => exact q q'
        | some o => exact absurd (s2 _ _ q') (by rw [nD]; exact fun z => nomatch z)
theorem sc_law_pot : FnScope ["script", "seed", "cell"] ["script"] (defScope s_law_pot) := ⟨rfl, rfl, rfl, by decide +kernel, rfl, by decide +kernel, by decide +kernel⟩
theorem ok_law_pot (T : Txt K mg a) : FnOk P w K mg base CX0 1 a.f_law_pot a.d_law_pot ["script"] (sp_law_pot K a) := by
  refine T.F_law_pot.ok sc_law_pot (fun vs H Q E h => ?len) (fun cdv A outer s H vs Q E hr h => ?body)
  case len =>
    exact sp_law_pot_len h
  case body =>
    obtain ⟨s, ns, rfl, hS, hlen, k⟩ := h
    refine ⟨_, (pss_cons (ps_set (i := 1) sc_law_pot.nd rfl (Or.inl rfl) pe_int)
      (pss_cons (ps_for PassesOwn.never rfl (pi_list (pv 0)) (pg_name (i := 2) sc_law_pot.nd rfl (Or.inl rfl))
      (pss_one (ps_set (i := 1) sc_law_pot.nd rfl (Or.inl rfl) (pe_op op_mod (pe_callTy call_int1 (by rfl) T.n_int (by decide +kernel) (pa_cons (pe_op op_add (pe_op op_mul (pv 1) pe_int) (pv 2)) pa_nil)) pe_int))))
      (pss_one (ps_ret (pe_lst (pa_cons (pe_callTy call_list_of (by rfl) T.n_list (by decide +kernel) (pa_cons (pv 0) pa_nil)) (pa_cons pe_int (pa_cons pe_int (pa_cons (pv 1) pa_nil))))))))), ?_⟩
    refine ⟨_, rfl, s, rfl, ⟨_, hS⟩, for_list (K := K) (a := s) (xs := ns.map V.int) (fun i σ H' => ∃ (z : Int) (v : Option V), σ = [some (.ref s), some (.int z), v] ∧ 0 ≤ z ∧ z < 2147483647 ∧ H' = H)
      ⟨1, none, rfl, by decide, by decide, rfl⟩ (fun i σ H' _ ⟨_, _, _, _, _, e⟩ => by rw [e]; exact hS) ?_ ?_⟩
    · rintro i y σ H' hi ⟨z, v, rfl, z0, z1, rfl⟩
      obtain ⟨c, hc, rfl⟩ := int_item hi
      refine ⟨_, rfl, _, _, rfl, rfl, .inl ⟨by omega, by omega⟩, _, rfl, _, _, rfl, rfl, .inl ⟨_, rfl, _, _, rfl, rfl, (by show (0 : Int) < 2147483647; decide), ?_⟩⟩
      exact ⟨_, _, rfl, Int.emod_nonneg _ (by decide), Int.emod_lt_of_pos _ (by decide), rfl⟩
    · rintro σ H' ⟨z, v, rfl, z0, z1, rfl⟩
      refine ⟨_, rfl, s, _, rfl, .inl hS, fun l hl => ?_⟩
      refine ⟨_, rfl, (by show 4 ≤ sizeLine; decide), fun p hp => ?_⟩
      have npl : l ≠ p := fun e => by subst e; rw [upd_same] at hp; cases hp
      have hp0 : H' p = none := by rw [upd_ne npl.symm] at hp; exact hp
      refine k p l _ hp0 hl (fun b o e => ?_) ⟨ns, 0, 0, z, upd_same, by rw [upd_ne npl, upd_same], by decide, by decide, z0, z1⟩
      rw [upd_ne (ne_of_none e hp0), upd_ne (ne_of_none e hl)]
      exact e
theorem sc_law_next : FnScope ["pot", "limit", "cell", "found", "mixed"] ["pot", "limit"] (defScope s_law_next) := ⟨rfl, rfl, rfl, by decide +kernel, rfl, by decide +kernel, by decide +kernel⟩
theorem ok_law_next (T : Txt K mg a) : FnOk P w K mg base CX0 1 a.f_law_next a.d_law_next ["pot", "limit"] (sp_law_next K a) := by
  refine T.F_law_next.ok sc_law_next (fun vs H Q E h => ?len) (fun cdv A outer s H vs Q E hr h => ?body)
  case len =>
    exact sp_law_next_len h
  case body =>
    obtain ⟨p, l, m, rfl, hP, m0, m1, k⟩ := h
    obtain ⟨ns, i, acc, seed, h1, h2, i0, acc0, s0, s1⟩ := id hP
    have nlp := hP.ne
    have mod0 : ∀ x : Int, 0 ≤ x % m := fun x => Int.emod_nonneg _ (by omega)
    have mod1 : ∀ x : Int, x % m < m := fun x => Int.emod_lt_of_pos _ m0
    refine ⟨_, (Evl.pss_cut (ps_if (PW.pt (pw_and (pt_cmpR op_eq (pe_ix ix_list (pv 0) pe_int (fun _ _ => rfl)) pe_int (nomark _)) (pw_and1 (pt_cmpR op_lt (pe_ix ix_list (pv 0) pe_int (fun _ _ => rfl)) (pe_callB call_len_seq (by rfl) T.n_len PySem.boot_len (pa_cons (pe_ix ix_list (pv 0) pe_int (fun _ _ => rfl)) pa_nil)) (nomark _)))))
      (pss_cons (ps_set (i := 2) sc_law_next.nd rfl (Or.inl rfl) (pe_callB call_abs (by rfl) T.n_abs (by decide +kernel) (pa_cons (pe_callTy call_int1 (by rfl) T.n_int (by decide +kernel) (pa_cons (pe_ix ix_list (pe_ix ix_list (pv 0) pe_int (fun _ _ => rfl)) (pe_ix ix_list (pv 0) pe_int (fun _ _ => rfl)) (fun _ _ => rfl)) pa_nil)) pa_nil)))
      (pss_cons (ps_asg (pe_op op_add (pe_ix ix_list (pv 0) pe_int (fun _ _ => rfl)) pe_int) (pg_sub (pv 0) pe_int set_list))
      (pss_cons (ps_if (pt_cmpR op_lt (pv 2) (pe_op op_pow pe_int pe_int) (nomark _))
      (pss_one (ps_ret (pe_op op_mod (pe_callTy call_int1 (by rfl) T.n_int (by decide +kernel) (pa_cons (pv 2) pa_nil)) (pv 1))))
      pss_nil)
      (pss_one (ps_asg (pv 2) (pg_sub (pv 0) pe_int set_list))))))
      pss_nil)
      (pss_cons (ps_if (pt_cmpR op_gt (pe_ix ix_list (pv 0) pe_int (fun _ _ => rfl)) pe_int (nomark _))
      (pss_cons (ps_set (i := 3) sc_law_next.nd rfl (Or.inl rfl) (pe_op op_mod (pe_callTy call_int1 (by rfl) T.n_int (by decide +kernel) (pa_cons (pe_ix ix_list (pv 0) pe_int (fun _ _ => rfl)) pa_nil)) (pv 1)))
      (pss_cons (ps_asg (pe_op op_fdiv (pe_ix ix_list (pv 0) pe_int (fun _ _ => rfl)) (pv 1)) (pg_sub (pv 0) pe_int set_list))
      (pss_one (ps_ret (pv 3)))))
      pss_nil)
      (pss_cons (ps_asg (pe_op op_mod (pe_callTy call_int1 (by rfl) T.n_int (by decide +kernel) (pa_cons (pe_op op_add (pe_op op_mul (pe_ix ix_list (pv 0) pe_int (fun _ _ => rfl)) pe_int) pe_int) pa_nil)) pe_int) (pg_sub (pv 0) pe_int set_list))
      (pss_cons (ps_set (i := 4) sc_law_next.nd rfl (Or.inl rfl) (pe_op op_mod (pe_callTy call_int1 (by rfl) T.n_int (by decide +kernel) (pa_cons (pe_op op_add (pe_op op_mul (pe_ix ix_list (pv 0) pe_int (fun _ _ => rfl)) pe_int) (pe_op op_fdiv (pe_ix ix_list (pv 0) pe_int (fun _ _ => rfl)) pe_int)) pa_nil)) pe_int))
      (pss_one (ps_ret (pe_op op_mod (pe_callTy call_int1 (by rfl) T.n_int (by decide +kernel) (pa_cons (pv 4) pa_nil)) (pv 1)))))))), ?_⟩
    refine ⟨fun σ H' => ∃ (u : Option V) (i' acc' : Int), σ = [some (.ref p), some (.int m), u, none, none] ∧ H' p = some (.lst [.ref l, .int i', .int acc', .int seed]) ∧ 0 ≤ i' ∧ 0 ≤ acc' ∧ Only p H H', ?_, ?_⟩
    · -- if pot[2] == 0 and pot[1] < len(pot[0])
      refine ⟨_, rfl, p, _, _, _, rfl, rfl, SqL.of h1, at_of (j := 2) rfl rfl, rfl, _, rfl, ?_⟩
      refine ite2 (fun e2 => ?_) (fun e2 => iteF ⟨none, i, acc, rfl, h1, i0, acc0, Only.refl⟩)
      refine ⟨_, rfl, p, _, _, _, rfl, rfl, SqL.of h1, at_of (j := 1) rfl rfl, _, rfl, p, _, _, _, rfl, rfl, SqL.of h1, at_of (j := 0) rfl rfl, l, _, rfl, .inl (SqL.of h2), _, _, rfl, rfl, _, rfl, ?_⟩
      refine ite2 (fun e3 => ?_) (fun e3 => ⟨none, i, acc, rfl, h1, i0, acc0, Only.refl⟩)
      have i1 : i < (ns.length : Int) := by
        have := of_decide_eq_true e3
        rw [List.length_map] at this
        exact this
      obtain ⟨j, rfl⟩ : ∃ j : Nat, i = (j : Int) := ⟨i.toNat, by omega⟩
      have hj : j < ns.length := by omega
      have hit : (ns.map V.int)[j]? = some (V.int ns[j]) := by rw [List.getElem?_map, List.getElem?_eq_getElem hj]; rfl
      -- cell = abs(int(pot[0][pot[1]])); pot[1] = pot[1] + 1
      refine ⟨_, rfl, p, _, _, _, rfl, rfl, SqL.of h1, at_of (j := 0) rfl rfl, _, rfl, p, _, _, _, rfl, rfl, SqL.of h1, at_of (j := 1) rfl rfl, l, _, _, _, rfl, rfl, SqL.of h2, at_of (j := j) rfl hit, .inl ⟨_, rfl, _, rfl, ?_⟩⟩
      have abs0 : 0 ≤ (if ns[j] < 0 then -ns[j] else ns[j]) := by split <;> omega
      generalize (if ns[j] < 0 then -ns[j] else ns[j]) = c at abs0 ⊢
      refine ⟨_, rfl, p, _, _, _, rfl, rfl, SqL.of h1, at_of (j := 1) rfl rfl, _, _, rfl, rfl, _, rfl, p, _, _, 1, rfl, rfl, h1, rfl, ?_⟩
      have g1 : upd H p (.lst (List.set [V.ref l, V.int (j : Int), V.int acc, V.int seed] 1 (V.int ((j : Int) + 1)))) p = some (.lst [.ref l, .int ((j : Int) + 1), .int acc, .int seed]) := upd_same
      -- if cell < 10 ** 18: return int(cell) % limit
      refine ⟨_, rfl, _, _, rfl, rfl, ⟨by decide, by decide, by decide⟩, _, _, rfl, rfl, _, rfl, ?_⟩
      refine ite2 (fun e4 => ?_) (fun e4 => ?_)
      · refine ⟨_, rfl, .inl ⟨_, rfl, _, rfl, _, _, rfl, rfl, m0, ?_⟩⟩
        exact k _ _ (mod0 _) (mod1 _) ⟨ns, _, _, _, g1, by rw [upd_ne nlp]; exact h2, by omega, acc0, s0, s1⟩ Only.upd
      · -- pot[2] = cell
        refine ⟨_, rfl, _, rfl, p, _, _, 2, rfl, rfl, g1, rfl, ?_⟩
        exact ⟨_, (j : Int) + 1, c, rfl, upd_same, by omega, abs0, Only.upd.trans Only.upd⟩
    · rintro σ H' ⟨u, i', acc', rfl, g1, i0', acc0', oH⟩
      have g2 : H' l = some (.lst (ns.map V.int)) := by rw [oH _ nlp]; exact h2
      -- if pot[2] > 0
      refine ⟨_, rfl, p, _, _, _, rfl, rfl, SqL.of g1, at_of (j := 2) rfl rfl, _, _, rfl, rfl, _, rfl, ?_⟩
      refine ite2 (fun e2 => ?_) (fun e2 => ?_)
      · refine ⟨_, rfl, p, _, _, _, rfl, rfl, SqL.of g1, at_of (j := 2) rfl rfl, .inl ⟨_, rfl, _, rfl, _, _, rfl, rfl, m0, ?_⟩⟩
        refine ⟨_, rfl, p, _, _, _, rfl, rfl, SqL.of g1, at_of (j := 2) rfl rfl, _, rfl, _, _, rfl, rfl, ⟨m0, m1⟩, _, rfl, p, _, _, 2, rfl, rfl, g1, rfl, ?_⟩
        refine ⟨_, rfl, ?_⟩
        exact k _ _ (mod0 _) (mod1 _) ⟨ns, i', acc' / m, seed, upd_same, by rw [upd_ne nlp]; exact g2, i0', Int.ediv_nonneg acc0' (by omega), s0, s1⟩ (oH.trans Only.upd)
      · -- pot[3] = int(pot[3] * 48271 + 12345) % 2147483647
        refine ⟨_, rfl, p, _, _, _, rfl, rfl, SqL.of g1, at_of (j := 3) rfl rfl, _, _, rfl, rfl, .inl ⟨by omega, by omega⟩, _, _, rfl, rfl, .inl ⟨_, rfl, _, _, rfl, rfl, (by show (0 : Int) < 2147483647; decide), ?_⟩⟩
        have t0 := Int.emod_nonneg (seed * 48271 + 12345) (show (2147483647 : Int) ≠ 0 by decide)
        have t1 := Int.emod_lt_of_pos (seed * 48271 + 12345) (show (0 : Int) < 2147483647 by decide)
        refine ⟨_, rfl, p, _, _, 3, rfl, rfl, g1, rfl, ?_⟩
        have g3 : upd H' p (.lst (List.set [V.ref l, V.int i', V.int acc', V.int seed] 3 (V.int ((seed * 48271 + 12345) % 2147483647)))) p = some (.lst [.ref l, .int i', .int acc', .int ((seed * 48271 + 12345) % 2147483647)]) := upd_same
        refine ⟨_, rfl, p, _, _, _, rfl, rfl, SqL.of g3, at_of (j := 3) rfl rfl, _, _, rfl, rfl, .inl ⟨by omega, by omega⟩, _, rfl, p, _, _, _, rfl, rfl, SqL.of g3, at_of (j := 3) rfl rfl, _, _, rfl, rfl, ⟨by decide, by decide⟩, _, _, rfl, rfl, .inl ⟨_, rfl, _, _, rfl, rfl, (by show (0 : Int) < 2147483629; decide), ?_⟩⟩
        refine ⟨_, rfl, .inl ⟨_, rfl, _, rfl, _, _, rfl, rfl, m0, ?_⟩⟩
        exact k _ _ (mod0 _) (mod1 _) ⟨ns, _, _, _, g3, by rw [upd_ne nlp]; exact g2, i0', acc0', t0, t1⟩ (oH.trans Only.upd)
theorem sc_law_word : FnScope ["pot", "kind"] ["pot"] (defScope s_law_word) := ⟨rfl, rfl, rfl, by decide +kernel, rfl, by decide +kernel, by decide +kernel⟩
theorem ok_law_word (T : Txt K mg a) : FnOk P w K mg base CX0 2 a.f_law_word a.d_law_word ["pot"] (sp_law_word K a) := by
  refine T.F_law_word.ok sc_law_word (fun vs H Q E h => ?len) (fun cdv A outer s H vs Q E hr h => ?body)
  case len =>
    exact sp_law_word_len h
  case body =>
    obtain ⟨p, l, rfl, hP, k⟩ := h
    refine ⟨_, (pss_cons (ps_set (i := 1) sc_law_word.nd rfl (Or.inl rfl) (pe_call (ok_law_next T) (hr.mono (by decide)) rfl T.g_law_next T.F_law_next.kp T.d_law_next .nil pass0 (pa_cons (pv 0) (pa_cons pe_int pa_nil))))
      (pss_cons (ps_if (pt_cmpR op_eq (pv 1) pe_int (nomark _))
      (pss_one (ps_ret pe_int))
      pss_nil)
      (pss_cons (ps_if (pt_cmpR op_eq (pv 1) pe_int (nomark _))
      (pss_one (ps_ret (pe_op op_sub pe_int (pe_call (ok_law_next T) (hr.mono (by decide)) rfl T.g_law_next T.F_law_next.kp T.d_law_next .nil pass0 (pa_cons (pv 0) (pa_cons pe_int pa_nil))))))
      pss_nil)
      (pss_cons (ps_if (pt_cmpR op_lt (pv 1) pe_int (nomark _))
      (pss_one (ps_ret (pe_call (ok_law_next T) (hr.mono (by decide)) rfl T.g_law_next T.F_law_next.kp T.d_law_next .nil pass0 (pa_cons (pv 0) (pa_cons pe_int pa_nil)))))
      pss_nil)
      (pss_one (ps_ret (pe_call (ok_law_next T) (hr.mono (by decide)) rfl T.g_law_next T.F_law_next.kp T.d_law_next .nil pass0 (pa_cons (pv 0) (pa_cons pe_int pa_nil))))))))), ?_⟩
    refine ⟨_, rfl, p, l, 8, rfl, hP, by decide, by decide, fun c H1 c0 c1 P1 o1 => ?_⟩
    refine ⟨_, rfl, rfl, _, rfl, ?_⟩
    refine ite2 (fun _ => k _ _ ⟨by decide, by decide⟩ P1 o1) (fun _ => ?_)
    refine ⟨_, rfl, rfl, _, rfl, ?_⟩
    refine ite2 (fun _ => ?_) (fun _ => ?_)
    · exact ⟨_, rfl, p, l, 3, rfl, P1, by decide, by decide, fun v H2 v0 v1 P2 o2 => ⟨_, _, rfl, rfl, k _ _ ⟨by omega, by omega⟩ P2 (o1.trans o2)⟩⟩
    · refine ⟨_, rfl, _, _, rfl, rfl, _, rfl, ?_⟩
      refine ite2 (fun _ => ?_) (fun _ => ?_)
      · exact ⟨_, rfl, p, l, 9, rfl, P1, by decide, by decide, fun v H2 v0 v1 P2 o2 => k _ _ ⟨by omega, by omega⟩ P2 (o1.trans o2)⟩
      · exact ⟨_, rfl, p, l, 65521, rfl, P1, by decide, by decide, fun v H2 v0 v1 P2 o2 => k _ _ ⟨by omega, by omega⟩ P2 (o1.trans o2)⟩
theorem sc_law_words : FnScope ["pot", "count", "k"] ["pot", "count"] (defScope s_law_words) := ⟨rfl, rfl, rfl, by decide +kernel, rfl, by decide +kernel, by decide +kernel⟩
theorem ok_law_words (T : Txt K mg a) : FnOk P w K mg base CX0 3 a.f_law_words a.d_law_words ["pot", "count"] (sp_law_words K a) := by
  refine T.F_law_words.ok sc_law_words (fun vs H Q E h => ?len) (fun cdv A outer s H vs Q E hr h => ?body)
  case len =>
    exact sp_law_words_len h
  case body =>
    obtain ⟨p, l, n, rfl, hP, n0, n5, k⟩ := h
    refine ⟨_, (pss_one (ps_ret (pe_lc (own := [("k", 2)]) (g := (gName 2)) (by rfl) sc_law_words.nd (pi_range1 (by rfl) T.n_range (pa_cons (pv 1) pa_nil)) (blkOk_by (own := [("k", 2)]) (N := ["pot", "count", "k"]) (sc := defScope s_law_words) (by decide +kernel))
      (fun _ _ _ _ _ => (pg_name (i := 2) sc_law_words.nd rfl (Or.inl rfl))) (fun _ _ _ _ _ => pts_nil) (fun _ _ _ _ _ => (pe_call (ok_law_word T) (hr.mono (by decide)) rfl T.g_law_word T.F_law_word.kp T.d_law_word .nil pass0 (pa_cons (pv 0) pa_nil)))))), ?_⟩
    refine ⟨_, rfl, n, rfl, by omega, by omega, fun D new => lc_it walk_range (fun i H' => ∃ ws : List Int, But p H H' ∧ Pot H' p l ∧ H' D = some (.lst (ws.map V.int)) ∧ ws.length = i ∧ ∀ w ∈ ws, Wd w)
      ⟨[], (Same.new new).but, hP.new new, upd_same, rfl, fun _ m => nomatch m⟩ (fun _ _ _ _ => True.intro) ?_ ?_⟩
    · rintro i y H1 H2 hi ⟨ws, b1, P1, d1, hl, hw⟩ ⟨rfl, rfl⟩
      have off := hP.off new
      refine ⟨rfl, _, rfl, p, l, rfl, P1, fun v H3 wv P3 o3 => ?_⟩
      refine ⟨_, by rw [o3 _ off.1.symm]; exact d1, small _ (by simp; omega), ws ++ [v], ?_, P3.only Only.upd off.1 off.2, ?_, by simp [hl], ?_⟩
      · intro b o e nb
        rw [upd_ne (ne_of_none e new), o3 _ nb]
        exact b1 b o e nb
      · rw [upd_same, List.map_append]
        rfl
      · intro w m
        rcases List.mem_append.mp m with m | m
        · exact hw w m
        · have : w = v := by simpa using m
          rw [this]
          exact wv
    · rintro H' ⟨ws, b1, P1, d1, hl, hw⟩
      exact k D ws H' hl hw new d1 b1 P1
theorem sc_law_horner : FnScope ["numbers", "x", "total", "k"] ["numbers", "x"] (defScope s_law_horner) := ⟨rfl, rfl, rfl, by decide +kernel, rfl, by decide +kernel, by decide +kernel⟩
theorem ok_law_horner (T : Txt K mg a) : FnOk P w K mg base CX0 1 a.f_law_horner a.d_law_horner ["numbers", "x"] (sp_law_horner K a) := by
  refine T.F_law_horner.ok sc_law_horner (fun vs H Q E h => ?len) (fun cdv A outer s H vs Q E hr h => ?body)
  case len =>
    exact sp_law_horner_len h
  case body =>
    obtain ⟨d, ns, x, rfl, hN, hl, k⟩ := h
    refine ⟨_, (pss_cons (ps_set (i := 2) sc_law_horner.nd rfl (Or.inl rfl) pe_int)
      (pss_cons (ps_for PassesOwn.never rfl (pi_range1 (by rfl) T.n_range (pa_cons (pe_callB call_len_seq (by rfl) T.n_len PySem.boot_len (pa_cons (pv 0) pa_nil)) pa_nil)) (pg_name (i := 3) sc_law_horner.nd rfl (Or.inl rfl))
      (pss_one (ps_set (i := 2) sc_law_horner.nd rfl (Or.inl rfl) (pe_op op_mod (pe_callTy call_int1 (by rfl) T.n_int (by decide +kernel) (pa_cons (pe_op op_add (pe_op op_mul (pv 2) (pv 1)) (pe_ix ix_list (pv 0) (pe_op op_sub (pe_op op_sub (pe_callB call_len_seq (by rfl) T.n_len PySem.boot_len (pa_cons (pv 0) pa_nil)) pe_int) (pv 3)) (fun _ _ => rfl))) pa_nil)) pe_int))))
      (pss_one (ps_ret (pv 2))))), ?_⟩
    refine ⟨_, rfl, d, _, rfl, .inl hN, _, rfl, by omega, by rw [List.length_map]; omega, ?_⟩
    rw [Int.toNat_natCast, List.length_map]
    refine for_range (lo := 0) (n := ns.length) (fun i σ H' => ∃ v : Option V, σ = [some (.ref d), some (.int x), some (.int (horn (ns.drop (ns.length - i)) x)), v] ∧ H' = H)
      ⟨none, by rw [Nat.sub_zero, List.drop_length]; rfl, rfl⟩ ?_ ?_
    · rintro i σ H' hi ⟨v, rfl, rfl⟩
      have hc : ns[ns.length - (i + 1)]? = some ns[ns.length - (i + 1)] := List.getElem?_eq_getElem (by omega)
      have w := horn_word (ns.drop (ns.length - i)) x
      refine ⟨_, rfl, _, rfl, _, _, rfl, rfl, .inl ⟨by omega, by omega⟩, _, rfl, _, rfl, d, _, rfl, .inl hN, _, _, rfl, rfl, _, rfl, _, _, rfl, rfl, d, _, _, _, rfl, rfl, hN, at_of (j := ns.length - (i + 1)) (by rw [List.length_map]; omega) (by rw [List.getElem?_map, hc]; rfl), _, _, rfl, rfl, .inl ⟨_, rfl, _, _, rfl, rfl, (by show (0 : Int) < 65521; decide), ?_⟩⟩
      refine ⟨some (.int (0 + (i : Nat))), ?_, rfl⟩
      have e := horn_drop (x := x) hc
      rw [show ns.length - (i + 1) + 1 = ns.length - i by omega] at e
      rw [e]
      rfl
    · rintro σ H' ⟨v, rfl, rfl⟩
      rw [Nat.sub_self, List.drop_zero]
      exact ⟨_, rfl, k⟩
theorem sc_law_stripe : FnScope ["pot", "data", "count", "length", "pieces", "i", "numbers", "k"] ["pot", "data", "count", "length"] (defScope s_law_stripe) := ⟨rfl, rfl, rfl, by decide +kernel, rfl, by decide +kernel, by decide +kernel⟩
theorem ok_law_stripe (T : Txt K mg a) : FnOk P w K mg base CX0 4 a.f_law_stripe a.d_law_stripe ["pot", "data", "count", "length"] (sp_law_stripe K a) := by
  refine T.F_law_stripe.ok sc_law_stripe (fun vs H Q E h => ?len) (fun cdv A outer s H vs Q E hr h => ?body)
  case len =>
    exact sp_law_stripe_len h
  case body =>
    obtain ⟨p, l, d, c, n, rfl, hP, hd, hc, hn, k⟩ := h
    refine ⟨_, (pss_cons (ps_setLc (i := 4) (own := [("k", 7)]) (g := (gName 7)) (by rfl) sc_law_stripe.nd rfl rfl (sw_true rfl rfl rfl (by decide +kernel)) (pi_range1 (by rfl) T.n_range (pa_cons (pv 2) pa_nil)) (blkOk_by (own := [("k", 7)]) (N := ["pot", "data", "count", "length", "pieces", "i", "numbers", "k"]) (sc := defScope s_law_stripe) (by decide +kernel))
      (fun _ _ _ _ _ => (pg_name (i := 7) sc_law_stripe.nd rfl (Or.inl rfl))) (fun _ _ _ _ _ => pts_nil) (fun _ _ _ _ _ => (pe_lst pa_nil)))
      (pss_cons (ps_for PassesOwn.never rfl (pi_range1 (by rfl) T.n_range (pa_cons (pv 3) pa_nil)) (pg_name (i := 5) sc_law_stripe.nd rfl (Or.inl rfl))
      (pss_cons (ps_set (i := 6) sc_law_stripe.nd rfl (Or.inl rfl) (pe_call (ok_law_words T) (hr.mono (by decide)) rfl T.g_law_words T.F_law_words.kp T.d_law_words .nil pass0 (pa_cons (pv 0) (pa_cons (pv 1) pa_nil))))
      (pss_one (ps_for PassesOwn.never rfl (pi_range1 (by rfl) T.n_range (pa_cons (pv 2) pa_nil)) (pg_name (i := 7) sc_law_stripe.nd rfl (Or.inl rfl))
      (pss_one (ps_expr (pe_bm PySem.F.plainAttrs_list PySem.F.slot_list_append PySem.F.type_list_append mt_append (pe_ix ix_list (pv 4) (pv 7) (fun _ _ => rfl)) (pa_cons (pe_call (ok_law_horner T) (hr.mono (by decide)) rfl T.g_law_horner T.F_law_horner.kp T.d_law_horner .nil pass0 (pa_cons (pv 6) (pa_cons (pv 7) pa_nil))) pa_nil))))))))
      (pss_one (ps_ret (pv 4))))), ?_⟩
    refine ⟨_, rfl, _, rfl, by omega, by omega, ?_⟩
    rw [Int.toNat_natCast]
    refine fun D nD => lc_it walk_range (fun i H' => ∃ F : List (Addr × List Int), Same H H' ∧ LA H' D F ∧ F.length = i ∧ (F.map (·.1)).Nodup ∧ ∀ e ∈ F, e.2 = [] ∧ H e.1 = none) ⟨[], Same.new nD, ⟨upd_same, fun _ m => nomatch m⟩, rfl, List.nodup_nil, fun _ m => nomatch m⟩ (fun _ _ _ _ => True.intro) ?_ ?_
    · rintro i y H1 H2 hi ⟨F, s1, L1, lF, nd, hF⟩ ⟨rfl, rfl⟩
      refine ⟨rfl, Nat.zero_le _, fun E nE => ?_⟩
      have L2 := L1.same (Same.new (o := .lst []) nE)
      have nED : E ≠ D := (ne_of_none L1.1 nE).symm
      refine ⟨_, L2.1, small _ (by rw [refs_len]; omega), ?_⟩
      rw [show refs F ++ [V.ref E] = refs (F ++ [(E, [])]) from by unfold refs; rw [List.map_append]; rfl]
      refine ⟨_, fun b o e' => ?_, LA.put fun e' me => ?_, by simp [lF], ?_, fun e' me => ?_⟩
      · rw [upd_ne (ne_of_none e' nD)]
        exact Same.new nE _ _ (s1 b o e')
      · rcases List.mem_append.mp me with me | me
        · exact L2.2 e' me
        · have : e' = (E, []) := by simpa using me
          subst this
          exact ⟨upd_same, nED⟩
      · rw [List.map_append, List.nodup_append]
        refine ⟨nd, by simp, fun a ha b hb => ?_⟩
        obtain ⟨e, me, rfl⟩ := List.mem_map.1 ha
        have : b = E := by simpa using hb
        rw [this]
        exact ne_of_none (L1.2 e me).1 nE
      · rcases List.mem_append.mp me with me | me
        · exact hF e' me
        · have : e' = (E, []) := by simpa using me
          subst this
          exact ⟨rfl, same_none s1 nE⟩
    · rintro H1 ⟨F, s1, L1, lF, nd, hF⟩
      refine ⟨_, rfl, _, rfl, by omega, by omega, ?_⟩
      rw [Int.toNat_natCast]
      have P1 := hP.same s1
      have offD := hP.off nD
      refine for_range (lo := 0) (n := n) (fun i σ H' => ∃ (v5 v6 v7 : Option V) (F : List (Addr × List Int)) (ps : List (List Int)), σ = [some (.ref p), some (.int (d : Int)), some (.int (c : Int)), some (.int (n : Int)), some (.ref D), v5, v6, v7] ∧ Pot H' p l ∧ But p H H' ∧ LA H' D F ∧ F.length = c ∧ (F.map (·.1)).Nodup ∧ (∀ e ∈ F, H e.1 = none ∧ p ≠ e.1 ∧ l ≠ e.1) ∧ ps.length = i ∧ (∀ ws ∈ ps, ws.length = d ∧ ∀ w ∈ ws, Wd w) ∧ ∀ k < c, (snds F).getD k [] = ps.map fun ws => horn ws (k : Int))
        ⟨none, none, none, F, [], rfl, P1, s1.but, L1, lF, nd, fun e m => ⟨(hF e m).2, hP.off (hF e m).2⟩, rfl, fun _ m => (nomatch m), fun k hk => ?_⟩ ?_ ?_
      · have lk : k < F.length := by omega
        have hk' : F[k]? = some F[k] := List.getElem?_eq_getElem lk
        rw [snds_get hk', (hF _ (List.mem_of_getElem? hk')).1]
        rfl
      · rintro i σ H2 hi ⟨v5, v6, v7, F, ps, rfl, P2, b2, L2, lF, nd, hF, lps, hps, hk⟩
        refine ⟨_, rfl, _, rfl, p, l, (d : Int), rfl, P2, by omega, by omega, fun W ws H3 lw ww nW dW b3 P3 => ?_⟩
        rw [Int.toNat_natCast] at lw
        have nWp : W ≠ p := (P2.off nW).1.symm
        have L3 := L2.but P2 offD.1.symm b3
        refine ⟨_, rfl, _, rfl, by omega, by omega, ?_⟩
        rw [Int.toNat_natCast]
        refine for_range (lo := 0) (n := c) (fun j σ H' => ∃ (v7 : Option V) (F : List (Addr × List Int)), σ = [some (.ref p), some (.int (d : Int)), some (.int (c : Int)), some (.int (n : Int)), some (.ref D), some (.int (0 + (i : Nat))), some (.ref W), v7] ∧ Pot H' p l ∧ But p H H' ∧ LA H' D F ∧ F.length = c ∧ (F.map (·.1)).Nodup ∧ (∀ e ∈ F, H e.1 = none ∧ p ≠ e.1 ∧ l ≠ e.1 ∧ W ≠ e.1) ∧ H' W = some (.lst (ws.map V.int)) ∧ ∀ k < c, (snds F).getD k [] = (if k < j then ps ++ [ws] else ps).map fun ws => horn ws (k : Int))
          ⟨_, F, rfl, P3, b2.trans b3, L3, lF, nd, fun e m => ⟨(hF e m).1, (hF e m).2.1, (hF e m).2.2, (ne_of_none (L2.2 e m).1 nW).symm⟩, dW, fun k hk' => by rw [hk k hk']; rfl⟩ ?_ ?_
        · rintro j σ H4 hj ⟨v7, F, rfl, P4, b4, L4, lF, nd, hF, dW4, hk⟩
          have lj : j < F.length := by omega
          have hFj : F[j]? = some F[j] := List.getElem?_eq_getElem lj
          have mj := List.mem_of_getElem? hFj
          have hmj := (hF _ mj)
          have aD : D ≠ F[j].1 := (L4.2 _ mj).2.symm
          have sj : (snds F).getD j [] = F[j].2 := snds_get hFj
          have ej : F[j].2 = ps.map fun ws => horn ws (j : Int) := by
            rw [← sj, hk j hj, if_neg (Nat.lt_irrefl j)]
          refine ⟨_, rfl, _, rfl, D, _, _, _, rfl, rfl, SqL.of L4.1, at_of (j := j) (by omega) (refs_get hFj), .inl ⟨rfl, _, SqL.of (L4.2 _ mj).1⟩, ?_⟩
          refine ⟨_, rfl, _, rfl, W, ws, 0 + (j : Int), rfl, SqL.of dW4, by omega, F[j].1, _, _, rfl, rfl, (L4.2 _ mj).1, small _ (by rw [ej]; simp; omega), ?_⟩
          have ev : F[j].2.map V.int ++ [V.int (horn ws (0 + (j : Int)))] = (F[j].2 ++ [horn ws (j : Int)]).map V.int := by rw [List.map_append, Int.zero_add]; rfl
          rw [ev]
          have fm : (F.set j (F[j].1, F[j].2 ++ [horn ws (j : Int)])).map (·.1) = F.map (·.1) := by
            refine List.ext_getElem? fun m => ?_
            rw [List.getElem?_map, List.getElem?_map, List.getElem?_set]
            split
            · next q => subst q; rw [hFj]; rfl
            · rfl
          have rf : refs (F.set j (F[j].1, F[j].2 ++ [horn ws (j : Int)])) = refs F := by
            have e1 : ∀ G : List (Addr × List Int), refs G = (G.map (·.1)).map V.ref := fun G => by simp [refs]
            rw [e1, e1, fm]
          refine ⟨_, F.set j (F[j].1, F[j].2 ++ [horn ws (j : Int)]), rfl, P4.only Only.upd hmj.2.1 hmj.2.2.1, fun b o e' nb => ?_, ⟨?_, fun e' me => ?_⟩, by simp [lF], by rw [fm]; exact nd, fun e' me => ?_, ?_, fun k hk' => ?_⟩
          · rw [upd_ne (ne_of_none e' hmj.1)]
            exact b4 b o e' nb
          · rw [upd_ne aD, rf]
            exact L4.1
          · obtain ⟨m, hm⟩ := List.mem_iff_getElem?.mp me
            rcases item_set hm with ⟨q1, q2, _⟩ | ⟨q1, q2⟩
            · subst q2
              exact ⟨upd_same, aD.symm⟩
            · have mm := List.mem_of_getElem? q2
              refine ⟨?_, (L4.2 _ mm).2⟩
              rw [upd_ne (fun z => q1 ?_)]
              · exact (L4.2 _ mm).1
              · have i1 : (F.map (·.1))[j]? = some F[j].1 := by rw [List.getElem?_map, hFj]; rfl
                have i2 : (F.map (·.1))[m]? = some F[j].1 := by rw [List.getElem?_map, q2, ← z]; rfl
                exact (List.getElem?_inj (by rw [List.length_map]; exact lj) nd).mp (i1.trans i2.symm)
          · obtain ⟨m, hm⟩ := List.mem_iff_getElem?.mp me
            rcases item_set hm with ⟨q1, q2, _⟩ | ⟨q1, q2⟩
            · subst q2
              exact hmj
            · exact hF _ (List.mem_of_getElem? q2)
          · rw [upd_ne hmj.2.2.2]
            exact dW4
          · by_cases q : k = j
            · subst q
              have g1 : (F.set k (F[k].1, F[k].2 ++ [horn ws (k : Int)]))[k]? = some (F[k].1, F[k].2 ++ [horn ws (k : Int)]) := by rw [List.getElem?_set, if_pos rfl, if_pos lj]
              rw [snds_get g1, if_pos (Nat.lt_succ_self k), List.map_append, ej]
              rfl
            · have g1 : (F.set j (F[j].1, F[j].2 ++ [horn ws (j : Int)]))[k]? = F[k]? := by rw [List.getElem?_set, if_neg (fun z => q z.symm)]
              have g2 : (snds (F.set j (F[j].1, F[j].2 ++ [horn ws (j : Int)]))).getD k [] = (snds F).getD k [] := by
                rw [List.getD_eq_getElem?_getD, List.getD_eq_getElem?_getD, List.getElem?_map, List.getElem?_map, g1]
              rw [g2, hk k hk']
              by_cases q2 : k < j
              · rw [if_pos q2, if_pos (by omega)]
              · rw [if_neg q2, if_neg (by omega)]
        · rintro σ H4 ⟨v7, F, rfl, P4, b4, L4, lF, nd, hF, dW4, hk⟩
          refine ⟨_, _, _, F, ps ++ [ws], rfl, P4, b4, L4, lF, nd, fun e m => ⟨(hF e m).1, (hF e m).2.1, (hF e m).2.2.1⟩, by simp [lps], fun w m => ?_, fun k hk' => by rw [hk k hk', if_pos hk']⟩
          rcases List.mem_append.mp m with m | m
          · exact hps w m
          · have : w = ws := by simpa using m
            subst this
            exact ⟨lw, ww⟩
      · rintro σ H2 ⟨v5, v6, v7, F, ps, rfl, P2, b2, L2, lF, nd, hF, lps, hps, hk⟩
        exact ⟨_, rfl, k D F ps H2 b2 P2 nD L2 lF lps hps hk⟩
theorem sc_law_is_words : FnScope ["value", "count", "word"] ["value", "count"] (defScope s_law_is_words) := ⟨rfl, rfl, rfl, by decide +kernel, rfl, by decide +kernel, by decide +kernel⟩
theorem ok_law_is_words (T : Txt K mg a) : FnOk P w K mg base CX0 1 a.f_law_is_words a.d_law_is_words ["value", "count"] (sp_law_is_words K a) := by
  refine T.F_law_is_words.ok sc_law_is_words (fun vs H Q E h => ?len) (fun cdv A outer s H vs Q E hr h => ?body)
  case len =>
    exact sp_law_is_words_len h
  case body =>
    obtain ⟨d, r, n, rfl, hD, hw, hn, k⟩ := h
    refine ⟨_, (pss_cons (ps_if (PW.pt (pw_or (pt_not (pt_val (pe_callB call_isi (by rfl) T.n_isinstance (by decide +kernel) (pa_cons (pv 0) (pa_cons (pe_bltn (v := .ty "list") (by rfl) T.n_list (by decide +kernel) rfl) pa_nil))))) (pw_or1 (pt_cmpR op_ne (pe_callB call_len_seq (by rfl) T.n_len PySem.boot_len (pa_cons (pv 0) pa_nil)) (pv 1) (nomark _)))))
      (pss_one (ps_ret pe_bl))
      pss_nil)
      (pss_cons (ps_for PassesOwn.never rfl (pi_list (pv 0)) (pg_name (i := 2) sc_law_is_words.nd rfl (Or.inl rfl))
      (pss_one (ps_if (PW.pt (pw_or (pt_not (pt_val (pe_callB call_isi (by rfl) T.n_isinstance (by decide +kernel) (pa_cons (pv 2) (pa_cons (pe_bltn (v := .ty "int") (by rfl) T.n_int (by decide +kernel) rfl) pa_nil))))) (pw_or (pt_val (pe_callB call_isi (by rfl) T.n_isinstance (by decide +kernel) (pa_cons (pv 2) (pa_cons (pe_bltn (v := .ty "bool") (by rfl) T.n_bool (by decide +kernel) rfl) pa_nil)))) (pw_or (pt_cmpR op_lt (pv 2) pe_int (nomark _)) (pw_or1 (pt_cmpR op_gt (pv 2) pe_int (nomark _)))))))
      (pss_one (ps_ret pe_bl))
      pss_nil)))
      (pss_one (ps_ret pe_bl)))), ?_⟩
    refine ⟨_, rfl, _, _, _, _, true, rfl, .ty "list", .base (.lst hD), kit_ty (by decide +kernel), true, rfl, iteF ?_⟩
    refine ⟨_, rfl, d, _, rfl, .inl (SqL.of hD), _, rfl, rfl, _, rfl, iteNS (congrArg V.int (by rw [List.length_map]; exact hn)) ?_⟩
    refine ⟨_, rfl, d, rfl, ⟨_, SqL.of hD⟩, for_list (K := K) (a := d) (xs := r.map V.int) (fun i σ H' => ∃ v : Option V, σ = [some (.ref d), some (.int n), v] ∧ H' = H) ⟨none, rfl, rfl⟩ (fun i σ H' _ ⟨_, _, e⟩ => by rw [e]; exact SqL.of hD) ?_ ?_⟩
    · rintro i y σ H' hi ⟨v, rfl, rfl⟩
      obtain ⟨c, hc, rfl⟩ := int_item hi
      obtain ⟨w0, w1⟩ := hw c (List.mem_of_getElem? hc)
      refine ⟨_, rfl, _, _, _, _, true, rfl, .ty "int", .base (.int c), kit_ty (by decide +kernel), true, rfl, iteF ?_⟩
      refine ⟨_, rfl, _, _, _, _, false, rfl, .ty "bool", .base (.int c), kit_ty (by decide +kernel), false, rfl, iteF ?_⟩
      refine ⟨_, rfl, _, _, rfl, rfl, _, rfl, ite2 (fun q => absurd (of_decide_eq_true q) (by omega)) (fun _ => ?_)⟩
      exact ⟨_, rfl, _, _, rfl, rfl, _, rfl, ite2 (fun q => absurd (of_decide_eq_true q) (by omega)) (fun _ => ⟨_, rfl, rfl⟩)⟩
    · rintro σ H' ⟨v, rfl, rfl⟩
      exact k
theorem sc_law_refused : FnScope ["pieces", "parity", "e"] ["pieces", "parity"] (defScope s_law_refused) := ⟨rfl, rfl, rfl, by decide +kernel, rfl, by decide +kernel, by decide +kernel⟩
theorem ok_law_refused (T : Txt K mg a) : FnOk P w K mg base CX0 6 a.f_law_refused a.d_law_refused ["pieces", "parity"] (sp_law_refused K a) := by
  refine T.F_law_refused.ok sc_law_refused (fun vs H Q E h => ?len) (fun cdv A outer s H vs Q E hr h => ?body)
  case len =>
    exact sp_law_refused_len h
  case body =>
    obtain ⟨R, F, par, rfl, hR, h20, h500, p0, p5, hB, k⟩ := h
    refine ⟨_, (pss_cons (ps_try_as (i := 2) rfl rfl sc_law_refused.nd rfl rfl ⟨rfl, by decide, .inl T.g_PoolError⟩ takes0
      (fun W pn xe tk _ => (pss_one (ps_expr (pe_callS (ok_encode T) (hr.mono (by decide)) rfl T.g_encode T.F_encode.kp T.d_encode (fun σ => passAt tk σ) (pa_cons (pv 0) (pa_cons (pv 1) pa_nil))))))
      (fun a oe cls d pn hz hf => (pss_one (ps_ret (pe_callB (call_isE' hz hf) (by rfl) T.n_isinstance (by decide +kernel) (pa_cons (pv 2) (pa_cons (pe_glob (v := .ref _) rfl T.g_InvalidArgument rfl) pa_nil)))))))
      (pss_one (ps_ret pe_bl))), ?_⟩
    refine ⟨_, rfl, _, rfl, R, F, par, rfl, hR, h20, h500, p0, p5, fun _ H1 sm => ?_, fun z => absurd hB z⟩
    refine ⟨true, T.u_InvalidArgument_PoolError, fun _ b hb => ?_, fun z => Bool.noConfusion z⟩
    exact ⟨_, rfl, _, rfl, rfl, T.E_InvalidArgument, _, _, true, rfl, fun _ z => z, T.i_InvalidArgument_InvalidArgument, k _ sm⟩
theorem sc_law : FnScope ["script", "pot", "count", "data", "length", "pieces", "passed", "found", "k", "at", "wrong", "piece"] ["script"] (defScope s_law) := ⟨rfl, rfl, rfl, by decide +kernel, rfl, by decide +kernel, by decide +kernel⟩
theorem ok_law (T : Txt K mg a) : FnOk P w K mg base CX0 7 a.f_law a.d_law ["script"] (sp_law K a) := by
  refine T.F_law.ok sc_law (fun vs H Q E h => ?len) (fun cdv A outer s H vs Q E hr h => ?body)
  case len =>
    exact sp_law_len h
  case body =>
    obtain ⟨s, ns, rfl, hS, hlen, k⟩ := h
    refine ⟨_, (pss_cons (ps_set (i := 1) sc_law.nd rfl (Or.inl rfl) (pe_call (ok_law_pot T) (hr.mono (by decide)) rfl T.g_law_pot T.F_law_pot.kp T.d_law_pot .nil pass0 (pa_cons (pv 0) pa_nil)))
      (pss_cons (ps_set (i := 2) sc_law.nd rfl (Or.inl rfl) (pe_op op_add pe_int (pe_call (ok_law_next T) (hr.mono (by decide)) rfl T.g_law_next T.F_law_next.kp T.d_law_next .nil pass0 (pa_cons (pv 1) (pa_cons pe_int pa_nil)))))
      (pss_cons (ps_set (i := 3) sc_law.nd rfl (Or.inl rfl) (pe_op op_add pe_int (pe_call (ok_law_next T) (hr.mono (by decide)) rfl T.g_law_next T.F_law_next.kp T.d_law_next .nil pass0 (pa_cons (pv 1) (pa_cons (pv 2) pa_nil)))))
      (pss_cons (ps_set (i := 4) sc_law.nd rfl (Or.inl rfl) (pe_call (ok_law_next T) (hr.mono (by decide)) rfl T.g_law_next T.F_law_next.kp T.d_law_next .nil pass0 (pa_cons (pv 1) (pa_cons pe_int pa_nil))))
      (pss_cons (ps_set (i := 5) sc_law.nd rfl (Or.inl rfl) (pe_call (ok_law_stripe T) (hr.mono (by decide)) rfl T.g_law_stripe T.F_law_stripe.kp T.d_law_stripe .nil pass0 (pa_cons (pv 1) (pa_cons (pv 3) (pa_cons (pv 2) (pa_cons (pv 4) pa_nil))))))
      (pss_cons (ps_setLc (i := 6) (own := [("piece", 11)]) (g := (gName 11)) (by rfl) sc_law.nd rfl rfl (sw_true rfl rfl rfl (by decide +kernel)) (pi_list (pe_slice sl_list (pv 5) po_none (po_some (pv 3)))) (blkOk_by (own := [("piece", 11)]) (N := ["script", "pot", "count", "data", "length", "pieces", "passed", "found", "k", "at", "wrong", "piece"]) (sc := defScope s_law) (by decide +kernel))
      (fun _ _ _ _ _ => (pg_name (i := 11) sc_law.nd rfl (Or.inl rfl))) (fun _ _ _ _ _ => pts_nil) (fun _ _ _ _ _ => (pe_callTy (by exact call_list_of : CallR _ _ (rListOf K)) (by rfl) T.n_list (by decide +kernel) (pa_cons (pv 11) pa_nil))))
      (pss_cons (ps_set (i := 7) sc_law.nd rfl (Or.inl rfl) (pe_call (ok_encode T) (hr.mono (by decide)) rfl T.g_encode T.F_encode.kp T.d_encode .nil passL (pa_cons (pv 6) (pa_cons (pe_op op_sub (pv 2) (pv 3)) pa_nil))))
      (pss_cons (ps_if (PW.pt (pw_or (pt_cmpR (op_neD hr.units) (pv 6) (pe_slice sl_list (pv 5) po_none (po_some (pv 3))) (nomark _)) (pw_or (pt_not (pt_val (pe_callB call_isi (by rfl) T.n_isinstance (by decide +kernel) (pa_cons (pv 7) (pa_cons (pe_bltn (v := .ty "list") (by rfl) T.n_list (by decide +kernel) rfl) pa_nil))))) (pw_or1 (pt_cmpR op_ne (pe_callB call_len_seq (by rfl) T.n_len PySem.boot_len (pa_cons (pv 7) pa_nil)) (pe_op op_sub (pv 2) (pv 3)) (nomark _))))))
      (pss_one (ps_ret pe_bl))
      pss_nil)
      (pss_cons (ps_for PassesOwn.never rfl (pi_range1 (by rfl) T.n_range (pa_cons (pe_op op_sub (pv 2) (pv 3)) pa_nil)) (pg_name (i := 8) sc_law.nd rfl (Or.inl rfl))
      (pss_one (ps_if (PW.pt (pw_or (pt_not (pt_val (pe_call (ok_law_is_words T) (hr.mono (by decide)) rfl T.g_law_is_words T.F_law_is_words.kp T.d_law_is_words .nil pass0 (pa_cons (pe_ix ix_list (pv 7) (pv 8) (fun _ _ => rfl)) (pa_cons (pv 4) pa_nil))))) (pw_or1 (pt_cmpR (op_neD hr.units) (pe_ix ix_list (pv 7) (pv 8) (fun _ _ => rfl)) (pe_ix ix_list (pv 5) (pe_op op_add (pv 3) (pv 8)) (fun _ _ => rfl)) (nomark _)))))
      (pss_one (ps_ret pe_bl))
      pss_nil)))
      (pss_cons (ps_if (PW.pt (pw_or (pt_not (pt_val (pe_call (ok_law_refused T) (hr.mono (by decide)) rfl T.g_law_refused T.F_law_refused.kp T.d_law_refused .nil pass0 (pa_cons (pe_lst pa_nil) (pa_cons pe_int pa_nil))))) (pw_or (pt_not (pt_val (pe_call (ok_law_refused T) (hr.mono (by decide)) rfl T.g_law_refused T.F_law_refused.kp T.d_law_refused .nil pass0 (pa_cons (pv 6) (pa_cons (pe_op op_sub pe_int (pv 3)) pa_nil))))) (pw_or1 (pt_not (pt_val (pe_call (ok_law_refused T) (hr.mono (by decide)) rfl T.g_law_refused T.F_law_refused.kp T.d_law_refused .nil pass0 (pa_cons (pv 6) (pa_cons (pe_un un_neg pe_int) pa_nil)))))))))
      (pss_one (ps_ret pe_bl))
      pss_nil)
      (pss_cons (ps_set (i := 9) sc_law.nd rfl (Or.inl rfl) (pe_call (ok_law_next T) (hr.mono (by decide)) rfl T.g_law_next T.F_law_next.kp T.d_law_next .nil pass0 (pa_cons (pv 1) (pa_cons (pv 3) pa_nil))))
      (pss_cons (ps_setLc (i := 10) (own := [("piece", 11)]) (g := (gName 11)) (by rfl) sc_law.nd rfl rfl (sw_true rfl rfl rfl (by decide +kernel)) (pi_list (pv 6)) (blkOk_by (own := [("piece", 11)]) (N := ["script", "pot", "count", "data", "length", "pieces", "passed", "found", "k", "at", "wrong", "piece"]) (sc := defScope s_law) (by decide +kernel))
      (fun _ _ _ _ _ => (pg_name (i := 11) sc_law.nd rfl (Or.inl rfl))) (fun _ _ _ _ _ => pts_nil) (fun _ _ _ _ _ => (pe_callTy (by exact call_list_of : CallR _ _ (rListOf K)) (by rfl) T.n_list (by decide +kernel) (pa_cons (pv 11) pa_nil))))
      (pss_cons (ps_asg (pe_op op_cat (pe_ix ix_list (pv 10) (pv 9) (fun _ _ => rfl)) (pe_lst (pa_cons pe_int pa_nil))) (pg_sub (pv 10) (pv 9) set_list))
      (pss_one (ps_ret (pe_or (pe_cmpR op_eq (pv 3) pe_int (nomark _)) (pe_one (pe_call (ok_law_refused T) (hr.mono (by decide)) rfl T.g_law_refused T.F_law_refused.kp T.d_law_refused .nil pass0 (pa_cons (pv 10) (pa_cons pe_int pa_nil)))))))))))))))))))), ?_⟩
    refine ⟨_, rfl, s, ns, rfl, hS, by omega, fun p l H1 hp hl s1 P1 => ?_⟩
    refine ⟨_, rfl, p, l, 8, rfl, P1, by decide, by decide, fun c H2 c0 c1 P2 o2 => ⟨_, _, rfl, rfl, ?_⟩⟩
    obtain ⟨cn, ec⟩ : ∃ n : Nat, 1 + c = (n : Int) := ⟨(1 + c).toNat, by omega⟩
    dsimp only
    rw [ec]
    refine ⟨_, rfl, _, rfl, p, l, (cn : Int), rfl, P2, by omega, by omega, fun c' H3 c0' c1' P3 o3 => ⟨_, _, rfl, rfl, ?_⟩⟩
    obtain ⟨d, ed⟩ : ∃ n : Nat, 1 + c' = (n : Int) := ⟨(1 + c').toNat, by omega⟩
    dsimp only
    rw [ed]
    refine ⟨_, rfl, p, l, 6, rfl, P3, by decide, by decide, fun n' H4 n0 n1 P4 o4 => ?_⟩
    obtain ⟨n, rfl⟩ : ∃ n : Nat, n' = (n : Int) := ⟨n'.toNat, by omega⟩
    have d1 : 1 ≤ d := by omega
    have dc : d ≤ cn := by omega
    have c8 : cn ≤ 8 := by omega
    have n5 : n ≤ 5 := by omega
    clear c0 c1 c0' c1' n0 n1 ec ed
    -- pieces = _law_stripe(pot, data, count, length)
    refine ⟨_, rfl, _, rfl, _, rfl, _, rfl, p, l, d, cn, n, rfl, P4, by omega, by omega, by omega, fun R F ps H5 b5 P5 nR L5 lF lps hps hF => ?_⟩
    have nRp : R ≠ p := (P4.off nR).1.symm
    have hrow : ∀ e ∈ F, e.2.length = n := fun e m => by
      obtain ⟨k, hk⟩ := List.mem_iff_getElem?.mp m
      have := hF k (by have := item_lt hk; omega)
      rw [snds_get hk] at this
      rw [this, List.length_map, lps]
    -- passed = [list(piece) for piece in pieces[:data]]
    refine ⟨_, rfl, _, rfl, _, rfl, R, _, rfl, SqL.of L5.1, fun S nS => ?_⟩
    rw [cut_take, refs_take]
    have sS := Same.new (o := .lst (refs (F.take d))) nS
    have L6 := L5.same sS
    have P6 := P5.same sS
    have hT : ∀ e ∈ F.take d, upd H5 S (.lst (refs (F.take d))) e.1 = some (.lst (e.2.map V.int)) := fun e m => (L6.2 e (List.mem_of_mem_take m)).1
    have dS : upd H5 S (.lst (refs (F.take d))) S = some (.lst (refs (F.take d))) := upd_same
    have TF : (F.take d).length = d := by rw [List.length_take]; omega
    refine ⟨S, rfl, ⟨_, SqL.of dS⟩, fun D nD => lc_list (K := K) (a := S) (xs := refs (F.take d)) (fun i H' => ∃ G : List (Addr × List Int), Same (upd H5 S (.lst (refs (F.take d)))) H' ∧ LA H' D G ∧ snds G = (snds (F.take d)).take i)
      ⟨[], Same.new nD, ⟨upd_same, fun _ m => nomatch m⟩, rfl⟩ (fun i H' _ ⟨_, s', _⟩ => s'.seq (SqL.of dS)) ?_ ?_⟩
    · rintro i y H' hi ⟨G, s', L', hG⟩
      obtain ⟨e, he, rfl⟩ := refs_item hi
      have li := item_lt he
      have lG : G.length ≤ i := by
        have := congrArg List.length hG
        rw [snds_len, List.length_take] at this
        omega
      have me := List.mem_of_getElem? he
      refine ⟨rfl, _, rfl, e.1, _, rfl, .inl (SqL.of (s' _ _ (hT e me))), fun W nW => ?_⟩
      have sW := Same.new (o := .lst (e.2.map V.int)) nW
      have nWR : W ≠ D := (ne_of_none L'.1 nW).symm
      have Lw := L'.same sW
      refine ⟨_, Lw.1, small _ (by rw [refs_len]; omega), G ++ [(W, e.2)], same_put (s'.trans sW) nD, ?_, ?_⟩
      · have eq : refs G ++ [V.ref W] = refs (G ++ [(W, e.2)]) := by unfold refs; rw [List.map_append]; rfl
        rw [eq]
        refine LA.put fun e' me' => ?_
        rcases List.mem_append.mp me' with me' | me'
        · exact Lw.2 e' me'
        · have : e' = (W, e.2) := by simpa using me'
          subst this
          exact ⟨upd_same, nWR⟩
      · have g : (snds (F.take d))[i]? = some e.2 := by rw [List.getElem?_map, he]; rfl
        rw [take_snoc g, ← hG]
        show (G ++ [(W, e.2)]).map (·.2) = _
        rw [List.map_append]
        rfl
    rintro H7 ⟨G, s7, LG, hG⟩
    rw [List.take_of_length_le (by rw [refs_len, snds_len]; exact Nat.le_refl _)] at hG
    have L7 := L6.same s7
    have P7 := P6.same s7
    have lG : G.length = d := by rw [← snds_len, hG, snds_len, TF]
    have rG : ∀ e ∈ G, e.2.length = n := fun e m => by
      have : e.2 ∈ snds (F.take d) := by rw [← hG]; exact List.mem_map.mpr ⟨e, m, rfl⟩
      obtain ⟨e', m', q⟩ := List.mem_map.mp this
      rw [← q]
      exact hrow _ (List.mem_of_mem_take m')
    have g0 : ((snds G).getD 0 []).length = n := by
      have h0 : G[0]? = some G[0] := List.getElem?_eq_getElem (by omega)
      rw [snds_get h0]
      exact rG _ (List.mem_of_getElem? h0)
    have nbad : ¬ BadEnc (snds G) ((cn : Int) - (d : Int)) := by
      rintro (b | b | b | ⟨r, m, b⟩)
      · have := congrArg List.length b
        rw [snds_len, lG] at this
        simp at this
        omega
      · omega
      · rw [snds_len] at b; omega
      · obtain ⟨e, me, rfl⟩ := List.mem_map.mp m
        exact b (by rw [g0]; exact rG e me)
    clear hT dS
    -- found = encode(passed, count - data)
    refine ⟨_, rfl, _, rfl, _, rfl, _, _, rfl, rfl, D, G, (cn : Int) - (d : Int), rfl, LG.rl, by omega, by omega, by omega, by omega, fun b => absurd b nbad, fun _ D8 G8 H8 s8 n8 L8 e8 => ?_⟩
    rw [g0, show ((cn : Int) - (d : Int)).toNat = cn - d by omega] at e8
    have LF8 := L7.same s8
    have P8 := P7.same s8
    have LG8 := LG.same s8
    clear s8 s7 L7 L6 P7 P6 sS LG
    -- if passed != pieces[:data] or not isinstance(found, list) or len(found) != count - data
    refine ⟨_, rfl, _, rfl, _, rfl, _, rfl, R, _, rfl, SqL.of LF8.1, fun S2 nS2 => ?_⟩
    rw [cut_take, refs_take]
    have sS2 := Same.new (o := .lst (refs (F.take d))) nS2
    have dS2 : upd H8 S2 (.lst (refs (F.take d))) S2 = some (.lst (refs (F.take d))) := upd_same
    refine ⟨_, _, dp_rows (F := G) (LG8.same sS2).rl, dp_rows (F := F.take d) ⟨SqL.of dS2, fun e m => SqL.of ((LF8.same sS2).2 e (List.mem_of_mem_take m)).1⟩, rows_shaped _, rows_shaped _, _, rfl, ?_⟩
    rw [eqv_rows, hG, decide_eq_true rfl]
    refine iteF ?_
    have L9 := L8.same sS2
    have LF9 := LF8.same sS2
    have LG9 := LG8.same sS2
    have P9 := P8.same sS2
    clear dS2
    generalize upd H8 S2 (HO.lst (refs (F.take d))) = H9 at L9 LF9 LG9 P9 sS2 ⊢
    have lG8 : G8.length = cn - d := by rw [← snds_len, e8]; simp
    refine ⟨_, rfl, _, _, _, _, true, rfl, .ty "list", .base (.lst L9.1), kit_ty (by decide +kernel), true, rfl, iteF ?_⟩
    refine ⟨_, rfl, D8, _, rfl, .inl (SqL.of L9.1), _, rfl, _, rfl, _, _, rfl, rfl, rfl, _, rfl, iteNS (congrArg V.int (by rw [refs_len]; omega)) ?_⟩
    -- for k in range(count - data)
    refine ⟨_, rfl, _, rfl, _, _, rfl, rfl, _, rfl, by omega, by omega, ?_⟩
    rw [show ((cn : Int) - (d : Int)).toNat = cn - d by omega]
    have gs : ∀ i, i < cn - d → (snds G8).getD i [] = (snds F).getD (d + i) [] := fun i hi => by
      have q : (snds G8)[i]? = some (pieceM (upto G.length) (snds G) ((G.length + i : Nat) : Int) n) := by rw [e8, List.getElem?_map, List.getElem?_range hi]; rfl
      rw [getD_item q, hF (d + i) (by omega), ← lps]
      rw [lG]
      refine piece_of (upto_apart (by omega)) (by rw [snds_len, upto_len]; omega) (fun w m => by rw [upto_len, (hps w m).1]; exact Nat.le_refl _) (fun j hj => ?_) _
      rw [upto_len] at hj
      rw [upto_get hj, hG]
      have q2 : (snds (F.take d)).getD j [] = (snds F).getD j [] := by
        rw [← snds_take, List.getD_eq_getElem?_getD, List.getD_eq_getElem?_getD, List.getElem?_take, if_pos hj]
      rw [q2, hF j (by omega)]
    refine for_range (lo := 0) (n := cn - d) (fun i σ H' => ∃ v8 : Option V, σ = [some (.ref s), some (.ref p), some (.int (cn : Int)), some (.int (d : Int)), some (.int (n : Int)), some (.ref R), some (.ref D), some (.ref D8), v8, none, none, none] ∧ H' = H9) ⟨none, rfl, rfl⟩ ?_ ?_
    · rintro i σ H' hi ⟨v8, rfl, rfl⟩
      have hGi : G8[i]? = some G8[i] := List.getElem?_eq_getElem (by omega)
      have mGi := List.mem_of_getElem? hGi
      have hFi : F[d + i]? = some F[d + i] := List.getElem?_eq_getElem (by omega)
      have mFi := List.mem_of_getElem? hFi
      have eqi : G8[i].2 = F[d + i].2 := by
        have := gs i hi
        rw [snds_get hGi, snds_get hFi] at this
        exact this
      have wds : F[d + i].2 = ps.map fun ws => horn ws ((d + i : Nat) : Int) := by rw [← snds_get hFi, hF (d + i) (by omega)]
      refine ⟨_, rfl, _, rfl, D8, _, _, _, rfl, rfl, SqL.of L9.1, at_of (j := i) (by omega) (refs_get hGi), _, rfl, G8[i].1, G8[i].2, (n : Int), rfl, (L9.2 _ mGi).1, fun w m => ?_, by rw [eqi, hrow _ mFi], true, rfl, iteF ?_⟩
      · rw [eqi, wds] at m
        obtain ⟨ws, _, rfl⟩ := List.mem_map.mp m
        exact horn_word _ _
      refine ⟨_, rfl, _, rfl, D8, _, _, _, rfl, rfl, SqL.of L9.1, at_of (j := i) (by omega) (refs_get hGi), _, rfl, _, rfl, _, rfl, _, _, rfl, rfl, R, _, _, _, rfl, rfl, SqL.of LF9.1, at_of (j := d + i) (by omega) (refs_get hFi), _, _, dp_ints (SqL.of (L9.2 _ mGi).1), dp_ints (SqL.of (LF9.2 _ mFi).1), shaped_ints _, shaped_ints _, _, rfl, ?_⟩
      rw [eqv_ints, eqi, decide_eq_true rfl]
      exact iteF ⟨_, rfl, rfl⟩
    rintro σ H' ⟨v8, rfl, rfl⟩
    -- if not _law_refused([], 1) or not _law_refused(passed, 9 - data) or not _law_refused(passed, -1)
    refine ⟨Nat.zero_le _, fun q1 n1 => ?_⟩
    have S1 := Same.new (o := .lst []) n1
    refine ⟨q1, [], 1, rfl, ⟨SqL.of upd_same, fun _ m => nomatch m⟩, by simp, by simp, by decide, by decide, .inl rfl, fun H10 s10 => ⟨true, rfl, iteF ?_⟩⟩
    have LG10 := (LG9.same S1).same s10
    have P10 := (P9.same S1).same s10
    refine ⟨_, rfl, _, rfl, _, _, rfl, rfl, D, G, 9 - (d : Int), rfl, LG10.rl, by omega, by rw [g0]; omega, by omega, by omega, .inr (.inr (.inl (by rw [snds_len]; omega))), fun H11 s11 => ⟨true, rfl, iteF ?_⟩⟩
    have LG11 := LG10.same s11
    have P11 := P10.same s11
    refine ⟨_, rfl, _, rfl, D, G, -1, rfl, LG11.rl, by omega, by rw [g0]; omega, by decide, by decide, .inr (.inl (by decide)), fun H12 s12 => ⟨true, rfl, iteF ?_⟩⟩
    have LG12 := LG11.same s12
    have P12 := P11.same s12
    -- at = _law_next(pot, data)
    refine ⟨_, rfl, _, rfl, p, l, (d : Int), rfl, P12, by omega, by omega, fun at1 H13 at0 at2 P13 o13 => ?_⟩
    obtain ⟨at', rfl⟩ : ∃ n : Nat, at1 = (n : Int) := ⟨at1.toNat, by omega⟩
    have nDp : D ≠ p := P12.noList LG12.1 fun i a b q => by
      have : (refs G).length = 4 := by rw [q]; rfl
      cases G with
      | nil => simp [refs] at this
      | cons e G' => 
        simp only [refs, List.map_cons, List.cons.injEq] at q
        cases G' with
        | nil => simp at q
        | cons e2 G'' => simp only [List.map_cons, List.cons.injEq] at q; exact V.noConfusion q.2.1
    have LG13 := LG12.but P12 nDp o13.but
    clear LG12 LG11 LG10 LG9 P12 P11 P10
    -- wrong = [list(piece) for piece in passed]
    refine ⟨_, rfl, D, rfl, ⟨_, SqL.of LG13.1⟩, fun D2 nD2 => lc_list (K := K) (a := D) (xs := refs G) (fun i H' => ∃ G' : List (Addr × List Int), Same H13 H' ∧ LA H' D2 G' ∧ snds G' = (snds G).take i)
      ⟨[], Same.new nD2, ⟨upd_same, fun _ m => nomatch m⟩, rfl⟩ (fun i H' _ ⟨_, s', _⟩ => s'.seq (SqL.of LG13.1)) ?_ ?_⟩
    · rintro i y H' hi ⟨G', s', L', hG'⟩
      obtain ⟨e, he, rfl⟩ := refs_item hi
      have li := item_lt he
      have lG' : G'.length ≤ i := by
        have := congrArg List.length hG'
        rw [snds_len, List.length_take] at this
        omega
      have me := List.mem_of_getElem? he
      refine ⟨rfl, _, rfl, e.1, _, rfl, .inl (SqL.of (s' _ _ (LG13.2 e me).1)), fun W nW => ?_⟩
      have sW := Same.new (o := .lst (e.2.map V.int)) nW
      have nWR : W ≠ D2 := (ne_of_none L'.1 nW).symm
      have Lw := L'.same sW
      refine ⟨_, Lw.1, small _ (by rw [refs_len]; omega), G' ++ [(W, e.2)], same_put (s'.trans sW) nD2, ?_, ?_⟩
      · have eq : refs G' ++ [V.ref W] = refs (G' ++ [(W, e.2)]) := by unfold refs; rw [List.map_append]; rfl
        rw [eq]
        refine LA.put fun e' me' => ?_
        rcases List.mem_append.mp me' with me' | me'
        · exact Lw.2 e' me'
        · have : e' = (W, e.2) := by simpa using me'
          subst this
          exact ⟨upd_same, nWR⟩
      · have g : (snds G)[i]? = some e.2 := by rw [List.getElem?_map, he]; rfl
        rw [take_snoc g, ← hG']
        show (G' ++ [(W, e.2)]).map (·.2) = _
        rw [List.map_append]
        rfl
    rintro H14 ⟨G2, s14, L14, hG2⟩
    rw [List.take_of_length_le (by rw [refs_len, snds_len]; exact Nat.le_refl _)] at hG2
    have lG2 : G2.length = d := by rw [← snds_len, hG2, snds_len, lG]
    -- wrong[at] = wrong[at] + [0]
    have hAt : G2[at']? = some G2[at'] := List.getElem?_eq_getElem (by omega)
    have mAt := List.mem_of_getElem? hAt
    refine ⟨_, rfl, _, rfl, D2, _, _, _, rfl, rfl, SqL.of L14.1, at_of (j := at') rfl (refs_get hAt), (by show 1 ≤ sizeLine; decide), fun q2 n2 => ?_⟩
    have S3 := Same.new (o := .lst [V.int 0]) n2
    have L15 := L14.same S3
    refine ⟨G2[at'].1, q2, _, _, rfl, rfl, (L15.2 _ mAt).1, upd_same, Nat.le_of_lt (small _ ?_), fun q3 n3 => ?_⟩
    · have : G2[at'].2 ∈ snds G := by rw [← hG2]; exact List.mem_map.mpr ⟨_, mAt, rfl⟩
      obtain ⟨e', m', q⟩ := List.mem_map.mp this
      have := rG _ m'
      rw [q] at this
      simp
      omega
    have ev : G2[at'].2.map V.int ++ [V.int 0] = (G2[at'].2 ++ [0]).map V.int := by rw [List.map_append]; rfl
    rw [ev]
    have S4 := Same.new (o := .lst ((G2[at'].2 ++ [0]).map V.int)) n3
    have L16 := L15.same S4
    have dq3 : upd (upd H14 q2 (.lst [V.int 0])) q3 (.lst ((G2[at'].2 ++ [0]).map V.int)) q3 = some (.lst ((G2[at'].2 ++ [0]).map V.int)) := upd_same
    have nq3 : q3 ≠ D2 := (ne_of_none L15.1 n3).symm
    refine ⟨_, rfl, _, rfl, D2, _, _, at', rfl, rfl, L16.1, ixN_nat (by rw [refs_len]; omega), ?_⟩
    have rs : (refs G2).set at' (V.ref q3) = refs (G2.set at' (q3, G2[at'].2 ++ [0])) := by simp [refs, List.map_set]
    rw [rs]
    have L17 : LA (upd (upd (upd H14 q2 (.lst [V.int 0])) q3 (.lst ((G2[at'].2 ++ [0]).map V.int))) D2 (.lst (refs (G2.set at' (q3, G2[at'].2 ++ [0]))))) D2 (G2.set at' (q3, G2[at'].2 ++ [0])) := LA.put fun e me => by
      obtain ⟨m, hm⟩ := List.mem_iff_getElem?.mp me
      rcases item_set hm with ⟨_, z, _⟩ | ⟨_, z⟩
      · subst z
        exact ⟨dq3, nq3⟩
      · exact L16.2 e (List.mem_of_getElem? z)
    refine ⟨_, rfl, rfl, _, rfl, ite2 (fun _ => k _) (fun q => ?_)⟩
    have d2 : d ≠ 1 := fun z => q (decide_eq_true (by rw [z]; rfl))
    have rG2 : ∀ e ∈ G2, e.2.length = n := fun e m => by
      have : e.2 ∈ snds G := by rw [← hG2]; exact List.mem_map.mpr ⟨_, m, rfl⟩
      obtain ⟨e', m', q⟩ := List.mem_map.mp this
      rw [← q]
      exact rG _ m'
    have g00 : G2[0]? = some G2[0] := List.getElem?_eq_getElem (by omega)
    have g01 : G2[1]? = some G2[1] := List.getElem?_eq_getElem (by omega)
    have r0 := rG2 _ (List.mem_of_getElem? g00)
    have r1 := rG2 _ (List.mem_of_getElem? g01)
    have ra := rG2 _ mAt
    have first : ((snds (G2.set at' (q3, G2[at'].2 ++ [0]))).getD 0 []).length = if at' = 0 then n + 1 else n := by
      by_cases q0 : at' = 0
      · have : (G2.set at' (q3, G2[at'].2 ++ [0]))[0]? = some (q3, G2[at'].2 ++ [0]) := by rw [List.getElem?_set, if_pos q0, if_pos (by omega)]
        rw [snds_get this, if_pos q0, List.length_append, ra]
        rfl
      · have : (G2.set at' (q3, G2[at'].2 ++ [0]))[0]? = some G2[0] := by rw [List.getElem?_set, if_neg q0, g00]
        rw [snds_get this, if_neg q0, r0]
    refine ⟨_, rfl, D2, G2.set at' (q3, G2[at'].2 ++ [0]), 0, rfl, L17.rl, by rw [List.length_set]; omega, by rw [first]; split <;> omega, by decide, by decide, .inr (.inr (.inr ?_)), fun H' _ => k H'⟩
    unfold BadLen
    rw [first]
    by_cases q0 : at' = 0
    · refine ⟨G2[1].2, List.mem_map.mpr ⟨G2[1], List.mem_of_getElem? (i := 1) ?_, rfl⟩, by rw [if_pos q0]; omega⟩
      rw [List.getElem?_set, if_neg (by omega), g01]
    · refine ⟨G2[at'].2 ++ [0], List.mem_map.mpr ⟨(q3, G2[at'].2 ++ [0]), List.mem_of_getElem? (i := at') ?_, rfl⟩, by rw [if_neg q0, List.length_append, ra]; simp⟩
      rw [List.getElem?_set, if_pos rfl, if_pos (by omega)]
end
theorem all_mk {l : PySem.W.OpenLaw} {w : World} {K : PySem.W.Frag} {h : Heap} {mg : Str → Option Value} {fa : Addr} (X : K.In h) (G : h.Ns mainGlobals mg) (hfa : mg "law" = some (.ref fa))
    {f_inverse : Addr} {oc_inverse kV_inverse dc_inverse pm_inverse cd_inverse ct_inverse : Value} {od_inverse an_inverse : Option Addr} {sl_inverse : Array (Option Value)}
    {f_weight : Addr} {oc_weight kV_weight dc_weight pm_weight cd_weight ct_weight : Value} {od_weight an_weight : Option Addr} {sl_weight : Array (Option Value)}
    {f_weights : Addr} {oc_weights kV_weights dc_weights pm_weights cd_weights ct_weights : Value} {od_weights an_weights : Option Addr} {sl_weights : Array (Option Value)}
    {f_check_lengths : Addr} {oc_check_lengths kV_check_lengths dc_check_lengths pm_check_lengths cd_check_lengths ct_check_lengths : Value} {od_check_lengths an_check_lengths : Option Addr} {sl_check_lengths : Array (Option Value)}
    {f_piece_at : Addr} {oc_piece_at kV_piece_at dc_piece_at pm_piece_at cd_piece_at ct_piece_at : Value} {od_piece_at an_piece_at : Option Addr} {sl_piece_at : Array (Option Value)}
    {f_encode : Addr} {oc_encode kV_encode dc_encode pm_encode cd_encode ct_encode : Value} {od_encode an_encode : Option Addr} {sl_encode : Array (Option Value)}
    {f_law_pot : Addr} {oc_law_pot kV_law_pot dc_law_pot pm_law_pot cd_law_pot ct_law_pot : Value} {od_law_pot an_law_pot : Option Addr} {sl_law_pot : Array (Option Value)}
    {f_law_next : Addr} {oc_law_next kV_law_next dc_law_next pm_law_next cd_law_next ct_law_next : Value} {od_law_next an_law_next : Option Addr} {sl_law_next : Array (Option Value)}
    {f_law_word : Addr} {oc_law_word kV_law_word dc_law_word pm_law_word cd_law_word ct_law_word : Value} {od_law_word an_law_word : Option Addr} {sl_law_word : Array (Option Value)}
    {f_law_words : Addr} {oc_law_words kV_law_words dc_law_words pm_law_words cd_law_words ct_law_words : Value} {od_law_words an_law_words : Option Addr} {sl_law_words : Array (Option Value)}
    {f_law_horner : Addr} {oc_law_horner kV_law_horner dc_law_horner pm_law_horner cd_law_horner ct_law_horner : Value} {od_law_horner an_law_horner : Option Addr} {sl_law_horner : Array (Option Value)}
    {f_law_stripe : Addr} {oc_law_stripe kV_law_stripe dc_law_stripe pm_law_stripe cd_law_stripe ct_law_stripe : Value} {od_law_stripe an_law_stripe : Option Addr} {sl_law_stripe : Array (Option Value)}
    {f_law_is_words : Addr} {oc_law_is_words kV_law_is_words dc_law_is_words pm_law_is_words cd_law_is_words ct_law_is_words : Value} {od_law_is_words an_law_is_words : Option Addr} {sl_law_is_words : Array (Option Value)}
    {f_law_refused : Addr} {oc_law_refused kV_law_refused dc_law_refused pm_law_refused cd_law_refused ct_law_refused : Value} {od_law_refused an_law_refused : Option Addr} {sl_law_refused : Array (Option Value)}
    {f_law : Addr} {oc_law kV_law dc_law pm_law cd_law ct_law : Value} {od_law an_law : Option Addr} {sl_law : Array (Option Value)}
    {c_PoolError : Addr}
    {c_InvalidArgument : Addr}
    {tk_PRIME : Tok}
    {tk_MAX_PIECES : Tok}
    (a_inverse : PySem.W.nsIn K mainGlobals "inverse" = some (some (.ref f_inverse)))
    (l_inverse : K.lookup f_inverse = some ⟨oc_inverse, od_inverse, .func (PySem.W.fnOf "inverse" "inverse" (defArgs s_inverse) (defBody s_inverse) (defScope s_inverse) .none kV_inverse dc_inverse pm_inverse an_inverse cd_inverse ct_inverse), sl_inverse⟩)
    (q_inverse : PySem.W.codeIn K cd_inverse "inverse" = true)
    (k_inverse : PySem.W.keepIn K (.ref f_inverse) = true)
    (a_weight : PySem.W.nsIn K mainGlobals "weight" = some (some (.ref f_weight)))
    (l_weight : K.lookup f_weight = some ⟨oc_weight, od_weight, .func (PySem.W.fnOf "weight" "weight" (defArgs s_weight) (defBody s_weight) (defScope s_weight) .none kV_weight dc_weight pm_weight an_weight cd_weight ct_weight), sl_weight⟩)
    (q_weight : PySem.W.codeIn K cd_weight "weight" = true)
    (k_weight : PySem.W.keepIn K (.ref f_weight) = true)
    (a_weights : PySem.W.nsIn K mainGlobals "weights" = some (some (.ref f_weights)))
    (l_weights : K.lookup f_weights = some ⟨oc_weights, od_weights, .func (PySem.W.fnOf "weights" "weights" (defArgs s_weights) (defBody s_weights) (defScope s_weights) .none kV_weights dc_weights pm_weights an_weights cd_weights ct_weights), sl_weights⟩)
    (q_weights : PySem.W.codeIn K cd_weights "weights" = true)
    (k_weights : PySem.W.keepIn K (.ref f_weights) = true)
    (a_check_lengths : PySem.W.nsIn K mainGlobals "check_lengths" = some (some (.ref f_check_lengths)))
    (l_check_lengths : K.lookup f_check_lengths = some ⟨oc_check_lengths, od_check_lengths, .func (PySem.W.fnOf "check_lengths" "check_lengths" (defArgs s_check_lengths) (defBody s_check_lengths) (defScope s_check_lengths) .none kV_check_lengths dc_check_lengths pm_check_lengths an_check_lengths cd_check_lengths ct_check_lengths), sl_check_lengths⟩)
    (q_check_lengths : PySem.W.codeIn K cd_check_lengths "check_lengths" = true)
    (k_check_lengths : PySem.W.keepIn K (.ref f_check_lengths) = true)
    (a_piece_at : PySem.W.nsIn K mainGlobals "piece_at" = some (some (.ref f_piece_at)))
    (l_piece_at : K.lookup f_piece_at = some ⟨oc_piece_at, od_piece_at, .func (PySem.W.fnOf "piece_at" "piece_at" (defArgs s_piece_at) (defBody s_piece_at) (defScope s_piece_at) .none kV_piece_at dc_piece_at pm_piece_at an_piece_at cd_piece_at ct_piece_at), sl_piece_at⟩)
    (q_piece_at : PySem.W.codeIn K cd_piece_at "piece_at" = true)
    (k_piece_at : PySem.W.keepIn K (.ref f_piece_at) = true)
    (a_encode : PySem.W.nsIn K mainGlobals "encode" = some (some (.ref f_encode)))
    (l_encode : K.lookup f_encode = some ⟨oc_encode, od_encode, .func (PySem.W.fnOf "encode" "encode" (defArgs s_encode) (defBody s_encode) (defScope s_encode) .none kV_encode dc_encode pm_encode an_encode cd_encode ct_encode), sl_encode⟩)
    (q_encode : PySem.W.codeIn K cd_encode "encode" = true)
    (k_encode : PySem.W.keepIn K (.ref f_encode) = true)
    (a_law_pot : PySem.W.nsIn K mainGlobals "_law_pot" = some (some (.ref f_law_pot)))
    (l_law_pot : K.lookup f_law_pot = some ⟨oc_law_pot, od_law_pot, .func (PySem.W.fnOf "_law_pot" "_law_pot" (defArgs s_law_pot) (defBody s_law_pot) (defScope s_law_pot) .none kV_law_pot dc_law_pot pm_law_pot an_law_pot cd_law_pot ct_law_pot), sl_law_pot⟩)
    (q_law_pot : PySem.W.codeIn K cd_law_pot "_law_pot" = true)
    (k_law_pot : PySem.W.keepIn K (.ref f_law_pot) = true)
    (a_law_next : PySem.W.nsIn K mainGlobals "_law_next" = some (some (.ref f_law_next)))
    (l_law_next : K.lookup f_law_next = some ⟨oc_law_next, od_law_next, .func (PySem.W.fnOf "_law_next" "_law_next" (defArgs s_law_next) (defBody s_law_next) (defScope s_law_next) .none kV_law_next dc_law_next pm_law_next an_law_next cd_law_next ct_law_next), sl_law_next⟩)
    (q_law_next : PySem.W.codeIn K cd_law_next "_law_next" = true)
    (k_law_next : PySem.W.keepIn K (.ref f_law_next) = true)
    (a_law_word : PySem.W.nsIn K mainGlobals "_law_word" = some (some (.ref f_law_word)))
    (l_law_word : K.lookup f_law_word = some ⟨oc_law_word, od_law_word, .func (PySem.W.fnOf "_law_word" "_law_word" (defArgs s_law_word) (defBody s_law_word) (defScope s_law_word) .none kV_law_word dc_law_word pm_law_word an_law_word cd_law_word ct_law_word), sl_law_word⟩)
    (q_law_word : PySem.W.codeIn K cd_law_word "_law_word" = true)
    (k_law_word : PySem.W.keepIn K (.ref f_law_word) = true)
    (a_law_words : PySem.W.nsIn K mainGlobals "_law_words" = some (some (.ref f_law_words)))
    (l_law_words : K.lookup f_law_words = some ⟨oc_law_words, od_law_words, .func (PySem.W.fnOf "_law_words" "_law_words" (defArgs s_law_words) (defBody s_law_words) (defScope s_law_words) .none kV_law_words dc_law_words pm_law_words an_law_words cd_law_words ct_law_words), sl_law_words⟩)
    (q_law_words : PySem.W.codeIn K cd_law_words "_law_words" = true)
    (k_law_words : PySem.W.keepIn K (.ref f_law_words) = true)
    (a_law_horner : PySem.W.nsIn K mainGlobals "_law_horner" = some (some (.ref f_law_horner)))
    (l_law_horner : K.lookup f_law_horner = some ⟨oc_law_horner, od_law_horner, .func (PySem.W.fnOf "_law_horner" "_law_horner" (defArgs s_law_horner) (defBody s_law_horner) (defScope s_law_horner) .none kV_law_horner dc_law_horner pm_law_horner an_law_horner cd_law_horner ct_law_horner), sl_law_horner⟩)
    (q_law_horner : PySem.W.codeIn K cd_law_horner "_law_horner" = true)
    (k_law_horner : PySem.W.keepIn K (.ref f_law_horner) = true)
    (a_law_stripe : PySem.W.nsIn K mainGlobals "_law_stripe" = some (some (.ref f_law_stripe)))
    (l_law_stripe : K.lookup f_law_stripe = some ⟨oc_law_stripe, od_law_stripe, .func (PySem.W.fnOf "_law_stripe" "_law_stripe" (defArgs s_law_stripe) (defBody s_law_stripe) (defScope s_law_stripe) .none kV_law_stripe dc_law_stripe pm_law_stripe an_law_stripe cd_law_stripe ct_law_stripe), sl_law_stripe⟩)
    (q_law_stripe : PySem.W.codeIn K cd_law_stripe "_law_stripe" = true)
    (k_law_stripe : PySem.W.keepIn K (.ref f_law_stripe) = true)
    (a_law_is_words : PySem.W.nsIn K mainGlobals "_law_is_words" = some (some (.ref f_law_is_words)))
    (l_law_is_words : K.lookup f_law_is_words = some ⟨oc_law_is_words, od_law_is_words, .func (PySem.W.fnOf "_law_is_words" "_law_is_words" (defArgs s_law_is_words) (defBody s_law_is_words) (defScope s_law_is_words) .none kV_law_is_words dc_law_is_words pm_law_is_words an_law_is_words cd_law_is_words ct_law_is_words), sl_law_is_words⟩)
    (q_law_is_words : PySem.W.codeIn K cd_law_is_words "_law_is_words" = true)
    (k_law_is_words : PySem.W.keepIn K (.ref f_law_is_words) = true)
    (a_law_refused : PySem.W.nsIn K mainGlobals "_law_refused" = some (some (.ref f_law_refused)))
    (l_law_refused : K.lookup f_law_refused = some ⟨oc_law_refused, od_law_refused, .func (PySem.W.fnOf "_law_refused" "_law_refused" (defArgs s_law_refused) (defBody s_law_refused) (defScope s_law_refused) .none kV_law_refused dc_law_refused pm_law_refused an_law_refused cd_law_refused ct_law_refused), sl_law_refused⟩)
    (q_law_refused : PySem.W.codeIn K cd_law_refused "_law_refused" = true)
    (k_law_refused : PySem.W.keepIn K (.ref f_law_refused) = true)
    (a_law : PySem.W.nsIn K mainGlobals "law" = some (some (.ref f_law)))
    (l_law : K.lookup f_law = some ⟨oc_law, od_law, .func (PySem.W.fnOf "law" "law" (defArgs s_law) (defBody s_law) (defScope s_law) .none kV_law dc_law pm_law an_law cd_law ct_law), sl_law⟩)
    (q_law : PySem.W.codeIn K cd_law "law" = true)
    (k_law : PySem.W.keepIn K (.ref f_law) = true)
    (a_PRIME : PySem.W.nsIn K mainGlobals "PRIME" = some (some (.int 65521 tk_PRIME)))
    (a_MAX_PIECES : PySem.W.nsIn K mainGlobals "MAX_PIECES" = some (some (.int 8 tk_MAX_PIECES)))
    (n_enumerate : PySem.W.nsIn K mainGlobals "enumerate" = some none)
    (n_len : PySem.W.nsIn K mainGlobals "len" = some none)
    (n_sum : PySem.W.nsIn K mainGlobals "sum" = some none)
    (n_zip : PySem.W.nsIn K mainGlobals "zip" = some none)
    (n_list : PySem.W.nsIn K mainGlobals "list" = some none)
    (n_range : PySem.W.nsIn K mainGlobals "range" = some none)
    (n_int : PySem.W.nsIn K mainGlobals "int" = some none)
    (n_abs : PySem.W.nsIn K mainGlobals "abs" = some none)
    (n_isinstance : PySem.W.nsIn K mainGlobals "isinstance" = some none)
    (n_bool : PySem.W.nsIn K mainGlobals "bool" = some none)
    (a_PoolError : PySem.W.nsIn K mainGlobals "PoolError" = some (some (.ref c_PoolError)))
    (x_PoolError : PySem.W.excIn K c_PoolError [.type "ValueError", .type "Exception", .type "BaseException", .type "object"] "ValueError.__new__" = true)
    (k_PoolError : PySem.W.keepIn K (.ref c_PoolError) = true)
    (b_PoolError : PySem.W.subIn K (.ref c_PoolError) (.type "BaseException") = some true)
    (t_PoolError : PySem.W.typeIn K (.ref c_PoolError) = some (.type "type"))
    (E1_PoolError : PySem.W.findIn K (.ref c_PoolError) "__getattribute__" = some (some (.builtin "BaseException.__getattribute__")))
    (E2_PoolError : PySem.W.findIn K (.ref c_PoolError) "__getattr__" = some none)
    (E3_PoolError : PySem.W.hasDictIn K c_PoolError = true)
    (E4_PoolError : PySem.W.findIn K (.ref c_PoolError) "__class__" = some (some (.builtin "object.__class__")))
    (s_PoolError : PySem.W.subIn K (.ref c_PoolError) (.ref c_PoolError) = some true)
    (E5_PoolError : PySem.W.mroIn K c_PoolError (.type "object") = some true)
    (a_InvalidArgument : PySem.W.nsIn K mainGlobals "InvalidArgument" = some (some (.ref c_InvalidArgument)))
    (x_InvalidArgument : PySem.W.excIn K c_InvalidArgument [.type "ValueError", .type "Exception", .type "BaseException", .type "object"] "ValueError.__new__" = true)
    (k_InvalidArgument : PySem.W.keepIn K (.ref c_InvalidArgument) = true)
    (b_InvalidArgument : PySem.W.subIn K (.ref c_InvalidArgument) (.type "BaseException") = some true)
    (t_InvalidArgument : PySem.W.typeIn K (.ref c_InvalidArgument) = some (.type "type"))
    (E1_InvalidArgument : PySem.W.findIn K (.ref c_InvalidArgument) "__getattribute__" = some (some (.builtin "BaseException.__getattribute__")))
    (E2_InvalidArgument : PySem.W.findIn K (.ref c_InvalidArgument) "__getattr__" = some none)
    (E3_InvalidArgument : PySem.W.hasDictIn K c_InvalidArgument = true)
    (E4_InvalidArgument : PySem.W.findIn K (.ref c_InvalidArgument) "__class__" = some (some (.builtin "object.__class__")))
    (s_InvalidArgument : PySem.W.subIn K (.ref c_InvalidArgument) (.ref c_InvalidArgument) = some true)
    (E5_InvalidArgument : PySem.W.mroIn K c_InvalidArgument (.type "object") = some true)
    (E6 : PySem.W.specialIn K (.builtin "object.__class__") "__get__" = some (some (.builtin "getset_descriptor.__get__")))
    (E7 : PySem.W.takesIn K (.builtin "object.__class__") = some true)
    (u_InvalidArgument_PoolError : PySem.W.subIn K (.ref c_InvalidArgument) (.ref c_PoolError) = some true) :
    ∃ fd : FuncData, (∀ (s : Shared) (v : Value), BindsTo s fd ⟨[v], []⟩ [("script", v)]) ∧ ∀ base : Heap, K.In base → base.Ns mainGlobals mg → FnOk l.prog w K mg base CX0 7 fa fd ["script"] (sp_law0 K) := by
  have e := hfa.symm.trans (PySem.W.mg_of X G a_law)
  cases e
  have F_inverse := fun_mk (st := s_inverse) l_inverse q_inverse k_inverse
  have d_inverse := F_inverse.binds (ps := ["a"]) fun _ _ _ _ _ _ us hl => match us, hl with | [_], _ => rfl
  have F_weight := fun_mk (st := s_weight) l_weight q_weight k_weight
  have d_weight := F_weight.binds (ps := ["place", "others", "x"]) fun _ _ _ _ _ _ us hl => match us, hl with | [_, _, _], _ => rfl
  have F_weights := fun_mk (st := s_weights) l_weights q_weights k_weights
  have d_weights := F_weights.binds (ps := ["places", "x"]) fun _ _ _ _ _ _ us hl => match us, hl with | [_, _], _ => rfl
  have F_check_lengths := fun_mk (st := s_check_lengths) l_check_lengths q_check_lengths k_check_lengths
  have d_check_lengths := F_check_lengths.binds (ps := ["pieces"]) fun _ _ _ _ _ _ us hl => match us, hl with | [_], _ => rfl
  have F_piece_at := fun_mk (st := s_piece_at) l_piece_at q_piece_at k_piece_at
  have d_piece_at := F_piece_at.binds (ps := ["known", "places", "number"]) fun _ _ _ _ _ _ us hl => match us, hl with | [_, _, _], _ => rfl
  have F_encode := fun_mk (st := s_encode) l_encode q_encode k_encode
  have d_encode := F_encode.binds (ps := ["pieces", "parity"]) fun _ _ _ _ _ _ us hl => match us, hl with | [_, _], _ => rfl
  have F_law_pot := fun_mk (st := s_law_pot) l_law_pot q_law_pot k_law_pot
  have d_law_pot := F_law_pot.binds (ps := ["script"]) fun _ _ _ _ _ _ us hl => match us, hl with | [_], _ => rfl
  have F_law_next := fun_mk (st := s_law_next) l_law_next q_law_next k_law_next
  have d_law_next := F_law_next.binds (ps := ["pot", "limit"]) fun _ _ _ _ _ _ us hl => match us, hl with | [_, _], _ => rfl
  have F_law_word := fun_mk (st := s_law_word) l_law_word q_law_word k_law_word
  have d_law_word := F_law_word.binds (ps := ["pot"]) fun _ _ _ _ _ _ us hl => match us, hl with | [_], _ => rfl
  have F_law_words := fun_mk (st := s_law_words) l_law_words q_law_words k_law_words
  have d_law_words := F_law_words.binds (ps := ["pot", "count"]) fun _ _ _ _ _ _ us hl => match us, hl with | [_, _], _ => rfl
  have F_law_horner := fun_mk (st := s_law_horner) l_law_horner q_law_horner k_law_horner
  have d_law_horner := F_law_horner.binds (ps := ["numbers", "x"]) fun _ _ _ _ _ _ us hl => match us, hl with | [_, _], _ => rfl
  have F_law_stripe := fun_mk (st := s_law_stripe) l_law_stripe q_law_stripe k_law_stripe
  have d_law_stripe := F_law_stripe.binds (ps := ["pot", "data", "count", "length"]) fun _ _ _ _ _ _ us hl => match us, hl with | [_, _, _, _], _ => rfl
  have F_law_is_words := fun_mk (st := s_law_is_words) l_law_is_words q_law_is_words k_law_is_words
  have d_law_is_words := F_law_is_words.binds (ps := ["value", "count"]) fun _ _ _ _ _ _ us hl => match us, hl with | [_, _], _ => rfl
  have F_law_refused := fun_mk (st := s_law_refused) l_law_refused q_law_refused k_law_refused
  have d_law_refused := F_law_refused.binds (ps := ["pieces", "parity"]) fun _ _ _ _ _ _ us hl => match us, hl with | [_, _], _ => rfl
  have F_law := fun_mk (st := s_law) l_law q_law k_law
  have d_law := F_law.binds (ps := ["script"]) fun _ _ _ _ _ _ us hl => match us, hl with | [_], _ => rfl
  have T : Txt K mg ⟨f_inverse, _, f_weight, _, f_weights, _, f_check_lengths, _, f_piece_at, _, f_encode, _, f_law_pot, _, f_law_next, _, f_law_word, _, f_law_words, _, f_law_horner, _, f_law_stripe, _, f_law_is_words, _, f_law_refused, _, fa, _, c_PoolError, c_InvalidArgument⟩ := {
    F_inverse := F_inverse, g_inverse := PySem.W.mg_of X G a_inverse, d_inverse := d_inverse,
    F_weight := F_weight, g_weight := PySem.W.mg_of X G a_weight, d_weight := d_weight,
    F_weights := F_weights, g_weights := PySem.W.mg_of X G a_weights, d_weights := d_weights,
    F_check_lengths := F_check_lengths, g_check_lengths := PySem.W.mg_of X G a_check_lengths, d_check_lengths := d_check_lengths,
    F_piece_at := F_piece_at, g_piece_at := PySem.W.mg_of X G a_piece_at, d_piece_at := d_piece_at,
    F_encode := F_encode, g_encode := PySem.W.mg_of X G a_encode, d_encode := d_encode,
    F_law_pot := F_law_pot, g_law_pot := PySem.W.mg_of X G a_law_pot, d_law_pot := d_law_pot,
    F_law_next := F_law_next, g_law_next := PySem.W.mg_of X G a_law_next, d_law_next := d_law_next,
    F_law_word := F_law_word, g_law_word := PySem.W.mg_of X G a_law_word, d_law_word := d_law_word,
    F_law_words := F_law_words, g_law_words := PySem.W.mg_of X G a_law_words, d_law_words := d_law_words,
    F_law_horner := F_law_horner, g_law_horner := PySem.W.mg_of X G a_law_horner, d_law_horner := d_law_horner,
    F_law_stripe := F_law_stripe, g_law_stripe := PySem.W.mg_of X G a_law_stripe, d_law_stripe := d_law_stripe,
    F_law_is_words := F_law_is_words, g_law_is_words := PySem.W.mg_of X G a_law_is_words, d_law_is_words := d_law_is_words,
    F_law_refused := F_law_refused, g_law_refused := PySem.W.mg_of X G a_law_refused, d_law_refused := d_law_refused,
    F_law := F_law, g_law := PySem.W.mg_of X G a_law, d_law := d_law,
    g_PRIME := ⟨_, PySem.W.mg_of X G a_PRIME, ⟨_, rfl⟩⟩,
    g_MAX_PIECES := ⟨_, PySem.W.mg_of X G a_MAX_PIECES, ⟨_, rfl⟩⟩,
    n_enumerate := PySem.W.mg_none_of X G n_enumerate,
    n_len := PySem.W.mg_none_of X G n_len,
    n_sum := PySem.W.mg_none_of X G n_sum,
    n_zip := PySem.W.mg_none_of X G n_zip,
    n_list := PySem.W.mg_none_of X G n_list,
    n_range := PySem.W.mg_none_of X G n_range,
    n_int := PySem.W.mg_none_of X G n_int,
    n_abs := PySem.W.mg_none_of X G n_abs,
    n_isinstance := PySem.W.mg_none_of X G n_isinstance,
    n_bool := PySem.W.mg_none_of X G n_bool,
    g_PoolError := PySem.W.mg_of X G a_PoolError, x_PoolError := x_PoolError, k_PoolError := k_PoolError, b_PoolError := b_PoolError, t_PoolError := t_PoolError, E_PoolError := ⟨E1_PoolError, E2_PoolError, b_PoolError, E3_PoolError, E4_PoolError, E6, E7, E5_PoolError⟩,
    g_InvalidArgument := PySem.W.mg_of X G a_InvalidArgument, x_InvalidArgument := x_InvalidArgument, k_InvalidArgument := k_InvalidArgument, b_InvalidArgument := b_InvalidArgument, t_InvalidArgument := t_InvalidArgument, E_InvalidArgument := ⟨E1_InvalidArgument, E2_InvalidArgument, b_InvalidArgument, E3_InvalidArgument, E4_InvalidArgument, E6, E7, E5_InvalidArgument⟩,
    u_InvalidArgument_PoolError := PySem.W.exm_ref b_PoolError E3_PoolError t_PoolError u_InvalidArgument_PoolError,
    i_InvalidArgument_InvalidArgument := kit_self }
  exact ⟨PySem.W.fnOf "law" "law" (defArgs s_law) (defBody s_law) (defScope s_law) .none kV_law dc_law pm_law an_law cd_law ct_law, fun s v => .of_eq rfl, fun base _ _ => (ok_law T).imp fun vs H Q E h => h⟩
theorem walk {l : PySem.W.OpenLaw} {q : Program} {loose : List Str} {XP : (Str → Option Value) → Heap → Prop} {YP : World → Heap → Prop} {d : DefRec} {K : Params → PySem.W.Frag} (hn : l.most = some 63) (hdf : d.params.defaults = [])
    (hY : ∀ (w : World) (h : Heap), YP w h → (K w.params).In h)
    (F : ∀ (w : World) (mg : Str → Option Value) (fa : Addr) (h : Heap), (K w.params).In h → h.Ns mainGlobals mg → mg d.name = some (.ref fa) →
      ∃ fd : FuncData, (∀ (s : Shared) (u : Value), BindsTo s fd ⟨[u], []⟩ [("script", u)]) ∧ ∀ base : Heap, (K w.params).In base → base.Ns mainGlobals mg → FnOk l.prog w (K w.params) mg base CX0 7 fa fd ["script"] (sp_law0 (K w.params))) :
    PySem.W.WalkO q loose XP YP l.row.toRowW d [] (fun f vs => PySem.call f vs) :=
  L2.walk_of (n := 63) (k := 7) (x := "script") (CX := fun _ => CX0) (sp := fun w => sp_law0 (K w.params)) hn (by decide) hdf ⟨rfl, by decide, by decide⟩ hY F (fun _ _ a ns hl _ hS => ⟨a, ns, rfl, hS, hl, fun _ => rfl⟩) fun _ _ _ _ _ z => z
end PP
open PySem PySem.W PyProof.Rows
set_option maxRecDepth 100000 in
set_option maxHeartbeats 0 in
theorem PySem.Challenge.cw_paritypool_k07_encode_holds : PySem.Challenge.rw_paritypool_k07_encode.Holds := by
  w_on; o_law; k_head; (case hw => w_witness2)
  k_fill
  refine PP.walk (l := PySem.Challenge.rw_paritypool_k07_encode) rfl rfl (fun w h Y => PySem.W.kIn_of Y) ?F
  case F =>
    intro w mg fa h KX G hmg
    refine' PP.all_mk KX G hmg ?a_inverse ?l_inverse ?q_inverse ?k_inverse ?a_weight ?l_weight ?q_weight ?k_weight ?a_weights ?l_weights ?q_weights ?k_weights ?a_check_lengths ?l_check_lengths ?q_check_lengths ?k_check_lengths ?a_piece_at ?l_piece_at ?q_piece_at ?k_piece_at ?a_encode ?l_encode ?q_encode ?k_encode ?a_law_pot ?l_law_pot ?q_law_pot ?k_law_pot ?a_law_next ?l_law_next ?q_law_next ?k_law_next ?a_law_word ?l_law_word ?q_law_word ?k_law_word ?a_law_words ?l_law_words ?q_law_words ?k_law_words ?a_law_horner ?l_law_horner ?q_law_horner ?k_law_horner ?a_law_stripe ?l_law_stripe ?q_law_stripe ?k_law_stripe ?a_law_is_words ?l_law_is_words ?q_law_is_words ?k_law_is_words ?a_law_refused ?l_law_refused ?q_law_refused ?k_law_refused ?a_law ?l_law ?q_law ?k_law ?a_PRIME ?a_MAX_PIECES ?n_enumerate ?n_len ?n_sum ?n_zip ?n_list ?n_range ?n_int ?n_abs ?n_isinstance ?n_bool ?a_PoolError ?x_PoolError ?k_PoolError ?b_PoolError ?t_PoolError ?E1_PoolError ?E2_PoolError ?E3_PoolError ?E4_PoolError ?s_PoolError ?E5_PoolError ?a_InvalidArgument ?x_InvalidArgument ?k_InvalidArgument ?b_InvalidArgument ?t_InvalidArgument ?E1_InvalidArgument ?E2_InvalidArgument ?E3_InvalidArgument ?E4_InvalidArgument ?s_InvalidArgument ?E5_InvalidArgument ?E6 ?E7 ?u_InvalidArgument_PoolError
    (case a_inverse => k_is)
    (case l_inverse => k_is)
    (case q_inverse => k_is)
    (case k_inverse => k_is)
    (case a_weight => k_is)
    (case l_weight => k_is)
    (case q_weight => k_is)
    (case k_weight => k_is)
    (case a_weights => k_is)
    (case l_weights => k_is)
    (case q_weights => k_is)
    (case k_weights => k_is)
    (case a_check_lengths => k_is)
    (case l_check_lengths => k_is)
    (case q_check_lengths => k_is)
    (case k_check_lengths => k_is)
    (case a_piece_at => k_is)
    (case l_piece_at => k_is)
    (case q_piece_at => k_is)
    (case k_piece_at => k_is)
    (case a_encode => k_is)
    (case l_encode => k_is)
    (case q_encode => k_is)
    (case k_encode => k_is)
    (case a_law_pot => k_is)
    (case l_law_pot => k_is)
    (case q_law_pot => k_is)
    (case k_law_pot => k_is)
    (case a_law_next => k_is)
    (case l_law_next => k_is)
    (case q_law_next => k_is)
    (case k_law_next => k_is)
    (case a_law_word => k_is)
    (case l_law_word => k_is)
    (case q_law_word => k_is)
    (case k_law_word => k_is)
    (case a_law_words => k_is)
    (case l_law_words => k_is)
    (case q_law_words => k_is)
    (case k_law_words => k_is)
    (case a_law_horner => k_is)
    (case l_law_horner => k_is)
    (case q_law_horner => k_is)
    (case k_law_horner => k_is)
    (case a_law_stripe => k_is)
    (case l_law_stripe => k_is)
    (case q_law_stripe => k_is)
    (case k_law_stripe => k_is)
    (case a_law_is_words => k_is)
    (case l_law_is_words => k_is)
    (case q_law_is_words => k_is)
    (case k_law_is_words => k_is)
    (case a_law_refused => k_is)
    (case l_law_refused => k_is)
    (case q_law_refused => k_is)
    (case k_law_refused => k_is)
    (case a_law => k_is)
    (case l_law => k_is)
    (case q_law => k_is)
    (case k_law => k_is)
    (case a_PRIME => k_is)
    (case a_MAX_PIECES => k_is)
    (case n_enumerate => k_is)
    (case n_len => k_is)
    (case n_sum => k_is)
    (case n_zip => k_is)
    (case n_list => k_is)
    (case n_range => k_is)
    (case n_int => k_is)
    (case n_abs => k_is)
    (case n_isinstance => k_is)
    (case n_bool => k_is)
    (case a_PoolError => k_is)
    (case x_PoolError => k_exc)
    (case k_PoolError => k_is)
    (case b_PoolError => k_is)
    (case t_PoolError => k_is)
    (case E1_PoolError => k_is)
    (case E2_PoolError => k_is)
    (case E3_PoolError => k_is)
    (case E4_PoolError => k_is)
    (case s_PoolError => first | rfl | k_is)
    (case E5_PoolError => k_is)
    (case a_InvalidArgument => k_is)
    (case x_InvalidArgument => k_exc)
    (case k_InvalidArgument => k_is)
    (case b_InvalidArgument => k_is)
    (case t_InvalidArgument => k_is)
    (case E1_InvalidArgument => k_is)
    (case E2_InvalidArgument => k_is)
    (case E3_InvalidArgument => k_is)
    (case E4_InvalidArgument => k_is)
    (case s_InvalidArgument => first | rfl | k_is)
    (case E5_InvalidArgument => k_is)
    (case E6 => k_is)
    (case E7 => k_is)
    (case u_InvalidArgument_PoolError => k_is)
