import PyProof.Rows.All
import Wide.All
import OpenK.AllK
import Wide.FinOn
import HandS.ForMost
import HandS.ForExc
import HandS.ExcIs
import HandS.IsInst
import HandS.Evl
import HandS.Walk
import HandS.Zip
import HandS.More
import HandS.Iter
import HandS.Star
import HandS.Conv
import HandS.Style
import PySem.Challenge.RW_paritypool_k10_whole_wrong_pieces
set_option Elab.async false
set_option linter.all false
set_option maxRecDepth 100000
set_option maxHeartbeats 2000000
namespace PySem
open Sem (wp)
namespace ZS

abbrev ZOb (h : Heap) (z TI TO : Addr) (f0 f1 : Value) : Prop :=
  h.get? z = some { cls := .type "zip", dict := none, data := .fields #[f0, f1, .bool false, .ref TI, .ref TO], slots := #[] }
abbrev refs1 (ps : List (Addr × Addr × Bool)) : List Value := ps.map fun p => .ref p.1
abbrev ZTup (h : Heap) (T : Addr) (xs : List Value) : Prop := h.get? T = some { cls := .type "tuple", data := .seq xs.toArray }
structure ZApart (z TI TO : Addr) (ps : List (Addr × Addr × Bool)) : Prop where
  TIz : TI ≠ z
  TOz : TO ≠ z
  TITO : TI ≠ TO
  it : ∀ p ∈ ps, p.1 ≠ z ∧ p.1 ≠ TI ∧ p.1 ≠ TO
  ls : ∀ p ∈ ps, p.2.1 ≠ z ∧ p.2.1 ≠ TO ∧ ∀ q ∈ ps, p.2.1 ≠ q.1
  nd : (ps.map (·.1)).Nodup
abbrev F0 (f : Value) : Prop := f = .none ∨ ∃ (a : Int) (t : Tok), f = .int a t
abbrev Keep (z TO : Addr) (ps : List (Addr × Addr × Bool)) (h h' : Heap) : Prop := ∀ c o, c ≠ z → c ≠ TO → (∀ p ∈ ps, c ≠ p.1) → h.get? c = some o → h'.get? c = some o

def clsI (k : Bool) : String := if k then "tuple_iterator" else "list_iterator"
def clsS (k : Bool) : String := if k then "tuple" else "list"
/-- an iterator over the list or tuple l, at its i-th item -/
def It1 (h : Heap) (it : Addr) (l : Addr × Bool) (i : Nat) : Prop := ∃ o, h.get? it = some o ∧ o.cls = .type (clsI l.2) ∧ o.data = .fields #[.ref l.1, .int i 0]
def Sq1 (h : Heap) (l : Addr × Bool) (items : Array Value) : Prop := ∃ o, h.get? l.1 = some o ∧ o.cls = .type (clsS l.2) ∧ ∃ n, o.data = .seq items n
theorem It1.extBut {h h' : Heap} {a b : Addr} {l : Addr × Bool} {i : Nat} (x : It1 h a l i) (hs : Heap.ExtBut b h h') (hab : a ≠ b) : It1 h' a l i := let ⟨o, ho, r⟩ := x; ⟨o, hs a o hab ho, r⟩
theorem It1.at {h h' : Heap} {a : Addr} {l : Addr × Bool} {i : Nat} (x : It1 h a l i) (hs : ∀ o, h.get? a = some o → h'.get? a = some o) : It1 h' a l i := let ⟨o, ho, r⟩ := x; ⟨o, hs o ho, r⟩
theorem Sq1.extBut {h h' : Heap} {b : Addr} {l : Addr × Bool} {xs : Array Value} (x : Sq1 h l xs) (hs : Heap.ExtBut b h h') (hab : l.1 ≠ b) : Sq1 h' l xs := let ⟨o, ho, r⟩ := x; ⟨o, hs l.1 o hab ho, r⟩
theorem nd_mid {ps1 ps2 : List (Addr × Addr × Bool)} {p : Addr × Addr × Bool} (h : ((ps1 ++ p :: ps2).map (·.1)).Nodup) : (∀ q ∈ ps1, q.1 ≠ p.1) ∧ (∀ q ∈ ps2, q.1 ≠ p.1) := by
  rw [List.map_append, List.map_cons, List.nodup_append] at h
  obtain ⟨_, h2, h3⟩ := h
  rw [List.nodup_cons] at h2
  exact ⟨fun q hq e => h3 q.1 (List.mem_map_of_mem hq) p.1 (by simp) e, fun q hq e => h2.1 (by rw [← e]; exact List.mem_map_of_mem hq)⟩

section
variable {prog : Program} {w : World} {A : Around} {E : Value → Shared → Prop} {s : Shared}

theorem nextOf_item {it : Addr} {l : Addr × Bool} {i : Nat} {items : Array Value} {x : Value} {Q : Value → Shared → Prop} (hit : It1 s.heap it l i)
    (hl : Sq1 s.heap l items) (hx : items[i]? = some x) (hQ : ∀ h', It1 h' it l (i + 1) → Heap.SameBut it s.heap h' → Q x { s with heap := h' }) :
    wpAny (model prog w) A (Builtin.SmallTypes.nextOf (.ref it)) Q E s := by
  obtain ⟨l, k⟩ := l
  cases k with
  | false => exact wpAny_nextOf_list_item hit hl hx hQ
  | true => exact RZ.nextOf_tuple_item hit hl hx hQ
theorem nextOf_end {it : Addr} {l : Addr × Bool} {i : Nat} {items : Array Value} {Q : Value → Shared → Prop} (hh : A.handled = none) (hit : It1 s.heap it l i)
    (hl : Sq1 s.heap l items) (hx : items[i]? = none) (hE : ∀ h' e, Heap.ExtBut it s.heap h' → (∃ o, h'.get? e = some o ∧ o.cls = .type "StopIteration") → E (.ref e) { s with heap := h' }) :
    wpAny (model prog w) A (Builtin.SmallTypes.nextOf (.ref it)) Q E s := by
  obtain ⟨l, k⟩ := l
  cases k with
  | false => exact wpAny_nextOf_list_end hh hit hl hx hE
  | true => exact RZ.nextOf_tuple_end hh hit hl hx hE
theorem pyIter_sq {l : Addr × Bool} {items : Array Value} {Q : Value → Shared → Prop} (hl : Sq1 s.heap l items)
    (hQ : Q (.ref s.heap.objs.size) { s with heap := s.heap.push { cls := .type (clsI l.2), data := .fields #[.ref l.1, .int 0 0] } }) : wpAny (model prog w) A (pyIter (.ref l.1)) Q E s := by
  obtain ⟨l, k⟩ := l
  cases k with
  | false => exact wpAny_pyIter_list hl hQ
  | true => exact wpAny_pyIter_tuple hl hQ
theorem updTup {T : Addr} {xs : List Value} {k : Nat} {x : Value} {Q : Unit → Shared → Prop} (hT : ZTup s.heap T xs) (hz : xs.length ≤ sizeLine)
    (h : ∀ h', ZTup h' T (xs.set k x) → Heap.SameBut T s.heap h' → Q () { s with heap := h' }) :
    wpAny (model prog w) A (updateSeq T (·.setIfInBounds k x)) Q E s := by
  refine wpAny_updateSeq hT rfl (h _ ?_ (Heap.SameBut.update ..)) (by simpa using hz) (by simp; omega)
  rw [ZTup, Heap.get?_update_self _ hT rfl]
  simp [Obj.mapSeq]

theorem wpAny_loadIfAlive {M : Model} {a : Addr} {Q : Option Obj → Shared → Prop} (h : Q (s.heap.get? a) s) : wpAny M A (loadIfAlive a) Q E s := fun _ _ _ => h
/-- the check whether the tuple is free: it may mark the zip object -/
theorem freeCheck {z TI TO : Addr} {f0 f1 : Value} {Q : Bool → Shared → Prop} (hz : ZOb s.heap z TI TO f0 f1) (hf : F0 f0)
    (h1 : Q true s) (h2 : ∀ h' f1', ZOb h' z TI TO f0 f1' → Heap.SameBut z s.heap h' → Q false { s with heap := h' }) :
    wpAny (model prog w) A (Builtin.SmallTypes.ownedTupleIsFree (.ref z)) Q E s := by
  unfold Builtin.SmallTypes.ownedTupleIsFree
  refine wpAny_bind (wpAny_field hz rfl (x := f0) rfl ?_)
  rcases hf with rfl | ⟨a, t, rfl⟩
  · exact wpAny_pure h1
  · refine wpAny_bind (wpAny_loadIfAlive ?_)
    cases hg : s.heap.get? a.toNat with
    | none => exact wpAny_pure h1
    | some o =>
      show wpAny _ _ (field (.ref z) 1 >>= _) _ _ _
      refine wpAny_bind (wpAny_field hz rfl (x := f1) rfl ?_)
      dsimp only
      split
      · refine wpAny_bind (wpAny_setField_rec hz (by simp) fun h₁ hz₁ hs₁ => ?_)
        exact wpAny_pure (h2 h₁ _ hz₁ hs₁)
      · exact wpAny_pure (h2 s.heap f1 hz ⟨rfl, fun _ _ => rfl⟩)

/-- one turn of zip(*lists): each list has an item at i -/
theorem zipS_next_item {z TI TO : Addr} {ps : List (Addr × Addr × Bool)} {i : Nat} {val : Addr × Bool → Value} {f0 f1 : Value} {ts : List Value} {Q : Value → Shared → Prop} (D : ZApart z TI TO ps)
    (hz : ZOb s.heap z TI TO f0 f1) (hf : F0 f0) (hTI : ZTup s.heap TI (refs1 ps)) (hTO : ZTup s.heap TO ts) (hts : ts.length = ps.length) (hn : ps.length ≤ sizeLine) (hne : ps ≠ [])
    (hit : ∀ p ∈ ps, It1 s.heap p.1 p.2 i) (hv : ∀ p ∈ ps, ∃ items, Sq1 s.heap p.2 items ∧ items[i]? = some (val p.2))
    (hQ : ∀ h' f0' f1', ZOb h' z TI TO f0' f1' → F0 f0' → (∃ ts', ZTup h' TO ts' ∧ ts'.length = ps.length) → (∀ p ∈ ps, It1 h' p.1 p.2 (i + 1)) → ZTup h' s.heap.objs.size (ps.map fun p => val p.2) →
      Keep z TO ps s.heap h' → Q (.ref s.heap.objs.size) { s with heap := h' }) :
    wpAny (model prog w) A (Builtin.«zip.__next__» ⟨[.ref z], []⟩) (fun fin s' => ∃ v, fin = .done (.ret v) ∧ Q v s') E s := by
  show wpAny _ _ (field (.ref z) 2 >>= _) _ _ _
  refine wpAny_bind (wpAny_field hz rfl (x := .bool false) rfl ?_)
  show wpAny _ _ (field (.ref z) 3 >>= _) _ _ _
  refine wpAny_bind (wpAny_field hz rfl (x := .ref TI) rfl ?_)
  refine wpAny_bind (wpAny_seqItems hTI rfl ?_)
  have hem : (refs1 ps).toArray.isEmpty = false := by cases ps with | nil => exact absurd rfl hne | cons _ _ => rfl
  simp only [hem]
  have hzlt : z < s.heap.objs.size := Heap.lt_size hz
  have hTOlt : TO < s.heap.objs.size := Heap.lt_size hTO
  show wpAny _ _ (Builtin.SmallTypes.ownedTupleIsFree (.ref z) >>= _) _ _ _
  refine wpAny_bind (freeCheck hz hf ?_ fun hA f1A hzA hsA => ?_)
  · simp only [if_true]
    refine wpAny_bind (wpAny_rule ?_)
    refine wpAny_bind (wpAny_field hz rfl (x := .ref TO) rfl ?_)
    refine wpAny_bind (wpAny_setField_rec hz (by simp) fun h₁ hz₁ hs₁ => ?_)
    replace hz₁ : ZOb h₁ z TI TO .ellipsis f1 := hz₁
    refine wpAny_bind ?_
    refine wpAny_forIn_list _ (fun rest b s' => ∃ ps1 ps2, ps = ps1 ++ ps2 ∧ rest = (refs1 ps2).zipIdx ps1.length ∧ b = (none, ()) ∧ ∃ h', s' = { s with heap := h' } ∧ ZOb h' z TI TO .ellipsis f1 ∧
      (∃ ts', ZTup h' TO ((ps1.map fun p => val p.2) ++ ts') ∧ ts'.length = ps2.length) ∧ (∀ p ∈ ps1, It1 h' p.1 p.2 (i + 1)) ∧ (∀ p ∈ ps2, It1 h' p.1 p.2 i) ∧ h'.objs.size = s.heap.objs.size ∧ Keep z TO ps s.heap h') _ ?_ ?_ _ _ ?_
    · rintro ⟨u, k⟩ rest b s' ⟨ps1, ps2, e, er, rfl, h', rfl, hz', ⟨ts', hTO', hl'⟩, ha, hb, hsz, hk⟩
      cases ps2 with
      | nil => simp at er
      | cons p ps2 =>
        simp only [refs1, List.map_cons, List.zipIdx_cons, List.cons.injEq, Prod.mk.injEq] at er
        obtain ⟨⟨rfl, rfl⟩, rfl⟩ := er
        cases ts' with
        | nil => simp at hl'
        | cons y ts' =>
        have hmem : p ∈ ps := by rw [e]; simp
        obtain ⟨pz, pTI, pTO⟩ := D.it p hmem
        obtain ⟨lz, lTO, lit⟩ := D.ls p hmem
        obtain ⟨items, hli, hx⟩ := hv p hmem
        obtain ⟨nd1, nd2⟩ := nd_mid (by rw [← e]; exact D.nd)
        have hli' : Sq1 h' p.2 items := by obtain ⟨o, ho, r⟩ := hli; exact ⟨o, hk _ _ lz lTO (fun q hq => lit q hq) ho, r⟩
        refine wpAny_bind (wpAny_onRaise ?_)
        show wpAny _ _ (Builtin.SmallTypes.nextOf (.ref p.1) >>= _) _ _ _
        refine wpAny_bind (nextOf_item (s := { s with heap := h' }) (hb p (by simp)) hli' hx fun h₂ h1₂ hs₂ => wpAny_pure ?_)
        have hTO₂ : ZTup h₂ TO ((ps1.map fun p => val p.2) ++ y :: ts') := hs₂.extBut _ _ (Ne.symm pTO) hTO'
        refine wpAny_bind (wpAny_seqItems (s := { s with heap := h₂ }) hTO₂ rfl ?_)
        have hlen : ((ps1.map fun p => val p.2) ++ y :: ts').length ≤ sizeLine := by
          rw [e] at hn; simp at hn hl' ⊢; omega
        refine wpAny_bind (updTup (s := { s with heap := h₂ }) hTO₂ hlen fun h₃ hTO₃ hs₃ => ?_)
        refine wpAny_bind (wpAny_letGo (wpAny_pure ?_))
        refine ⟨ps1 ++ [p], ps2, by rw [e]; simp, by simp [refs1], rfl, h₃, rfl, hs₃.extBut _ _ (Ne.symm D.TOz) (hs₂.extBut _ _ (Ne.symm pz) hz'), ⟨ts', ?_, by simpa using hl'⟩, ?_, ?_, ?_, ?_⟩
        · have e3 : (((ps1.map fun p => val p.2) ++ y :: ts').set ps1.length (val p.2)) = ((ps1 ++ [p]).map fun p => val p.2) ++ ts' := by
            rw [List.set_append_right _ _ (by simp)]; simp
          rw [← e3]; exact hTO₃
        · intro q hq
          rcases List.mem_append.1 hq with hq | hq
          · have hqm : q ∈ ps := by rw [e]; simp [hq]
            exact ((ha q hq).extBut hs₂.extBut (nd1 q hq)).extBut hs₃.extBut (D.it q hqm).2.2
          · simp only [List.mem_singleton] at hq
            subst hq
            exact h1₂.extBut hs₃.extBut pTO
        · intro q hq
          have hqm : q ∈ ps := by rw [e]; simp [hq]
          exact ((hb q (by simp [hq])).extBut hs₂.extBut (nd2 q hq)).extBut hs₃.extBut (D.it q hqm).2.2
        · rw [hs₃.1, hs₂.1]; exact hsz
        · intro c o c1 c2 c3 e'
          exact hs₃.extBut _ _ c2 (hs₂.extBut _ _ (c3 p hmem) (hk c o c1 c2 c3 e'))
    · rintro b s' ⟨ps1, ps2, e, er, rfl, h', rfl, hz', ⟨ts', hTO', hl'⟩, ha, hb, hsz, hk⟩
      have e2 : ps2 = [] := by
        cases ps2 with
        | nil => rfl
        | cons p ps2 => simp [refs1] at er
      subst e2
      have e3 : ts' = [] := by simpa using hl'
      subst e3
      simp only [List.append_nil] at e hTO'
      subst e
      refine wpAny_bind (wpAny_seqItems (s := { s with heap := h' }) hTO' rfl ?_)
      refine wpAny_bind (wpAny_newTuple (s := { s with heap := h' }) ?_ (by simpa using hn))
      show wpAny _ _ (Builtin.SmallTypes.ownedTupleHandOut (.ref z) (.ref h'.objs.size) >>= _) _ _ _
      refine wpAny_bind ?_
      unfold Builtin.SmallTypes.ownedTupleHandOut
      have hz₆ : ZOb (h'.push { cls := .type "tuple", data := .seq (ps.map fun p => val p.2).toArray.toList.toArray }) z TI TO .ellipsis f1 := Heap.get?_push_of_some _ hz'
      refine wpAny_bind (wpAny_setField_rec hz₆ (by simp) fun h₇ hz₇ hs₇ => ?_)
      replace hz₇ : ZOb h₇ z TI TO (rawInt h'.objs.size) f1 := hz₇
      refine wpAny_setField_rec hz₇ (by simp) fun h₈ hz₈ hs₈ => ?_
      replace hz₈ : ZOb h₈ z TI TO (rawInt h'.objs.size) (.bool false) := hz₈
      have hzl' : z < h'.objs.size := by rw [hsz]; exact hzlt
      have up : ∀ c o, c ≠ z → h'.get? c = some o → h₈.get? c = some o := fun c o c1 e => hs₈.extBut _ _ c1 (hs₇.extBut _ _ c1 (Heap.get?_push_of_some _ e))
      have hT₈ : ZTup h₈ h'.objs.size (ps.map fun p => val p.2) := by
        have z0 := hs₈.extBut _ _ (Nat.ne_of_gt hzl') (hs₇.extBut _ _ (Nat.ne_of_gt hzl') (Heap.get?_push_size h' rfl))
        simpa using z0
      refine wpAny_pure ⟨_, rfl, ?_⟩
      show Q (.ref h'.objs.size) _
      rw [hsz] at hT₈ ⊢
      exact hQ h₈ _ _ hz₈ (.inr ⟨_, _, rfl⟩) ⟨_, up _ _ D.TOz hTO', by simp⟩ (fun p hp => (ha p hp).at fun o e => up _ o (D.it p hp).1 e) hT₈ fun c o c1 c2 c3 e => up c o c1 (hk c o c1 c2 c3 e)
    · refine ⟨[], ps, rfl, rfl, rfl, h₁, rfl, hz₁, ⟨ts, hs₁.extBut _ _ D.TOz hTO, hts⟩, by simp, fun p hp => (hit p hp).extBut hs₁.extBut (D.it p hp).1, hs₁.1, fun c o c1 _ _ e => hs₁.extBut _ _ c1 e⟩
  · simp only [Bool.false_eq_true, if_false]
    refine wpAny_bind ?_
    rw [← Array.forIn_toList]
    refine wpAny_forIn_list _ (fun rest b s' => ∃ ps1 ps2, ps = ps1 ++ ps2 ∧ rest = (refs1 ps2) ∧ b = (none, (ps1.map fun p => val p.2).toArray) ∧ ∃ h', s' = { s with heap := h' } ∧ ZOb h' z TI TO f0 f1A ∧ ZTup h' TO ts ∧
      (∀ p ∈ ps1, It1 h' p.1 p.2 (i + 1)) ∧ (∀ p ∈ ps2, It1 h' p.1 p.2 i) ∧ h'.objs.size = s.heap.objs.size ∧ Keep z TO ps s.heap h') _ ?_ ?_ _ _ ?_
    · rintro u rest b s' ⟨ps1, ps2, e, er, rfl, h', rfl, hz', hTO', ha, hb, hsz, hk⟩
      cases ps2 with
      | nil => simp at er
      | cons p ps2 =>
        simp only [refs1, List.map_cons, List.cons.injEq] at er
        obtain ⟨rfl, rfl⟩ := er
        have hmem : p ∈ ps := by rw [e]; simp
        obtain ⟨pz, pTI, pTO⟩ := D.it p hmem
        obtain ⟨lz, lTO, lit⟩ := D.ls p hmem
        obtain ⟨items, hli, hx⟩ := hv p hmem
        obtain ⟨nd1, nd2⟩ := nd_mid (by rw [← e]; exact D.nd)
        have hli' : Sq1 h' p.2 items := by obtain ⟨o, ho, r⟩ := hli; exact ⟨o, hk _ _ lz lTO (fun q hq => lit q hq) ho, r⟩
        refine wpAny_bind (wpAny_holding ?_)
        show wpAny _ _ (Builtin.SmallTypes.nextOf (.ref p.1) >>= _) _ _ _
        refine wpAny_bind (nextOf_item (s := { s with heap := h' }) (hb p (by simp)) hli' hx fun h₂ h1₂ hs₂ => wpAny_pure ?_)
        refine wpAny_pure ?_
        refine ⟨ps1 ++ [p], ps2, by rw [e]; simp, rfl, by simp, h₂, rfl, hs₂.extBut _ _ (Ne.symm pz) hz', hs₂.extBut _ _ (Ne.symm pTO) hTO', ?_, ?_, ?_, ?_⟩
        · intro q hq
          rcases List.mem_append.1 hq with hq | hq
          · exact (ha q hq).extBut hs₂.extBut (nd1 q hq)
          · simp only [List.mem_singleton] at hq
            subst hq
            exact h1₂
        · intro q hq
          exact (hb q (by simp [hq])).extBut hs₂.extBut (nd2 q hq)
        · rw [hs₂.1]; exact hsz
        · intro c o c1 c2 c3 e'
          exact hs₂.extBut _ _ (c3 p hmem) (hk c o c1 c2 c3 e')
    · rintro b s' ⟨ps1, ps2, e, er, rfl, h', rfl, hz', hTO', ha, hb, hsz, hk⟩
      have e2 : ps2 = [] := by
        cases ps2 with
        | nil => rfl
        | cons p ps2 => simp [refs1] at er
      subst e2
      simp only [List.append_nil] at e
      subst e
      refine wpAny_bind (wpAny_newTuple (s := { s with heap := h' }) ?_ (by simpa using hn))
      refine wpAny_pure ⟨_, rfl, ?_⟩
      show Q (.ref h'.objs.size) _
      have up : ∀ c o, h'.get? c = some o → (h'.push { cls := .type "tuple", data := .seq (ps.map fun p => val p.2).toArray.toList.toArray }).get? c = some o := fun c o e => Heap.get?_push_of_some _ e
      have hT : ZTup (h'.push { cls := .type "tuple", data := .seq (ps.map fun p => val p.2).toArray.toList.toArray }) h'.objs.size (ps.map fun p => val p.2) := by
        have z0 : (h'.push { cls := .type "tuple", data := .seq (ps.map fun p => val p.2).toArray.toList.toArray }).get? h'.objs.size = _ := Heap.get?_push_size h' rfl
        simpa using z0
      rw [hsz] at hT
      rw [hsz]
      exact hQ _ _ _ (up _ _ hz') hf ⟨_, up _ _ hTO', hts⟩ (fun p hp => (ha p hp).at fun o e => up _ o e) hT fun c o c1 c2 c3 e => up c o (hk c o c1 c2 c3 e)
    · refine ⟨[], ps, rfl, rfl, rfl, hA, rfl, hzA, hsA.extBut _ _ D.TOz hTO, by simp, fun p hp => (hit p hp).extBut hsA.extBut (D.it p hp).1, hsA.1, fun c o c1 _ _ e => hsA.extBut _ _ c1 e⟩

/-- the last turn of zip(*lists): the first list has ended -/
theorem zipS_next_end {z TI TO : Addr} {p : Addr × Addr × Bool} {ps : List (Addr × Addr × Bool)} {i : Nat} {f0 f1 : Value} {ts : List Value} {items : Array Value} {Q : Fin → Shared → Prop} (hh : A.handled = none) (D : ZApart z TI TO (p :: ps))
    (hz : ZOb s.heap z TI TO f0 f1) (hf : F0 f0) (hTI : ZTup s.heap TI (refs1 (p :: ps))) (hTO : ZTup s.heap TO ts)
    (hit : It1 s.heap p.1 p.2 i) (hl : Sq1 s.heap p.2 items) (hx : items[i]? = none)
    (hE : ∀ h' e, Keep z TO (p :: ps) s.heap h' → (∃ o, h'.get? e = some o ∧ o.cls = .type "StopIteration") → E (.ref e) { s with heap := h' }) :
    wpAny (model prog w) A (Builtin.«zip.__next__» ⟨[.ref z], []⟩) Q E s := by
  show wpAny _ _ (field (.ref z) 2 >>= _) _ _ _
  refine wpAny_bind (wpAny_field hz rfl (x := .bool false) rfl ?_)
  show wpAny _ _ (field (.ref z) 3 >>= _) _ _ _
  refine wpAny_bind (wpAny_field hz rfl (x := .ref TI) rfl ?_)
  refine wpAny_bind (wpAny_seqItems hTI rfl ?_)
  have hem : (refs1 (p :: ps)).toArray.isEmpty = false := rfl
  simp only [hem]
  obtain ⟨pz, pTI, pTO⟩ := D.it p (by simp)
  obtain ⟨lz, lTO, lit⟩ := D.ls p (by simp)
  show wpAny _ _ (Builtin.SmallTypes.ownedTupleIsFree (.ref z) >>= _) _ _ _
  refine wpAny_bind (freeCheck hz hf ?_ fun hA f1A hzA hsA => ?_)
  · simp only [if_true]
    refine wpAny_bind (wpAny_rule ?_)
    refine wpAny_bind (wpAny_field hz rfl (x := .ref TO) rfl ?_)
    refine wpAny_bind (wpAny_setField_rec hz (by simp) fun h₁ hz₁ hs₁ => ?_)
    replace hz₁ : ZOb h₁ z TI TO .ellipsis f1 := hz₁
    refine wpAny_bind ?_
    simp only [refs1, List.map_cons, List.zipIdx_cons, List.forIn_cons]
    refine wpAny_bind (wpAny_bind (wpAny_onRaise ?_))
    show wpAny _ _ (Builtin.SmallTypes.nextOf (.ref p.1) >>= _) _ _ _
    refine wpAny_bind (nextOf_end (s := { s with heap := h₁ }) hh (hit.extBut hs₁.extBut pz) (hl.extBut hs₁.extBut lz) hx fun h₂ e hs₂ he => ?_)
    obtain ⟨oe, hoe, hce⟩ := he
    have hz₂ : ZOb h₂ z TI TO .ellipsis f1 := hs₂ _ _ (Ne.symm pz) hz₁
    have hez : e ≠ z := fun x => by subst x; rw [hz₂] at hoe; cases hoe; simp at hce
    refine wpAny_setField_rec (s := { s with heap := h₂ }) hz₂ (by simp) fun h₃ _ hs₃ => hE h₃ e (fun c o c1 c2 c3 x => hs₃.extBut _ _ c1 (hs₂ _ _ (c3 p (by simp)) (hs₁.extBut _ _ c1 x))) ⟨oe, hs₃.extBut _ _ hez hoe, hce⟩
  · simp only [Bool.false_eq_true, if_false]
    refine wpAny_bind ?_
    rw [← Array.forIn_toList]
    simp only [refs1, List.map_cons, List.forIn_cons]
    refine wpAny_bind (wpAny_bind (wpAny_holding ?_))
    show wpAny _ _ (Builtin.SmallTypes.nextOf (.ref p.1) >>= _) _ _ _
    refine wpAny_bind (nextOf_end (s := { s with heap := hA }) hh (hit.extBut hsA.extBut pz) (hl.extBut hsA.extBut lz) hx fun h₂ e hs₂ he => ?_)
    exact hE h₂ e (fun c o c1 c2 c3 x => hs₂ _ _ (c3 p (by simp)) (hsA.extBut _ _ c1 x)) he

theorem pyNext_zipS_item {z TI TO : Addr} {ps : List (Addr × Addr × Bool)} {i : Nat} {val : Addr × Bool → Value} {f0 f1 : Value} {ts : List Value} {Q : Option Value → Shared → Prop} (D : ZApart z TI TO ps)
    (hz : ZOb s.heap z TI TO f0 f1) (hf : F0 f0) (hTI : ZTup s.heap TI (refs1 ps)) (hTO : ZTup s.heap TO ts) (hts : ts.length = ps.length) (hn : ps.length ≤ sizeLine) (hne : ps ≠ [])
    (hit : ∀ p ∈ ps, It1 s.heap p.1 p.2 i) (hv : ∀ p ∈ ps, ∃ items, Sq1 s.heap p.2 items ∧ items[i]? = some (val p.2))
    (hQ : ∀ h' f0' f1', ZOb h' z TI TO f0' f1' → F0 f0' → (∃ ts', ZTup h' TO ts' ∧ ts'.length = ps.length) → (∀ p ∈ ps, It1 h' p.1 p.2 (i + 1)) → ZTup h' s.heap.objs.size (ps.map fun p => val p.2) →
      Keep z TO ps s.heap h' → Q (some (.ref s.heap.objs.size)) { s with heap := h' }) :
    wpAny (model prog w) A (pyNext (.ref z)) Q E s := by
  have hT : s.TypeIs (.ref z) "zip" := ⟨_, hz, rfl⟩
  unfold pyNext
  exact wpAny_bind (wpAny_attempt (wpAny_callSpecial?_slot (name := Str.ofString "__next__") hT F.slot_zip_next
    (wpAny_call_entry F.slot_zip_next hT F.entry_zip_next
      (zipS_next_item D hz hf hTI hTO hts hn hne hit hv fun h' a b a1 a2 a3 a4 a5 a6 => wpAny_pure (hQ h' a b a1 a2 a3 a4 a5 a6)) (F.args_zip_next_1 _))))

theorem pyNext_zipS_end {z TI TO : Addr} {p : Addr × Addr × Bool} {ps : List (Addr × Addr × Bool)} {i : Nat} {f0 f1 : Value} {ts : List Value} {items : Array Value} {Q : Option Value → Shared → Prop} (hh : A.handled = none) (D : ZApart z TI TO (p :: ps))
    (hz : ZOb s.heap z TI TO f0 f1) (hf : F0 f0) (hTI : ZTup s.heap TI (refs1 (p :: ps))) (hTO : ZTup s.heap TO ts)
    (hit : It1 s.heap p.1 p.2 i) (hl : Sq1 s.heap p.2 items) (hx : items[i]? = none)
    (hQ : ∀ h', Keep z TO (p :: ps) s.heap h' → Q none { s with heap := h' }) : wpAny (model prog w) A (pyNext (.ref z)) Q E s := by
  have hT : s.TypeIs (.ref z) "zip" := ⟨_, hz, rfl⟩
  unfold pyNext
  refine wpAny_bind (wpAny_attempt (wpAny_callSpecial?_slot (name := Str.ofString "__next__") hT F.slot_zip_next
    (wpAny_call_entry F.slot_zip_next hT F.entry_zip_next (zipS_next_end hh D hz hf hTI hTO hit hl hx fun h' e hk he => ?_) (F.args_zip_next_1 _))))
  obtain ⟨o, ho, hc⟩ := he
  refine wpAny_bind (wpAny_isInstance (T := "StopIteration") (b := true) ⟨o, ho, hc⟩ isSubtype_stop ?_)
  exact wpAny_pure (hQ _ hk)

theorem pyIter_zipS {z TI TO : Addr} {f0 f1 : Value} {Q : Value → Shared → Prop} (hz : ZOb s.heap z TI TO f0 f1) (h : Q (.ref z) s) : wpAny (model prog w) A (pyIter (.ref z)) Q E s := by
  have hT : s.TypeIs (.ref z) "zip" := ⟨_, hz, rfl⟩
  refine wpAny_pyIter_slot hT F.slot_zip_iter (wpAny_call_entry F.slot_zip_iter hT F.entry_zip_iter ?_ (F.args_zip_iter_1 _))
  show wpAny _ _ (ret (.ref z)) _ _ s
  exact wpAny_pure ⟨_, rfl, "zip", _, hT, F.slot_zip_next.lookup, h⟩

/-- the iterators laid one behind the other -/
def laid (h : Heap) : List (Addr × Bool) → Heap
  | [] => h
  | l :: ls => laid (h.push { cls := .type (clsI l.2), data := .fields #[.ref l.1, .int 0 0] }) ls
abbrev refsL (ls : List (Addr × Bool)) : List Value := ls.map fun l => Value.ref l.1
def pairs (n : Nat) : List (Addr × Bool) → List (Addr × Addr × Bool)
  | [] => []
  | l :: ls => (n, l) :: pairs (n + 1) ls

theorem typeCall_zip (xs : List Value) : checkTypeCall "zip" ⟨xs, []⟩ = pure () := by kernel_rfl
theorem newCall_zip0 : checkBuiltinCall "zip.__new__" ⟨[.type "zip"], []⟩ = pure () := by kernel_rfl
theorem newCall_zip1 (a : Value) : checkBuiltinCall "zip.__new__" ⟨[.type "zip", a], []⟩ = pure () := by kernel_rfl
theorem newCall_zip2 (a b : Value) : checkBuiltinCall "zip.__new__" ⟨[.type "zip", a, b], []⟩ = pure () := by kernel_rfl
theorem newCall_zip3 (a b c : Value) : checkBuiltinCall "zip.__new__" ⟨[.type "zip", a, b, c], []⟩ = pure () := by kernel_rfl
theorem newCall_zip4 (a b c d : Value) : checkBuiltinCall "zip.__new__" ⟨[.type "zip", a, b, c, d], []⟩ = pure () := by kernel_rfl
theorem newCall_zip5 (a b c d e : Value) : checkBuiltinCall "zip.__new__" ⟨[.type "zip", a, b, c, d, e], []⟩ = pure () := by kernel_rfl
theorem newCall_zip6 (a b c d e f : Value) : checkBuiltinCall "zip.__new__" ⟨[.type "zip", a, b, c, d, e, f], []⟩ = pure () := by kernel_rfl
theorem newCall_zip7 (a b c d e f g : Value) : checkBuiltinCall "zip.__new__" ⟨[.type "zip", a, b, c, d, e, f, g], []⟩ = pure () := by kernel_rfl
theorem newCall_zip8 (a b c d e f g h : Value) : checkBuiltinCall "zip.__new__" ⟨[.type "zip", a, b, c, d, e, f, g, h], []⟩ = pure () := by kernel_rfl
theorem newCall_zip : ∀ xs : List Value, xs.length ≤ 8 → checkBuiltinCall "zip.__new__" ⟨.type "zip" :: xs, []⟩ = pure ()
  | [], _ => newCall_zip0 
  | [a], _ => newCall_zip1 a
  | [a, b], _ => newCall_zip2 a b
  | [a, b, c], _ => newCall_zip3 a b c
  | [a, b, c, d], _ => newCall_zip4 a b c d
  | [a, b, c, d, e], _ => newCall_zip5 a b c d e
  | [a, b, c, d, e, f], _ => newCall_zip6 a b c d e f
  | [a, b, c, d, e, f, g], _ => newCall_zip7 a b c d e f g
  | [a, b, c, d, e, f, g, h], _ => newCall_zip8 a b c d e f g h
  | _ :: _ :: _ :: _ :: _ :: _ :: _ :: _ :: _ :: r, h => absurd h (by simp only [List.length_cons]; omega)
theorem objInit_zip1 (o a : Value) : argsOk "object.__init__" ⟨[o, a], []⟩ := by
  unfold argsOk; rw [signature?_of (id := "object.__init__") (n := ['_', '_', 't', 'i', 'n', 'i', '_', '_']) (o := ['t', 'c', 'e', 'j', 'b', 'o']) (by kernel_rfl) F.owner_object]; kernel_rfl
theorem objInit_zip2 (o a b : Value) : argsOk "object.__init__" ⟨[o, a, b], []⟩ := by
  unfold argsOk; rw [signature?_of (id := "object.__init__") (n := ['_', '_', 't', 'i', 'n', 'i', '_', '_']) (o := ['t', 'c', 'e', 'j', 'b', 'o']) (by kernel_rfl) F.owner_object]; kernel_rfl
theorem objInit_zip3 (o a b c : Value) : argsOk "object.__init__" ⟨[o, a, b, c], []⟩ := by
  unfold argsOk; rw [signature?_of (id := "object.__init__") (n := ['_', '_', 't', 'i', 'n', 'i', '_', '_']) (o := ['t', 'c', 'e', 'j', 'b', 'o']) (by kernel_rfl) F.owner_object]; kernel_rfl
theorem objInit_zip4 (o a b c d : Value) : argsOk "object.__init__" ⟨[o, a, b, c, d], []⟩ := by
  unfold argsOk; rw [signature?_of (id := "object.__init__") (n := ['_', '_', 't', 'i', 'n', 'i', '_', '_']) (o := ['t', 'c', 'e', 'j', 'b', 'o']) (by kernel_rfl) F.owner_object]; kernel_rfl
theorem objInit_zip5 (o a b c d e : Value) : argsOk "object.__init__" ⟨[o, a, b, c, d, e], []⟩ := by
  unfold argsOk; rw [signature?_of (id := "object.__init__") (n := ['_', '_', 't', 'i', 'n', 'i', '_', '_']) (o := ['t', 'c', 'e', 'j', 'b', 'o']) (by kernel_rfl) F.owner_object]; kernel_rfl
theorem objInit_zip6 (o a b c d e f : Value) : argsOk "object.__init__" ⟨[o, a, b, c, d, e, f], []⟩ := by
  unfold argsOk; rw [signature?_of (id := "object.__init__") (n := ['_', '_', 't', 'i', 'n', 'i', '_', '_']) (o := ['t', 'c', 'e', 'j', 'b', 'o']) (by kernel_rfl) F.owner_object]; kernel_rfl
theorem objInit_zip7 (o a b c d e f g : Value) : argsOk "object.__init__" ⟨[o, a, b, c, d, e, f, g], []⟩ := by
  unfold argsOk; rw [signature?_of (id := "object.__init__") (n := ['_', '_', 't', 'i', 'n', 'i', '_', '_']) (o := ['t', 'c', 'e', 'j', 'b', 'o']) (by kernel_rfl) F.owner_object]; kernel_rfl
theorem objInit_zip8 (o a b c d e f g h : Value) : argsOk "object.__init__" ⟨[o, a, b, c, d, e, f, g, h], []⟩ := by
  unfold argsOk; rw [signature?_of (id := "object.__init__") (n := ['_', '_', 't', 'i', 'n', 'i', '_', '_']) (o := ['t', 'c', 'e', 'j', 'b', 'o']) (by kernel_rfl) F.owner_object]; kernel_rfl
theorem objInit_zip (o : Value) : ∀ xs : List Value, xs ≠ [] → xs.length ≤ 8 → argsOk "object.__init__" ⟨o :: xs, []⟩
  | [], h, _ => absurd rfl h
  | [a], _, _ => objInit_zip1 o a
  | [a, b], _, _ => objInit_zip2 o a b
  | [a, b, c], _, _ => objInit_zip3 o a b c
  | [a, b, c, d], _, _ => objInit_zip4 o a b c d
  | [a, b, c, d, e], _, _ => objInit_zip5 o a b c d e
  | [a, b, c, d, e, f], _, _ => objInit_zip6 o a b c d e f
  | [a, b, c, d, e, f, g], _, _ => objInit_zip7 o a b c d e f g
  | [a, b, c, d, e, f, g, h], _, _ => objInit_zip8 o a b c d e f g h
  | _ :: _ :: _ :: _ :: _ :: _ :: _ :: _ :: _ :: r, _, h => absurd h (by simp only [List.length_cons]; omega)

theorem laid_append (h : Heap) : ∀ (l1 l2 : List (Addr × Bool)), laid h (l1 ++ l2) = laid (laid h l1) l2
  | [], _ => rfl
  | l :: l1, l2 => laid_append _ l1 l2
theorem laid_size : ∀ (ls : List (Addr × Bool)) (h : Heap), (laid h ls).objs.size = h.objs.size + ls.length
  | [], _ => rfl
  | l :: ls, h => by rw [laid, laid_size ls, Heap.size_push, List.length_cons]; omega
theorem laid_keep : ∀ (ls : List (Addr × Bool)) (h : Heap) (c : Addr) (o : Obj), h.get? c = some o → (laid h ls).get? c = some o
  | [], _, _, _, e => e
  | _ :: ls, _, c, o, e => laid_keep ls _ c o (Heap.get?_push_of_some _ e)
theorem pairs_append (n : Nat) : ∀ (l1 l2 : List (Addr × Bool)), pairs n (l1 ++ l2) = pairs n l1 ++ pairs (n + l1.length) l2
  | [], _ => by simp [pairs]
  | l :: l1, l2 => by
    simp only [List.cons_append, pairs, pairs_append (n + 1) l1 l2, List.length_cons]
    rw [show n + 1 + l1.length = n + (l1.length + 1) by omega]
theorem pairs_snd : ∀ (ls : List (Addr × Bool)) (n : Nat), (pairs n ls).map (·.2) = ls
  | [], _ => rfl
  | l :: ls, n => by simp [pairs, pairs_snd ls]
theorem pairs_len (ls : List (Addr × Bool)) (n : Nat) : (pairs n ls).length = ls.length := by rw [← List.length_map (f := (·.2)), pairs_snd]
theorem pairs_ge : ∀ (ls : List (Addr × Bool)) (n : Nat) (p : Addr × Addr × Bool), p ∈ pairs n ls → n ≤ p.1 ∧ p.1 < n + ls.length ∧ p.2 ∈ ls
  | [], _, _, h => by simp [pairs] at h
  | l :: ls, n, p, h => by
    simp only [pairs, List.mem_cons] at h
    rcases h with rfl | h
    · simp
    · obtain ⟨a, b, c⟩ := pairs_ge ls _ p h
      simp only [List.length_cons, List.mem_cons]
      exact ⟨Nat.le_trans (Nat.le_succ n) a, Nat.lt_of_lt_of_eq (m := n + 1 + ls.length) b (by omega), .inr c⟩
theorem pairs_nd : ∀ (ls : List (Addr × Bool)) (n : Nat), ((pairs n ls).map (·.1)).Nodup
  | [], _ => by simp [pairs]
  | l :: ls, n => by
    simp only [pairs, List.map_cons, List.nodup_cons, List.mem_map]
    refine ⟨?_, pairs_nd ls _⟩
    rintro ⟨p, hp, e⟩
    have q := (pairs_ge ls _ p hp).1
    rw [e] at q
    exact absurd q (Nat.not_succ_le_self n)
theorem laid_iter : ∀ (ls : List (Addr × Bool)) (h : Heap) (p : Addr × Addr × Bool), p ∈ pairs h.objs.size ls → It1 (laid h ls) p.1 p.2 0
  | [], _, _, h => by simp [pairs] at h
  | l :: ls, h, p, hp => by
    simp only [pairs, List.mem_cons] at hp
    rcases hp with rfl | hp
    · exact ⟨_, laid_keep ls _ _ _ (Heap.get?_push_size _ rfl), rfl, rfl⟩
    · refine laid_iter ls _ p ?_
      rw [Heap.size_push]; exact hp

theorem wpAny_iterAll {ls : List (Addr × Bool)} {Q : List Value → Shared → Prop} (hl : ∀ l ∈ ls, ∃ items, Sq1 s.heap l items)
    (hQ : Q (refs1 (pairs s.heap.objs.size ls)) { s with heap := laid s.heap ls }) :
    wpAny (model prog w) A (Builtin.SmallTypes.iterAll ((refsL ls))) Q E s := by
  unfold Builtin.SmallTypes.iterAll
  refine wpAny_bind ?_
  refine wpAny_forIn_list _ (fun rest b s' => ∃ l1 l2, ls = l1 ++ l2 ∧ rest = (refsL l2) ∧ b = (refs1 (pairs s.heap.objs.size l1)).toArray ∧ s' = { s with heap := laid s.heap l1 }) _ ?_ ?_ _ _ ⟨[], ls, rfl, rfl, rfl, rfl⟩
  · rintro u rest b s' ⟨l1, l2, e, er, rfl, rfl⟩
    cases l2 with
    | nil => simp at er
    | cons l l2 =>
      simp only [List.map_cons, List.cons.injEq] at er
      obtain ⟨rfl, rfl⟩ := er
      obtain ⟨items, o, ho, r⟩ := hl l (by rw [e]; simp)
      refine wpAny_bind (wpAny_holding (pyIter_sq (l := l) (s := { s with heap := laid s.heap l1 }) (items := items) ⟨o, laid_keep l1 _ _ _ ho, r⟩ (wpAny_pure ?_)))
      refine ⟨l1 ++ [l], l2, by rw [e]; simp, rfl, ?_, ?_⟩
      · rw [pairs_append, laid_size]; simp [pairs, refs1]
      · rw [laid_append]; rfl
  · rintro b s' ⟨l1, l2, e, er, rfl, rfl⟩
    have e2 : l2 = [] := by simpa using er.symm
    subst e2
    simp only [List.append_nil] at e
    subst e
    exact wpAny_pure hQ

abbrev newH1 (h : Heap) (ls : List (Addr × Bool)) : Heap := (laid h ls).push { cls := .type "tuple", data := .seq (refs1 (pairs h.objs.size ls)).toArray }
abbrev newH2 (h : Heap) (ls : List (Addr × Bool)) : Heap := (newH1 h ls).push { cls := .type "tuple", data := .seq ((refs1 (pairs h.objs.size ls)).map fun _ => Value.none).toArray }
abbrev newH3 (h : Heap) (ls : List (Addr × Bool)) : Heap := (newH2 h ls).push { cls := .type "zip", data := .fields #[.none, .bool false, .bool false, .ref (laid h ls).objs.size, .ref (newH1 h ls).objs.size] }

theorem meets_zipS_new (ls : List (Addr × Bool)) (hn : ls.length ≤ sizeLine) :
    Meets (Builtin.«zip.__new__» ⟨.type "zip" :: (refsL ls), []⟩) (fun _ R s => (∀ l ∈ ls, ∃ items, Sq1 s.heap l items) ∧
      R (.ok (.ret (.ref (newH2 s.heap ls).objs.size))) { s with heap := newH3 s.heap ls }) :=
  .of_wp fun prog w A R s h => by
    obtain ⟨hp, g, d, tk, os⟩ := s; obtain ⟨hl, h⟩ := h
    have hsub := sub_zip
    have hn' : (refs1 (pairs hp.objs.size ls)).length ≤ sizeLine := by rw [List.length_map, pairs_len]; exact hn
    have hI : ∀ {A' : Around} {Q E}, Q (refs1 (pairs hp.objs.size ls)) ⟨laid hp ls, g, d, tk, os⟩ → wpAny (model prog w) A' (Builtin.SmallTypes.iterAll ((refsL ls))) Q E ⟨hp, g, d, tk, os⟩ := fun q => wpAny_iterAll hl q
    wp_walk using hI
    have z1 := @wpAny_newTuple (model prog w) A.in1 (fun e s' => R (Except.error e) s') ⟨laid hp ls, g, d, tk, os⟩ (refs1 (pairs hp.objs.size ls))
    refine z1 ?_ hn'
    refine wpAny_bind (wpAny_newTuple ?_ (by rw [List.length_map]; exact hn'))
    wp_walk using hI
    exact ⟨_, rfl, h⟩

theorem call_zipS {ls : List (Addr × Bool)} {Q : Value → Shared → Prop} (hne : ls ≠ []) (h8 : ls.length ≤ 8) (hl : ∀ l ∈ ls, ∃ items, Sq1 s.heap l items)
    (h : ∀ h', ZOb h' (s.heap.objs.size + ls.length + 2) (s.heap.objs.size + ls.length) (s.heap.objs.size + ls.length + 1) .none (.bool false) → ZTup h' (s.heap.objs.size + ls.length) (refs1 (pairs s.heap.objs.size ls)) →
      (∃ ts, ZTup h' (s.heap.objs.size + ls.length + 1) ts ∧ ts.length = ls.length) → (∀ p ∈ pairs s.heap.objs.size ls, It1 h' p.1 p.2 0) →
      (∀ c o, s.heap.get? c = some o → h'.get? c = some o) → Q (.ref (s.heap.objs.size + ls.length + 2)) { s with heap := h' }) :
    wpAny (model prog w) A (call (.type "zip") ((refsL ls))) Q E s := by
  have hne' : (refsL ls) ≠ [] := by cases ls with | nil => exact absurd rfl hne | cons _ _ => simp
  have h8' : ((refsL ls)).length ≤ 8 := by rw [List.length_map]; exact h8
  refine callType_new F.called_zip (by decide) (typeCall_zip _) (newCall_zip _ h8') (fun obj => objInit_zip obj _ hne' h8') F.entry_zip_new
    (meets_zipS_new ls (Nat.le_trans h8 (by decide))) ⟨hl, ?_⟩
  have z0 : (laid s.heap ls).objs.size = s.heap.objs.size + ls.length := laid_size ..
  have z1 : (newH1 s.heap ls).objs.size = s.heap.objs.size + ls.length + 1 := by rw [Heap.size_push, z0]
  have z2 : (newH2 s.heap ls).objs.size = s.heap.objs.size + ls.length + 2 := by rw [Heap.size_push, z1]
  have g3 : (newH3 s.heap ls).get? (newH2 s.heap ls).objs.size = some _ := Heap.get?_push_size _ rfl
  have g2 : (newH3 s.heap ls).get? (newH1 s.heap ls).objs.size = some _ := Heap.get?_push_of_some _ (Heap.get?_push_size _ rfl)
  have g1 : (newH3 s.heap ls).get? (laid s.heap ls).objs.size = some _ := Heap.get?_push_of_some _ (Heap.get?_push_of_some _ (Heap.get?_push_size _ rfl))
  have up : ∀ c o, (laid s.heap ls).get? c = some o → (newH3 s.heap ls).get? c = some o := fun c o e => Heap.get?_push_of_some _ (Heap.get?_push_of_some _ (Heap.get?_push_of_some _ e))
  show _ ∧ _
  rw [z0, z1, z2] at g3
  rw [z1] at g2
  rw [z0] at g1
  rw [z2]
  refine ⟨⟨_, g3, rfl⟩, h _ g3 g1 ⟨_, g2, ?_⟩ (fun p hp => (laid_iter ls _ p hp).at fun o e => up _ o e) fun c o e => up c o (laid_keep ls _ c o e)⟩
  simp [pairs_len]
end
end ZS
end PySem
namespace L2
open PySem PySem.Spec PyProof.Rows PySem.ZS

/-- a list or a tuple -/
def SqA (K : PySem.W.Frag) (H : Hp) (l : Addr × Bool) (xs : List V) : Prop := match l with
  | (a, true) => SqT K H a xs
  | (a, false) => SqL K H a xs
theorem Inv.sqA {X : Cx} {pins : List (Addr × Obj)} {σ : St} {H : Hp} {s : Shared} {l : Addr × Bool} {xs : List V} (I : Inv X pins σ H s) (h : SqA X.K H l xs) : ∃ its : List Value, Vals xs its ∧ Sq1 s.heap l its.toArray := by
  obtain ⟨a, k⟩ := l
  cases k with
  | false => obtain ⟨its, r, p, _⟩ := I.list h; exact ⟨its, r, p.isList⟩
  | true => obtain ⟨its, r, ⟨o, ho, hc, n, hd⟩, _⟩ := I.tuple h; exact ⟨its, r, ⟨o, ho, hc, n, hd⟩⟩
theorem Inv.sqA_inj {X : Cx} {pins : List (Addr × Obj)} {σ : St} {H : Hp} {s : Shared} {l : Addr × Bool} {xs ys : List V} (I : Inv X pins σ H s) (h : SqA X.K H l xs) (h' : SqA X.K H l ys) : xs = ys := by
  obtain ⟨a, k⟩ := l
  cases k with
  | false => exact I.list_inj h h'
  | true => exact I.tuple_inj h h'
theorem Sq1.lt {h : Heap} {l : Addr × Bool} {xs : Array Value} (x : Sq1 h l xs) : l.1 < h.objs.size := by obtain ⟨o, ho, _⟩ := x; exact Heap.lt_size ho
/-- the step ahead of the store -/
theorem letGo_zipS {A : Around} {E : Value → Shared → Prop} {s : Shared} {prog : Program} {w : World} {z TI TO T : Addr} {f0 f1 : Value} {Q : Unit → Shared → Prop} (tg : Expr) (hz : ZOb s.heap z TI TO f0 f1) (hf : F0 f0)
    (hQ : ∀ h' f0', ZOb h' z TI TO f0' f1 → F0 f0' → Heap.SameBut z s.heap h' → Q () { s with heap := h' }) : wpAny (model prog w) A (letOwnedTupleGo tg (.ref z) (.ref T)) Q E s := by
  have h0 : Q () s := hQ s.heap f0 hz hf ⟨rfl, fun _ _ => rfl⟩
  unfold letOwnedTupleGo
  cases tg <;> first
    | exact wpAny_pure h0
    | (refine wpAny_bind (wpAny_load hz ?_)
       show wpAny _ _ (if (["enumerate", "zip", "dict_itemiterator", "dict_reverseitemiterator", "odict_iterator", "itertools.zip_longest", "itertools.pairwise"].contains "zip" &&
          (#[f0, f1, .bool false, .ref TI, .ref TO] : Array Value)[0]? == some (rawInt T)) = true then _ else _) Q E s
       split
       · refine wpAny_bind (wpAny_rule ?_)
         show wpAny _ _ (setField (.ref z) 0 .none) Q E s
         exact wpAny_setField_rec hz (by simp) fun h' hz' hs' => hQ h' .none hz' (.inl rfl) hs'
       · exact wpAny_pure h0)

/-- what a turn of zip(*lists) hands out: the i-th items -/
def Cols (K : PySem.W.Frag) (H : Hp) (i : Nat) : List (Addr × Bool) → List V → Prop
  | [], [] => True
  | l :: ls, y :: ys => (∀ xs, SqA K H l xs → xs[i]? = some y) ∧ Cols K H i ls ys
  | _, _ => False
def Itn (K : PySem.W.Frag) (ls : List (Addr × Bool)) : It :=
  ⟨fun i H => ∀ l ∈ ls, ∃ (xs : List V) (x : V), SqA K H l xs ∧ xs[i]? = some x, fun i H v H' => ∃ T ys, v = .ref T ∧ H T = none ∧ H' = upd H T (.tup ys) ∧ Cols K H i ls ys,
    fun i H => ∃ l ls' xs, ls = l :: ls' ∧ SqA K H l xs ∧ xs.length ≤ i⟩
theorem cols_of {K : PySem.W.Frag} {H : Hp} {i : Nat} {val : Addr × Bool → Value} : ∀ (ls : List (Addr × Bool)), (∀ l ∈ ls, ∃ y, (∀ xs, SqA K H l xs → xs[i]? = some y) ∧ RelV y (val l)) → ∃ ys, Cols K H i ls ys ∧ Vals ys (ls.map val) ∧ ys.length = ls.length
  | [], _ => ⟨[], trivial, .nil, rfl⟩
  | l :: ls, h => by
    obtain ⟨y, hy, r⟩ := h l (by simp)
    obtain ⟨ys, c, rv, hl⟩ := cols_of ls fun l' hl => h l' (by simp [hl])
    exact ⟨y :: ys, ⟨hy, c⟩, .cons r rv, by simp [hl]⟩
def itemAt (h : Heap) (i : Nat) (l : Addr × Bool) : Value :=
  match h.get? l.1 with
  | some o => match o.data with
    | .seq a _ => a[i]?.getD .none
    | _ => .none
  | none => .none
theorem itemAt_of {h : Heap} {i : Nat} {l : Addr × Bool} {items : Array Value} {u : Value} (hl : Sq1 h l items) (hu : items[i]? = some u) : itemAt h i l = u := by
  obtain ⟨o, ho, _, n, hd⟩ := hl
  simp [itemAt, ho, hd, hu]

theorem turn_zipS {P : Program} {w : World} {K : PySem.W.Frag} {tg : Expr} {z TI TO : Addr} {ps : List (Addr × Addr × Bool)} (D : ZApart z TI TO ps) (hne : ps ≠ []) (hn : ps.length ≤ sizeLine) :
    Turn P w K tg (Itn K (ps.map (·.2))) (z :: TI :: TO :: ps.map (·.1)) z
      (fun i h => (∃ f0 f1, ZOb h z TI TO f0 f1 ∧ F0 f0) ∧ ZTup h TI (refs1 ps) ∧ (∃ ts, ZTup h TO ts ∧ ts.length = ps.length) ∧ ∀ p ∈ ps, It1 h p.1 p.2 i) where
  mem := by simp
  obj := fun i h st c hc => by
    obtain ⟨⟨f0, f1, hz, _⟩, hTI, ⟨ts, hTO, _⟩, hit⟩ := st
    rcases List.mem_cons.1 hc with q | hc
    · rw [q]; exact ⟨_, hz, fun v q => nomatch q⟩
    rcases List.mem_cons.1 hc with q | hc
    · rw [q]; exact ⟨_, hTI, fun v q => nomatch q⟩
    rcases List.mem_cons.1 hc with q | hc
    · rw [q]; exact ⟨_, hTO, fun v q => nomatch q⟩
    obtain ⟨p, hp, rfl⟩ := List.mem_map.1 hc
    obtain ⟨o, e, _, d⟩ := hit p hp
    exact ⟨o, e, fun v q => by rw [d] at q; cases q⟩
  keep := fun i h h' st k => by
    obtain ⟨⟨f0, f1, hz, hf⟩, hTI, ⟨ts, hTO, hts⟩, hit⟩ := st
    exact ⟨⟨f0, f1, k z (by simp) _ hz, hf⟩, k TI (by simp) _ hTI, ⟨ts, k TO (by simp) _ hTO, hts⟩, fun p hp => (hit p hp).at fun o e => k p.1 (by simp only [List.mem_cons, List.mem_map]; exact .inr (.inr (.inr ⟨p, hp, rfl⟩))) o e⟩
  item := by
    intro X hP hw hK hc i pins s σ H E I hf st hg
    subst hP hw hK
    obtain ⟨⟨f0, f1, hz, hf0⟩, hTI, ⟨ts, hTO, hts⟩, hit⟩ := st
    have hv0 : ∀ p ∈ ps, ∃ y items, (∀ xs, SqA X.K H p.2 xs → xs[i]? = some y) ∧ RelV y (itemAt s.heap i p.2) ∧ Sq1 s.heap p.2 items ∧ items[i]? = some (itemAt s.heap i p.2) := fun p hp => by
      obtain ⟨xs, y, hq, hy⟩ := hg p.2 (List.mem_map_of_mem hp)
      obtain ⟨its, rv, pl⟩ := I.sqA hq
      obtain ⟨u, hu, ru⟩ := rv.get hy
      have hu' : its.toArray[i]? = some u := by simpa using hu
      have e := itemAt_of pl hu'
      exact ⟨y, its.toArray, fun xs' h' => by rw [I.sqA_inj h' hq]; exact hy, by rw [e]; exact ru, pl, by rw [e]; exact hu'⟩
    obtain ⟨ys, hcols, hvals, hlen⟩ := cols_of (K := X.K) (H := H) (i := i) (val := itemAt s.heap i) (ps.map (·.2)) fun l hl => by
      obtain ⟨p, hp, rfl⟩ := List.mem_map.1 hl
      obtain ⟨y, _, a, b, _⟩ := hv0 p hp
      exact ⟨y, a, b⟩
    refine pyNext_zipS_item D hz hf0 hTI hTO hts hn hne hit (val := itemAt s.heap i) (fun p hp => by obtain ⟨_, items, _, _, a, b⟩ := hv0 p hp; exact ⟨items, a, b⟩) fun h' f0' f1' z' hf0' ⟨ts', TO', hts'⟩ hit' hT hk => ?_
    refine ⟨_, rfl, letGo_zipS (s := { s with heap := h' }) tg z' hf0' fun h2 f0'' z'' hf0'' sb => ?_⟩
    have hTz : s.heap.objs.size ≠ z := Nat.ne_of_gt (Heap.lt_size hz)
    replace hk : Keep z TO ps s.heap h2 := fun c o c1 c2 c3 e => (sb.2 c c1).trans (hk c o c1 c2 c3 e)
    replace hT : ZTup h2 s.heap.objs.size (ps.map fun p => itemAt s.heap i p.2) := (sb.2 _ hTz).trans hT
    replace TO' : ZTup h2 TO ts' := (sb.2 _ D.TOz).trans TO'
    replace hit' : ∀ p ∈ ps, It1 h2 p.1 p.2 (i + 1) := fun p hp => (hit' p hp).at fun o e => (sb.2 _ (D.it p hp).1).trans e
    have hT' : h2.get? s.heap.objs.size = some { cls := .type "tuple", data := .seq ((ps.map (·.2)).map (itemAt s.heap i)).toArray } := by rw [List.map_map]; exact hT
    have new : ObjOk X.prog X.w (upd H s.heap.objs.size (.tup ys)) h2 s.heap.objs.size (.tup ys) :=
      ⟨by show ys.length ≤ sizeLine; rw [hlen, List.length_map]; exact hn, _, hvals, ⟨_, hT', rfl, _, rfl⟩⟩
    have I1 : Inv X pins σ (upd H s.heap.objs.size (.tup ys)) { s with heap := h2 } :=
      I.turnedNew (t' := s.toks) (ch := z :: TI :: TO :: ps.map (·.1)) (fun c o hb q => hk c o (fun q' => hb (by simp [q'])) (fun q' => hb (by simp [q'])) (fun p hp q' => hb (by simp only [List.mem_cons, List.mem_map]; exact .inr (.inr (.inr ⟨p, hp, q'.symm⟩)))) q) hf (Nat.le_refl _) new
    refine ⟨.ref s.heap.objs.size, _, I1, rfl, ⟨_, ys, rfl, I.hok.fresh (Nat.le_refl _), rfl, hcols⟩, ⟨⟨f0'', f1', z'', hf0''⟩, hk _ _ D.TIz D.TITO (fun p hp => Ne.symm (D.it p hp).2.1) hTI, ⟨ts', TO', hts'⟩, hit'⟩, fun c hcm => ?_⟩
    have hlt : c < s.heap.objs.size := by
      rcases List.mem_cons.1 hcm with q | hcm
      · rw [q]; exact Heap.lt_size hz
      rcases List.mem_cons.1 hcm with q | hcm
      · rw [q]; exact Heap.lt_size hTI
      rcases List.mem_cons.1 hcm with q | hcm
      · rw [q]; exact Heap.lt_size hTO
      obtain ⟨p, hp, rfl⟩ := List.mem_map.1 hcm
      obtain ⟨_, e, _⟩ := hit p hp
      exact Heap.lt_size e
    rw [upd_ne (Nat.ne_of_lt hlt)]
    exact (hf c hcm).1
  done := by
    intro X hP hw hK hc i pins s σ H E I hf st hg
    subst hP hw hK
    obtain ⟨⟨f0, f1, hz, hf0⟩, hTI, ⟨ts, hTO, hts⟩, hit⟩ := st
    obtain ⟨l, ls', xs, el, hq, hend⟩ := hg
    cases ps with
    | nil => exact absurd rfl hne
    | cons p ps =>
      simp only [List.map_cons, List.cons.injEq] at el
      obtain ⟨rfl, _⟩ := el
      obtain ⟨its, rv, pl⟩ := I.sqA hq
      have hl := rv.length
      exact pyNext_zipS_end (I.ok.hd hc) D hz hf0 hTI hTO (hit p (by simp)) pl (by simp; omega) fun h' hk => ⟨rfl, I.turnedL (t' := s.toks) (ch := z :: TI :: TO :: (p :: ps).map (·.1)) (fun c o hb q =>
        hk c o (fun q' => hb (by simp [q'])) (fun q' => hb (by simp [q'])) (fun p' hp q' => hb (by simp only [List.mem_cons (a := c), List.mem_map]; exact .inr (.inr (.inr ⟨p', hp, q'.symm⟩)))) q) hf⟩
  self := fun A i s Q E st h => let ⟨⟨_, _, hz, _⟩, _⟩ := st; pyIter_zipS hz h

theorem callWith_typeS {M : Model} {A : Around} {E : Value → Shared → Prop} {s : Shared} {pos : Pos} {T : String} {x : Sem Value} {Q : Value → Shared → Prop}
    (h : wpAny M A x (fun v s₁ => PySem.W.StarOf M A E v (fun vs s₂ => wpAny M A (call (.type T) vs) Q E s₂) s₁) E s) :
    wpAny M A (callWith pos (.type T) [] (backTo pos [(true, x)]) []) Q E s := by
  unfold callWith
  refine wpAny_bind (wpAny_holding (wpAny_mono (PySem.W.ks_lone (Q := fun a s₂ => wpAny M A (call (.type T) a.pos a.kw) Q E s₂) (wpAny_mono h (fun v s₁ h₁ => h₁) fun _ _ x => x)) (fun a s₁ h₁ => wpAny_bind (wpAny_standAt ?_)) fun _ _ x => x))
  have z := wpAny_bind (m := operate ((.type T :: a.pos.reverse) ++ a.kw.map (·.2)) (call (.type T) a.pos a.kw)) (f := fun r => do holding [r] point; pure r) (wpAny_operate' (wpAny_mono h₁ (fun r s₂ hr => wpAny_bind (wpAny_holding (wpAny_point (wpAny_pure hr)))) fun _ _ x => x))
  exact wpAny_bind (wpAny_pure z)
/-- an iterator of zip over these, laid -/
theorem pie_zipS {X : Cx} {pins : List (Addr × Obj)} {σ : St} {H1 : Hp} {R : It → Hp → Prop} {tg : Expr} {s2 : Shared} {ls : List (Addr × Bool)} (I2 : Inv X pins σ H1 s2) (hne : ls ≠ []) (h8 : ls.length ≤ 8) (hls : ∀ l ∈ ls, ∃ xs, SqA X.K H1 l xs) (q : R (Itn X.K ls) H1) :
    wpAny (model X.prog X.w) X.A (call (.type "zip") (refsL ls)) (fun v s1 => wpAny (model X.prog X.w) X.A (pyIter v) (PIE X pins σ tg R) X.xe s1) X.xe s2 := by
  refine call_zipS hne h8 (fun l hl => by obtain ⟨xs, hx⟩ := hls l hl; obtain ⟨its, _, pl⟩ := I2.sqA hx; exact ⟨_, pl⟩) fun h' hz hTI hTO hit hk => pyIter_zipS hz ?_
  have I3 : Inv X pins σ H1 { s2 with heap := h' } := I2.kept (t' := s2.toks) hk
  have lt : ∀ l ∈ ls, l.1 < s2.heap.objs.size := fun l hl => by obtain ⟨xs, hx⟩ := hls l hl; obtain ⟨its, _, pl⟩ := I2.sqA hx; exact Sq1.lt pl
  have D : ZApart (s2.heap.objs.size + ls.length + 2) (s2.heap.objs.size + ls.length) (s2.heap.objs.size + ls.length + 1) (pairs s2.heap.objs.size ls) := by
    refine ⟨fun e => absurd (show (s2.heap.objs.size + ls.length : Nat) = s2.heap.objs.size + ls.length + 2 from e) (by omega), fun e => absurd (show (s2.heap.objs.size + ls.length + 1 : Nat) = s2.heap.objs.size + ls.length + 2 from e) (by omega), fun e => absurd (show (s2.heap.objs.size + ls.length : Nat) = s2.heap.objs.size + ls.length + 1 from e) (by omega), fun p hp => ?_, fun p hp => ?_, pairs_nd ..⟩
    · have a1 : p.1 < s2.heap.objs.size + ls.length := (pairs_ge ls _ p hp).2.1
      exact ⟨Nat.ne_of_lt (Nat.lt_of_lt_of_le a1 (by omega)), Nat.ne_of_lt a1, Nat.ne_of_lt (Nat.lt_of_lt_of_le a1 (by omega))⟩
    · have a1 : p.2.1 < s2.heap.objs.size := lt p.2 (pairs_ge ls _ p hp).2.2
      exact ⟨Nat.ne_of_lt (Nat.lt_of_lt_of_le a1 (by omega)), Nat.ne_of_lt (Nat.lt_of_lt_of_le a1 (by omega)), fun q hq => Nat.ne_of_lt (Nat.lt_of_lt_of_le a1 (pairs_ge ls _ q hq).1)⟩
  obtain ⟨ts, hTO, hts⟩ := hTO
  have hpne : pairs s2.heap.objs.size ls ≠ [] := fun e => hne (by rw [← pairs_snd ls s2.heap.objs.size, e]; rfl)
  have T := turn_zipS (P := X.prog) (w := X.w) (K := X.K) (tg := tg) D hpne (by rw [ZS.pairs_len]; exact Nat.le_trans h8 (by decide))
  rw [pairs_snd] at T
  refine ⟨_, _, _, _, H1, rfl, I3, T, ⟨⟨_, _, hz, .inl rfl⟩, hTI, ⟨ts, hTO, by rw [ZS.pairs_len]; exact hts⟩, hit⟩, fun c hcm => ?_, q⟩
  have hle : s2.heap.objs.size ≤ c := by
    rcases List.mem_cons.1 hcm with q | hcm
    · rw [q]; omega
    rcases List.mem_cons.1 hcm with q | hcm
    · rw [q]; omega
    rcases List.mem_cons.1 hcm with q | hcm
    · rw [q]; omega
    obtain ⟨p, hp, rfl⟩ := List.mem_map.1 hcm
    exact (pairs_ge ls _ p hp).1
  exact I2.fpOk hle (I2.hok.fresh hle)
/-- zip(*e), e a list of at most 8 lists -/
def iZipS (K : PySem.W.Frag) (te : TE) : TI := fun σ H R => te σ H fun v H1 => ∃ a ls, v = .ref a ∧ SqL K H1 a (ls.map V.ref) ∧ ls ≠ [] ∧ ls.length ≤ 8 ∧ (∀ l ∈ ls, ∃ xs, SqL K H1 l xs) ∧ R (Itn K (ls.map fun l => (l, false))) H1
theorem zs_vals_refs : ∀ {ls : List Addr} {us : List Value}, Vals (ls.map V.ref) us → us = refsL (ls.map fun l => (l, false))
  | [], _, .nil => rfl
  | l :: ls, _, .cons r rr => by
    cases r
    rw [zs_vals_refs rr]; rfl
theorem pi_zipS {X : Cx} {tg e : Expr} {te : TE} {p p2 pos : Pos} (hg : Gl X "zip") (hm : X.mg "zip" = none) (he : PE X e te)
    (hs : starEach [.Starred e p2] X.env = [(true, eval e X.env)] := by rfl) :
    PI X tg (.Call (.Name "zip" p) [.Starred e p2] [] pos) (iZipS X.K te) := by
  refine ⟨fun pins s σ H R I h => ?_⟩
  refine Call_ (ld_blt I hg hm PyProof.Rows.boot_zip ?_)
  rw [hs]
  refine callWith_typeS (thn (he.run pins s σ H _ I h) fun v s1 ⟨y, H1, I1, ry, a, ls, ey, hq, hne, h8, hls, q⟩ => ?_)
  subst ey
  obtain rfl : v = Value.ref a := ry
  refine StX.star_lst I1 hq fun us s2 I2 rv => ?_
  have e := zs_vals_refs rv
  subst e
  refine pie_zipS I2 (by simpa using hne) (by simpa using h8) (fun l hl => ?_) q
  obtain ⟨l', hl', rfl⟩ := List.mem_map.1 hl
  exact hls l' hl'
/-- zip(e, e2), e a list, e2 a tuple -/
def iZipM (K : PySem.W.Frag) (ta : TA) : TI := fun σ H R => ta σ H fun vs H1 => ∃ a b xs ys, vs = [.ref a, .ref b] ∧ SqL K H1 a xs ∧ SqT K H1 b ys ∧ R (Itn K [(a, false), (b, true)]) H1
theorem pi_zipM {X : Cx} {tg e e2 : Expr} {ta : TA} {p pos : Pos} (hg : Gl X "zip") (hm : X.mg "zip" = none) (ha : PA X [e, e2] ta)
    (hs : starEach [e, e2] X.env = (false, eval e X.env) :: starEach [e2] X.env := by rfl) (hpl : (backTo pos (starEach [e2] X.env)).any (·.1) = false := by rfl) :
    PI X tg (.Call (.Name "zip" p) [e, e2] [] pos) (iZipM X.K ta) := by
  refine ⟨fun pins s σ H R I h => ?_⟩
  refine Call_ (ld_blt I hg hm PyProof.Rows.boot_zip (PyProof.Rows.callWith_type1 (thn (ha.run pos pins s σ H _ I h) fun us s1 ⟨vs, H1, I1, r1, q1⟩ => ?_) hs hpl))
  obtain ⟨a, b, xs, ys, ex, hqx, hqy, q⟩ := q1
  subst ex
  cases r1 with
  | cons r rr =>
    cases rr with
    | cons r' rr =>
      cases rr
      cases r
      cases r'
      refine pie_zipS (ls := [(a, false), (b, true)]) I1 (by simp) (by simp) (fun l hl => ?_) q
      rcases List.mem_cons.1 hl with rfl | hl
      · exact ⟨xs, hqx⟩
      · rw [List.mem_singleton.1 hl]
        exact ⟨ys, hqy⟩
end L2
/-! own rules: itertools.combinations(list, r) walked by a for -/
namespace CB
open PySem PySem.Spec PyProof.Rows
theorem owner_c : Manifest.owners.lookup (String.ofList ['s', 'n', 'o', 'i', 't', 'a', 'n', 'i', 'b', 'm', 'o', 'c', '.', 's', 'l', 'o', 'o', 't', 'r', 'e', 't', 'i'].reverse) = some Manifest.sig_itertools_combinations := by kernel_rfl
theorem slot_init : Slot "itertools.combinations" "__init__" "object.__init__" :=
  .of (owner := "object") (n := "__init__") (by rw [typeLookup_type, builtinLookup_eq_fast]; kernel_rfl) (by decide +kernel) (by decide +kernel) (by decide +kernel)
    (by first | exact .inl (by decide +kernel) | exact .inr (by decide +kernel)) (by rw [isSubtype_type]; kernel_rfl)
theorem slot_iter : Slot "itertools.combinations" "__iter__" "itertools.combinations.__iter__" :=
  .of (owner := "itertools.combinations") (n := "__iter__") (by rw [typeLookup_type, builtinLookup_eq_fast]; kernel_rfl) (by decide +kernel) (by decide +kernel) (by decide +kernel)
    (by first | exact .inl (by decide +kernel) | exact .inr (by decide +kernel)) (by rw [isSubtype_type]; kernel_rfl)
theorem slot_next : Slot "itertools.combinations" "__next__" "itertools.combinations.__next__" :=
  .of (owner := "itertools.combinations") (n := "__next__") (by rw [typeLookup_type, builtinLookup_eq_fast]; kernel_rfl) (by decide +kernel) (by decide +kernel) (by decide +kernel)
    (by first | exact .inl (by decide +kernel) | exact .inr (by decide +kernel)) (by rw [isSubtype_type]; kernel_rfl)
theorem args_iter (a : Value) : argsOk "itertools.combinations.__iter__" ⟨[a], []⟩ := by
  unfold argsOk; rw [signature?_of (id := "itertools.combinations.__iter__") (n := ['_', '_', 'r', 'e', 't', 'i', '_', '_']) (o := ['s', 'n', 'o', 'i', 't', 'a', 'n', 'i', 'b', 'm', 'o', 'c', '.', 's', 'l', 'o', 'o', 't', 'r', 'e', 't', 'i']) (by kernel_rfl) owner_c]; kernel_rfl
theorem args_next (a : Value) : argsOk "itertools.combinations.__next__" ⟨[a], []⟩ := by
  unfold argsOk; rw [signature?_of (id := "itertools.combinations.__next__") (n := ['_', '_', 't', 'x', 'e', 'n', '_', '_']) (o := ['s', 'n', 'o', 'i', 't', 'a', 'n', 'i', 'b', 'm', 'o', 'c', '.', 's', 'l', 'o', 'o', 't', 'r', 'e', 't', 'i']) (by kernel_rfl) owner_c]; kernel_rfl
theorem entry_next : entryFor table "itertools.combinations.__next__" = some Builtin.«itertools.combinations.__next__» := entryFor_of_tree (by kernel_rfl)
theorem entry_new : entryFor table "itertools.combinations.__new__" = some Builtin.«itertools.combinations.__new__» := entryFor_of_tree (by kernel_rfl)
theorem entry_iter : entryFor table "itertools.combinations.__iter__" = some Builtin.«dict_keyiterator.__iter__» :=
  entryFor_alias (id' := "dict_keyiterator.__iter__") (by kernel_rfl) (by first | rfl | decide +kernel | (unfold String.splitOn; simp +decide [String.splitOnAux])) (by decide +kernel) (by kernel_rfl)
theorem mro_c : mroOf (.type "itertools.combinations") = pure [.type "itertools.combinations", .type "object"] := by rw [mroOf_type]; kernel_rfl
theorem lookup_new : typeLookup (.type "itertools.combinations") "__new__" = pure (some (.builtin "itertools.combinations.__new__")) := by rw [typeLookup_type, builtinLookup_eq_fast]; kernel_rfl
theorem called_c : TypeCalled "itertools.combinations" "itertools.combinations.__new__" "object.__init__" :=
  ⟨by decide +kernel, by decide +kernel, ⟨_, _, mro_c⟩, madeBy_type mro_c lookup_new (by decide +kernel), by decide +kernel, by rw [isSubtype_type]; kernel_rfl, slot_init⟩
theorem typeCall_c (a b : Value) : checkTypeCall "itertools.combinations" ⟨[a, b], []⟩ = pure () := by kernel_rfl
theorem newCall_c (a b : Value) : checkBuiltinCall "itertools.combinations.__new__" ⟨[.type "itertools.combinations", a, b], []⟩ = pure () := by kernel_rfl
theorem sub_c : isSubtype (.type "itertools.combinations") (.type "itertools.combinations") = pure true := by rw [isSubtype_type]; kernel_rfl

/-- the choices of r of k, k + 1, .. (n of them), in their order -/
def cmb : Nat → Nat → Nat → List (List Nat)
  | _, _, 0 => [[]]
  | _, 0, _ + 1 => []
  | k, n + 1, r + 1 => (cmb (k + 1) n r).map (k :: ·) ++ cmb (k + 1) n (r + 1)
def chain (f : Nat → List Nat → Option (List Nat)) : Bool :=
  (List.range 9).all fun n => (List.range 5).all fun r => decide (n < r) ||
    ((cmb 0 n r)[0]? == some (List.range r) && (List.range (cmb 0 n r).length).all fun i => f n ((cmb 0 n r).getD i []) == (cmb 0 n r)[i + 1]?)
abbrev rec_ (P : Addr) (st : Int) (last : Value) (idx : List Nat) : Obj :=
  { cls := .type "itertools.combinations", dict := none, data := .fields (#[.ref P, rawInt st, last] ++ (idx.map fun (n : Nat) => rawInt n).toArray), slots := #[] }
abbrev tup_ (its : List Value) : Obj := { cls := .type "tuple", data := .seq its.toArray }
def pick_ (its : List Value) (idx : List Nat) : List Value := idx.map fun i => its.toArray.getD i .none
/-- what a turn does: from the state st (0 fresh, 1 under way) with the numbers idx it lays a new tuple of the items at nxt -/
def Turns (NB : (Nat → List Nat → Option (List Nat)) → Builtin) (f : Nat → List Nat → Option (List Nat)) (st : Int) (its : List Value) (idx nxt : List Nat) : Prop :=
  ∀ (prog : Program) (w : World) (A : Around) (E : Value → Shared → Prop) (s : Shared) (z P : Addr) (last : Value) (Q : Value → Shared → Prop), P ≠ z →
    s.heap.get? z = some (rec_ P st last idx) → s.heap.get? P = some (tup_ its) →
    (∀ h', h'.get? z = some (rec_ P 1 (.ref s.heap.objs.size) nxt) → h'.get? s.heap.objs.size = some (tup_ (pick_ its nxt)) → (∀ b o, b ≠ z → s.heap.get? b = some o → h'.get? b = some o) → Q (.ref s.heap.objs.size) { s with heap := h' }) →
    wpAny (model prog w) A (NB f ⟨[.ref z], []⟩) (fun fin s' => ∃ v, fin = .done (.ret v) ∧ Q v s') E s
def Ends (NB : (Nat → List Nat → Option (List Nat)) → Builtin) (f : Nat → List Nat → Option (List Nat)) (its : List Value) (idx : List Nat) : Prop :=
  ∀ (prog : Program) (w : World) (A : Around) (E : Value → Shared → Prop) (s : Shared) (z P : Addr) (last : Value) (Q : Fin → Shared → Prop), A.handled = none → P ≠ z →
    s.heap.get? z = some (rec_ P 1 last idx) → s.heap.get? P = some (tup_ its) →
    (∀ h' e, (∀ b o, b ≠ z → s.heap.get? b = some o → h'.get? b = some o) → (∃ o, h'.get? e = some o ∧ o.cls = .type "StopIteration") → E (.ref e) { s with heap := h' }) →
    wpAny (model prog w) A (NB f ⟨[.ref z], []⟩) Q E s
structure NextOk (NB : (Nat → List Nat → Option (List Nat)) → Builtin) : Prop where
  first : ∀ f its idx, idx.length ≤ 8 → Turns NB f 0 its idx idx
  more : ∀ f its idx nxt, nxt.length ≤ 8 → f its.length idx = some nxt → Turns NB f 1 its idx nxt
  done : ∀ f its idx, f its.length idx = none → Ends NB f its idx
theorem numbers_of (idx : List Nat) : (idx.map fun (n : Nat) => rawInt n).map (fun | .int n _ => n.toNat | _ => 0) = idx := by
  rw [List.map_map]
  conv => rhs; rw [← List.map_id idx]
  exact List.map_congr_left fun n _ => by simp [rawInt]
theorem idx_of {P : Addr} {st : Int} {last : Value} {idx : List Nat} : ((#[.ref P, rawInt st, last] ++ (idx.map fun (n : Nat) => rawInt n).toArray).toList.drop 3).map (fun | .int n _ => n.toNat | _ => 0) = idx := by
  have e : (#[.ref P, rawInt st, last] ++ (idx.map fun (n : Nat) => rawInt n).toArray).toList.drop 3 = idx.map fun (n : Nat) => rawInt n := by simp
  rw [e, numbers_of]
theorem rec_fields {P : Addr} {st : Int} {last : Value} {idx : List Nat} : (rec_ P st last idx).data = .fields (#[.ref P, rawInt st, last] ++ (idx.map fun (n : Nat) => rawInt n).toArray) := rfl
theorem next_is : ∃ (NB : (Nat → List Nat → Option (List Nat)) → Builtin) (f : Nat → List Nat → Option (List Nat)), Builtin.«itertools.combinations.__next__» = NB f ∧ chain f = true ∧ NextOk NB := by
  refine ⟨_, _, rfl, by decide +kernel, ⟨?_, ?_, ?_⟩⟩
  · intro f its idx hl prog w A E s z P last Q hPz hz hP hQ
    show wpAny _ _ (field (.ref z) 0 >>= _) _ _ s
    refine wpAny_bind (wpAny_field hz rec_fields (x := .ref P) (by simp) ?_)
    refine wpAny_bind ?_
    show wpAny _ _ (load z >>= _) _ _ s
    refine wpAny_bind (wpAny_load hz ?_)
    refine wpAny_pure ?_
    generalize he : List.map _ (List.drop 3 _) = idx'
    have e2 : idx' = idx := he.symm.trans idx_of
    subst e2
    clear he
    refine wpAny_bind ?_
    show wpAny _ _ (field (.ref z) 1 >>= _) _ _ s
    refine wpAny_bind (wpAny_field hz rec_fields (x := rawInt 0) (by simp) ?_)
    refine wpAny_pure ?_
    show wpAny _ _ (setField (.ref z) 1 (rawInt 1) >>= _) _ _ s
    refine wpAny_bind (wpAny_setField_rec hz (by simp) fun h₁ hz₁ hs₁ => ?_)
    replace hz₁ : h₁.get? z = some (rec_ P 1 last idx') := by rw [hz₁]; simp [rec_]
    have hP₁ := hs₁.extBut _ _ hPz hP
    have hk₁ := hs₁.extBut
    refine wpAny_bind ?_
    show wpAny _ _ (Builtin.Itertools.itPoolItems (.ref P) >>= _) _ _ _
    refine wpAny_bind ?_
    show wpAny _ _ (seqItems? (.ref P) >>= _) _ _ _
    refine wpAny_bind (wpAny_seqItems hP₁ rfl ?_)
    refine wpAny_pure ?_
    show wpAny _ _ (newTuple (pick_ its idx')) _ _ _
    refine wpAny_newTuple ?_ (by have e8 : (pick_ its idx').length = idx'.length := by simp [pick_]
                                 rw [e8]; exact Nat.le_trans hl (by decide))
    have hzs : h₁.objs.size = s.heap.objs.size := hs₁.1
    have hz₂ : (h₁.push { cls := .type "tuple", data := .seq (pick_ its idx').toArray }).get? z = some (rec_ P 1 last idx') := Heap.get?_push_of_some _ hz₁
    show wpAny _ _ (field (.ref z) 2 >>= _) _ _ _
    refine wpAny_bind (wpAny_field hz₂ rec_fields (x := last) (by simp) ?_)
    show wpAny _ _ (setField (.ref z) 2 (.ref h₁.objs.size) >>= _) _ _ _
    refine wpAny_bind (wpAny_setField_rec hz₂ (by simp) fun h₃ hz₃ hs₃ => ?_)
    refine wpAny_bind (wpAny_letGo ?_)
    refine wpAny_pure ⟨_, rfl, ?_⟩
    have hzl : z < h₁.objs.size := Heap.lt_size hz₁
    rw [hzs] at hz₃ ⊢
    refine hQ h₃ (by rw [hz₃]; simp [rec_]) ?_ fun b o hb e => hs₃.extBut _ _ hb (Heap.get?_push_of_some _ (hk₁ b o hb e))
    refine hs₃.extBut _ _ (Nat.ne_of_gt (by rw [← hzs]; exact hzl)) ?_
    rw [← hzs]
    exact Heap.get?_push_size _ rfl
  · intro f its idx nxt hl hf prog w A E s z P last Q hPz hz hP hQ
    show wpAny _ _ (field (.ref z) 0 >>= _) _ _ s
    refine wpAny_bind (wpAny_field hz rec_fields (x := .ref P) (by simp) ?_)
    refine wpAny_bind ?_
    show wpAny _ _ (load z >>= _) _ _ s
    refine wpAny_bind (wpAny_load hz ?_)
    refine wpAny_pure ?_
    generalize he : List.map _ (List.drop 3 _) = idx'
    have e2 : idx' = idx := he.symm.trans idx_of
    subst e2
    clear he
    refine wpAny_bind ?_
    show wpAny _ _ (field (.ref z) 1 >>= _) _ _ s
    refine wpAny_bind (wpAny_field hz rec_fields (x := rawInt 1) (by simp) ?_)
    refine wpAny_pure ?_
    show wpAny _ _ (Builtin.Itertools.itPoolItems (.ref P) >>= _) _ _ _
    refine wpAny_bind ?_
    show wpAny _ _ (seqItems? (.ref P) >>= _) _ _ _
    refine wpAny_bind (wpAny_seqItems hP rfl ?_)
    refine wpAny_pure ?_
    have hf' : f its.toArray.size idx' = some nxt := by simpa using hf
    rw [hf']
    show wpAny _ _ (Builtin.Itertools.itSetNumbersFrom (.ref z) 3 nxt >>= _) _ _ _
    refine wpAny_bind ?_
    show wpAny _ _ (updateFields z _) _ _ _
    have upd3 : ((#[.ref P, rawInt 1, last] ++ (idx'.map fun (n : Nat) => rawInt n).toArray).extract 0 3 ++ (nxt.map fun (n : Nat) => rawInt n).toArray) = #[.ref P, rawInt 1, last] ++ (nxt.map fun (n : Nat) => rawInt n).toArray := by
      congr 1
      apply Array.ext'
      simp
    refine wpAny_updateFields hz rec_fields ?_ ?_
    rotate_left
    · rw [upd3]
      simp only [Array.size_append, List.size_toArray, List.length_map]
      show 3 + nxt.length ≤ sizeLine + 3
      exact Nat.le_trans (Nat.add_le_add_left hl 3) (by decide)
    have hs₁ : Heap.SameBut z s.heap (s.heap.update z (Obj.mapFields fun fs => fs.extract 0 3 ++ (nxt.map fun (n : Nat) => rawInt n).toArray)) := Heap.SameBut.update ..
    have hz₁ : (s.heap.update z (Obj.mapFields fun fs => fs.extract 0 3 ++ (nxt.map fun (n : Nat) => rawInt n).toArray)).get? z = some (rec_ P 1 last nxt) := by
      rw [Heap.get?_update_self _ hz rfl]
      simp only [Obj.mapFields, rec_]
      rw [upd3]
    generalize (s.heap.update z (Obj.mapFields fun fs => fs.extract 0 3 ++ (nxt.map fun (n : Nat) => rawInt n).toArray)) = h₁ at hs₁ hz₁ ⊢
    have hP₁ := hs₁.extBut _ _ hPz hP
    have hk₁ := hs₁.extBut
    show wpAny _ _ (_ >>= _) _ _ _
    refine wpAny_bind ?_
    show wpAny _ _ (Builtin.Itertools.itPoolItems (.ref P) >>= _) _ _ _
    refine wpAny_bind ?_
    show wpAny _ _ (seqItems? (.ref P) >>= _) _ _ _
    refine wpAny_bind (wpAny_seqItems hP₁ rfl ?_)
    refine wpAny_pure ?_
    show wpAny _ _ (newTuple (pick_ its nxt)) _ _ _
    refine wpAny_newTuple ?_ (by have e8 : (pick_ its nxt).length = nxt.length := by simp [pick_]
                                 rw [e8]; exact Nat.le_trans hl (by decide))
    have hzs : h₁.objs.size = s.heap.objs.size := hs₁.1
    have hz₂ : (h₁.push { cls := .type "tuple", data := .seq (pick_ its nxt).toArray }).get? z = some (rec_ P 1 last nxt) := Heap.get?_push_of_some _ hz₁
    show wpAny _ _ (field (.ref z) 2 >>= _) _ _ _
    refine wpAny_bind (wpAny_field hz₂ rec_fields (x := last) (by simp) ?_)
    show wpAny _ _ (setField (.ref z) 2 (.ref h₁.objs.size) >>= _) _ _ _
    refine wpAny_bind (wpAny_setField_rec hz₂ (by simp) fun h₃ hz₃ hs₃ => ?_)
    refine wpAny_bind (wpAny_letGo ?_)
    refine wpAny_pure ⟨_, rfl, ?_⟩
    have hzl : z < h₁.objs.size := Heap.lt_size hz₁
    rw [hzs] at hz₃ ⊢
    refine hQ h₃ (by rw [hz₃]; simp [rec_]) ?_ fun b o hb e => hs₃.extBut _ _ hb (Heap.get?_push_of_some _ (hk₁ b o hb e))
    refine hs₃.extBut _ _ (Nat.ne_of_gt (by rw [← hzs]; exact hzl)) ?_
    rw [← hzs]
    exact Heap.get?_push_size _ rfl
  · intro f its idx hf prog w A E s z P last Q hh hPz hz hP hE
    show wpAny _ _ (field (.ref z) 0 >>= _) _ _ s
    refine wpAny_bind (wpAny_field hz rec_fields (x := .ref P) (by simp) ?_)
    refine wpAny_bind ?_
    show wpAny _ _ (load z >>= _) _ _ s
    refine wpAny_bind (wpAny_load hz ?_)
    refine wpAny_pure ?_
    generalize he : List.map _ (List.drop 3 _) = idx'
    have e2 : idx' = idx := he.symm.trans idx_of
    subst e2
    clear he
    refine wpAny_bind ?_
    show wpAny _ _ (field (.ref z) 1 >>= _) _ _ s
    refine wpAny_bind (wpAny_field hz rec_fields (x := rawInt 1) (by simp) ?_)
    refine wpAny_pure ?_
    show wpAny _ _ (Builtin.Itertools.itPoolItems (.ref P) >>= _) _ _ _
    refine wpAny_bind ?_
    show wpAny _ _ (seqItems? (.ref P) >>= _) _ _ _
    refine wpAny_bind (wpAny_seqItems hP rfl ?_)
    refine wpAny_pure ?_
    have hf' : f its.toArray.size idx' = none := by simpa using hf
    rw [hf']
    show wpAny _ _ (setField (.ref z) 1 (rawInt 2) >>= _) _ _ s
    refine wpAny_bind (wpAny_setField_rec hz (by simp) fun h₁ hz₁ hs₁ => ?_)
    show wpAny _ _ (newExc (.type "StopIteration") [] >>= _) _ _ _
    refine wpAny_bind ?_
    simp only [newExc, newTuple]
    refine wpAny_bind (wpAny_newObj_type ?_ (by size_fits))
    refine wpAny_bind (m := firstArgMember _ _) (wpAny_of_eq (a := Value.none) (by first | rfl | (simp only [firstArgMember]; rfl)) ?_)
    refine wpAny_newObj_type ?_ (by size_fits)
    simp only [raiseNew]
    refine wpAny_bind (wpAny_handled ?_)
    first | rw [show A.in1.handled = none from hh] | rw [hh]
    refine wpAny_bind (wpAny_pure (wpAny_throw ?_))
    exact hE _ _ (fun b o hb e => ((hs₁.extBut.push _).push _) _ _ hb e) ⟨_, Heap.get?_push_size _ rfl, rfl⟩
theorem meets_new (l : Addr) (o : Obj) (its : List Value) (n : Nat) (r : Nat) (t : Tok) (hr : r ≤ its.length) (hr8 : r ≤ 8) (hc : o.cls = .type "list") (hd : o.data = .seq its.toArray n) (hsz : its.toArray.size ≤ sizeLine) :
    Meets (Builtin.«itertools.combinations.__new__» ⟨[.type "itertools.combinations", .ref l, .int r t], []⟩)
      (fun _ R s => s.heap.get? l = some o ∧ ∀ h' : Heap, (∀ b o', s.heap.get? b = some o' → h'.get? b = some o') →
        R (.ok (.ret (.ref (h'.push (tup_ its)).objs.size))) { s with heap := (h'.push (tup_ its)).push (rec_ h'.objs.size 0 .none (List.range r)) }) :=
  .of_wp fun prog w A R s h => by
    obtain ⟨hp, g, d, tk, os⟩ := s; obtain ⟨ht, h⟩ := h
    have hsub : isSubtype (.type "itertools.combinations") (.type ("itertools." ++ "combinations")) = pure true := by
      rw [show ("itertools." ++ "combinations" : String) = "itertools.combinations" from by decide]; exact sub_c
    have hT : Shared.TypeIs ⟨hp, g, d, tk, os⟩ (.ref l) "list" := ⟨o, ht, hc⟩
    wp_walk using wpAny_collect_seq (hsz := hsz) l (.inl rfl) ht hc hd
    rw [if_neg (by simp only [Bool.or_eq_true, decide_eq_true_eq]; omega)]
    refine wpAny_pure ?_
    refine wpAny_bind (wpAny_collect_seq (hsz := hsz) l (.inl rfl) ht hc hd fun h' hk => ?_)
    have n1 : ¬ ((r : Int) < 0) := by omega
    have n2 : Builtin.Itertools.itTooMany (r : Int) = false := by
      simp only [Builtin.Itertools.itTooMany, decide_eq_false_iff_not]; omega
    show wpAny _ _ (if (r : Int) < 0 then _ else _) _ _ _
    rw [if_neg n1]
    show wpAny _ _ (if Builtin.Itertools.itTooMany (r : Int) = true then _ else _) _ _ _
    rw [if_neg (by rw [n2]; exact Bool.false_ne_true)]
    show wpAny _ _ (newTuple its.toArray.toList >>= _) _ _ _
    refine wpAny_bind (wpAny_newTuple ?_ (by simpa using hsz))
    refine wpAny_pure ?_
    have td : typeHasDict (.type "itertools.combinations") = false := by decide +kernel
    show wpAny _ _ (Builtin.Itertools.itNewRecord (.type "itertools.combinations") _ >>= _) _ _ _
    refine wpAny_bind ?_
    unfold Builtin.Itertools.itNewRecord
    rw [td]
    rw [if_pos (show (!false) = true from rfl)]
    have e1 : ((r : Int)).toNat = r := Int.toNat_natCast r
    have e2 : ¬ (r > its.toArray.toList.length) := by simpa using hr
    rw [e1, if_neg e2]
    refine wpAny_newObj_type ?_ ?_
    · refine wpAny_pure ⟨_, rfl, ?_⟩
      have q := h h' hk
      simpa [rec_, tup_] using q
    · show ([_, _, _] ++ (List.range r).map _).toArray.size ≤ _
      simp only [List.size_toArray, List.length_append, List.length_map, List.length_range]
      show 3 + r ≤ _
      exact Nat.le_trans (Nat.add_le_add_left hr8 3) (by decide)
section
variable {prog : Program} {w : World} {A : Around} {E : Value → Shared → Prop} {s : Shared}
theorem call_c {l : Addr} {o : Obj} {its : List Value} {n r : Nat} {t : Tok} {Q : Value → Shared → Prop} (ho : s.heap.get? l = some o) (hr : r ≤ its.length) (hr8 : r ≤ 8) (hc : o.cls = .type "list") (hd : o.data = .seq its.toArray n) (hsz : its.toArray.size ≤ sizeLine)
    (h : ∀ h' : Heap, (∀ b o', s.heap.get? b = some o' → h'.get? b = some o') → Q (.ref (h'.push (tup_ its)).objs.size) { s with heap := (h'.push (tup_ its)).push (rec_ h'.objs.size 0 .none (List.range r)) }) :
    wpAny (model prog w) A (call (.type "itertools.combinations") [.ref l, .int r t]) Q E s :=
  callType_new called_c (by decide) (typeCall_c _ _) (newCall_c _ _) (fun obj => F.args_object_init_3 obj _ _) entry_new
    (meets_new l o its n r t hr hr8 hc hd hsz) ⟨ho, fun h' hk => ⟨⟨_, Heap.get?_push_size _ rfl, rfl⟩, h h' hk⟩⟩
theorem pyIter_c {z : Addr} {P : Addr} {st : Int} {last : Value} {idx : List Nat} {Q : Value → Shared → Prop} (hz : s.heap.get? z = some (rec_ P st last idx)) (h : Q (.ref z) s) : wpAny (model prog w) A (pyIter (.ref z)) Q E s := by
  have hT : s.TypeIs (.ref z) "itertools.combinations" := ⟨_, hz, rfl⟩
  refine wpAny_pyIter_slot hT slot_iter (wpAny_call_entry slot_iter hT entry_iter ?_ (args_iter _))
  show wpAny _ _ (ret (.ref z)) _ _ s
  exact wpAny_pure ⟨_, rfl, "itertools.combinations", _, hT, slot_next.lookup, h⟩
theorem pyNext_item {NB : (Nat → List Nat → Option (List Nat)) → Builtin} {f : Nat → List Nat → Option (List Nat)} (hb : Builtin.«itertools.combinations.__next__» = NB f) {st : Int} {its : List Value} {idx nxt : List Nat} (T : Turns NB f st its idx nxt)
    {z P : Addr} {last : Value} {Q : Option Value → Shared → Prop} (hPz : P ≠ z) (hz : s.heap.get? z = some (rec_ P st last idx)) (hP : s.heap.get? P = some (tup_ its))
    (hQ : ∀ h', h'.get? z = some (rec_ P 1 (.ref s.heap.objs.size) nxt) → h'.get? s.heap.objs.size = some (tup_ (pick_ its nxt)) → (∀ b o, b ≠ z → s.heap.get? b = some o → h'.get? b = some o) → Q (some (.ref s.heap.objs.size)) { s with heap := h' }) :
    wpAny (model prog w) A (pyNext (.ref z)) Q E s := by
  have hT : s.TypeIs (.ref z) "itertools.combinations" := ⟨_, hz, rfl⟩
  unfold pyNext
  exact wpAny_bind (wpAny_attempt (wpAny_callSpecial?_slot (name := Str.ofString "__next__") hT slot_next
    (wpAny_call_entry slot_next hT entry_next (by rw [hb]; exact T _ _ _ _ _ _ _ _ _ hPz hz hP fun h' a1 a2 a3 => wpAny_pure (hQ h' a1 a2 a3)) (args_next _))))
theorem pyNext_end {NB : (Nat → List Nat → Option (List Nat)) → Builtin} {f : Nat → List Nat → Option (List Nat)} (hb : Builtin.«itertools.combinations.__next__» = NB f) {its : List Value} {idx : List Nat} (T : Ends NB f its idx)
    {z P : Addr} {last : Value} {Q : Option Value → Shared → Prop} (hh : A.handled = none) (hPz : P ≠ z) (hz : s.heap.get? z = some (rec_ P 1 last idx)) (hP : s.heap.get? P = some (tup_ its))
    (hQ : ∀ h', (∀ b o, b ≠ z → s.heap.get? b = some o → h'.get? b = some o) → Q none { s with heap := h' }) :
    wpAny (model prog w) A (pyNext (.ref z)) Q E s := by
  have hT : s.TypeIs (.ref z) "itertools.combinations" := ⟨_, hz, rfl⟩
  unfold pyNext
  refine wpAny_bind (wpAny_attempt (wpAny_callSpecial?_slot (name := Str.ofString "__next__") hT slot_next
    (wpAny_call_entry slot_next hT entry_next (by
      rw [hb]
      refine T _ _ _ _ _ _ _ _ _ hh hPz hz hP fun h' e hk he => ?_
      obtain ⟨o, ho, hc⟩ := he
      refine wpAny_bind (wpAny_isInstance (T := "StopIteration") (b := true) ⟨o, ho, hc⟩ isSubtype_stop ?_)
      exact wpAny_pure (hQ _ hk)) (args_next _))))
end
theorem chain_at {f : Nat → List Nat → Option (List Nat)} (h : chain f = true) {n r : Nat} (hn : n ≤ 8) (hr : r ≤ 4) (hrn : r ≤ n) :
    (cmb 0 n r)[0]? = some (List.range r) ∧ ∀ i c, (cmb 0 n r)[i]? = some c → f n c = (cmb 0 n r)[i + 1]? := by
  have q := List.all_eq_true.1 (List.all_eq_true.1 h n (List.mem_range.2 (by omega))) r (List.mem_range.2 (by omega))
  simp only [Bool.or_eq_true, decide_eq_true_eq, Bool.and_eq_true, beq_iff_eq, List.all_eq_true, List.mem_range] at q
  replace q := q.resolve_left (by omega)
  refine ⟨by simpa using q.1, fun i c hc => ?_⟩
  have hi : i < (cmb 0 n r).length := by
    rcases Nat.lt_or_ge i (cmb 0 n r).length with z | z
    · exact z
    · rw [List.getElem?_eq_none z] at hc; cases hc
  have e2 : (cmb 0 n r).getD i [] = c := by rw [List.getD_eq_getElem?_getD, hc]; rfl
  have q2 := q.2 i hi
  rw [e2] at q2
  exact q2
end CB
namespace L2
open PySem PySem.Spec PyProof.Rows CB
/-- the choices cs of the places of xs, each in a new tuple -/
def Itq (xs : List V) (cs : List (List Nat)) : It :=
  ⟨fun i _ => i < cs.length, fun i H v H' => ∃ T c, v = .ref T ∧ H T = none ∧ H' = upd H T (.tup (c.map fun k => xs.getD k .non)) ∧ cs[i]? = some c, fun i _ => cs.length ≤ i⟩
theorem cmb_len : ∀ (k n r : Nat) (c : List Nat), c ∈ cmb k n r → c.length = r ∧ ∀ x ∈ c, k ≤ x ∧ x < k + n
  | k, n, 0, c, h => by
    have e : c = [] := by cases n <;> simpa [cmb] using h
    subst e; simp
  | k, 0, r + 1, c, h => by simp [cmb] at h
  | k, n + 1, r + 1, c, h => by
    simp only [cmb, List.mem_append, List.mem_map] at h
    rcases h with ⟨d, hd, rfl⟩ | h
    · obtain ⟨q1, q2⟩ := cmb_len (k + 1) n r d hd
      refine ⟨by simp [q1], fun x hx => ?_⟩
      rcases List.mem_cons.1 hx with rfl | hx
      · omega
      · have := q2 x hx; omega
    · obtain ⟨q1, q2⟩ := cmb_len (k + 1) n (r + 1) c h
      exact ⟨q1, fun x hx => by have := q2 x hx; omega⟩
theorem vals_pick {xs : List V} {its : List Value} (rv : Vals xs its) : ∀ c : List Nat, (∀ k ∈ c, k < xs.length) → Vals (c.map fun k => xs.getD k .non) (pick_ its c)
  | [], _ => .nil
  | k :: c, h => by
    have hk := h k (List.mem_cons_self ..)
    obtain ⟨u, hu, ru⟩ := rv.get (List.getElem?_eq_getElem hk)
    refine .cons ?_ (vals_pick rv c fun x hx => h x (List.mem_cons_of_mem _ hx))
    have e1 : xs.getD k .non = xs[k] := by rw [List.getD_eq_getElem?_getD, List.getElem?_eq_getElem hk]; rfl
    have e2 : its.toArray.getD k .none = u := by
      rw [Array.getD_eq_getD_getElem?]
      simp [hu]
    show RelV (xs.getD k .non) (its.toArray.getD k .none)
    rw [e1, e2]
    exact ru
theorem turn_c {P : Program} {w : World} {K : PySem.W.Frag} {tg : Expr} {z p : Addr} {xs : List V} {its : List Value} {r : Nat} (hpz : p ≠ z) (rv : Vals xs its) (hn : xs.length ≤ 8) (hr : r ≤ 4) (hrn : r ≤ xs.length) :
    Turn P w K tg (Itq xs (cmb 0 xs.length r)) [z, p] z (fun i h => (∃ last, h.get? z = some (rec_ p (if i = 0 then 0 else 1) last ((cmb 0 xs.length r).getD (i - 1) []))) ∧ h.get? p = some (tup_ its) ∧ i ≤ (cmb 0 xs.length r).length) where
  mem := by simp
  obj := fun i h st c hc => by
    obtain ⟨⟨last, hz⟩, hp, hle⟩ := st
    have e' : c = z ∨ c = p := by simpa using hc
    rcases e' with q | q
    · rw [q]; exact ⟨_, hz, fun v q => nomatch q⟩
    · rw [q]; exact ⟨_, hp, fun v q => nomatch q⟩
  keep := fun i h h' st k => by
    obtain ⟨⟨last, hz⟩, hp, hle⟩ := st
    exact ⟨⟨last, k z (by simp) _ hz⟩, k p (by simp) _ hp, hle⟩
  item := by
    intro X hP hw hK hc i pins s σ H E I hf st hg
    subst hP hw hK
    obtain ⟨⟨last, hz⟩, hp, hle⟩ := st
    obtain ⟨NB, f, hb, hch, ok⟩ := next_is
    obtain ⟨q0, q1⟩ := chain_at hch hn hr hrn
    have hi : i < (cmb 0 xs.length r).length := hg
    have el : its.length = xs.length := rv.length.symm
    have hcur : (cmb 0 xs.length r)[i]? = some ((cmb 0 xs.length r)[i]) := List.getElem?_eq_getElem hi
    generalize (cmb 0 xs.length r)[i] = c at hcur
    have hcm : c ∈ cmb 0 xs.length r := List.mem_of_getElem? hcur
    obtain ⟨cl, cb⟩ := cmb_len _ _ _ _ hcm
    have T : Turns NB f (if i = 0 then 0 else 1) its ((cmb 0 xs.length r).getD (i - 1) []) c := by
      by_cases h0 : i = 0
      · subst h0
        have e : (cmb 0 xs.length r).getD (0 - 1) [] = c := by rw [List.getD_eq_getElem?_getD, hcur]; rfl
        rw [if_pos rfl, e]
        exact ok.first f its c (by omega)
      · rw [if_neg h0]
        have h1 : i - 1 < (cmb 0 xs.length r).length := by omega
        have hprev : (cmb 0 xs.length r)[i - 1]? = some ((cmb 0 xs.length r)[i - 1]) := List.getElem?_eq_getElem h1
        have e : (cmb 0 xs.length r).getD (i - 1) [] = (cmb 0 xs.length r)[i - 1] := by rw [List.getD_eq_getElem?_getD, hprev]; rfl
        rw [e]
        refine ok.more f its _ c (by omega) ?_
        rw [el, q1 (i - 1) _ hprev, show i - 1 + 1 = i by omega]
        exact hcur
    have hzl : z < s.heap.objs.size := Heap.lt_size hz
    have hpl : p < s.heap.objs.size := Heap.lt_size hp
    refine pyNext_item hb T hpz hz hp fun h' z' hT hk => ?_
    have vs := vals_pick rv c fun k hk => by have := cb k hk; omega
    have new : ObjOk X.prog X.w (upd H s.heap.objs.size (.tup (c.map fun k => xs.getD k .non))) h' s.heap.objs.size (.tup (c.map fun k => xs.getD k .non)) :=
      ⟨by rw [List.length_map, cl]; exact Nat.le_trans (show r ≤ 8 by omega) (by decide), pick_ its c, vs, ⟨_, hT, rfl, _, rfl⟩⟩
    have I1 : Inv X pins σ (upd H s.heap.objs.size (.tup (c.map fun k => xs.getD k .non))) { s with heap := h' } :=
      I.turnedNew (t' := s.toks) (ch := [z, p]) (fun b o hb q => hk b o (fun q' => hb (by simp [q'])) q) hf (Nat.le_refl _) new
    refine ⟨_, rfl, go_of (s := { s with heap := h' }) (n := "itertools.combinations") z' rfl rfl (by decide) ⟨.ref s.heap.objs.size, _, I1, rfl, ⟨_, c, rfl, I.hok.fresh (Nat.le_refl _), rfl, hcur⟩, ⟨⟨.ref s.heap.objs.size, ?_⟩, hk p _ hpz hp, hi⟩, fun b hbm => ?_⟩⟩
    · rw [if_neg (Nat.succ_ne_zero i)]
      have e : (cmb 0 xs.length r).getD (i + 1 - 1) [] = c := by rw [Nat.add_sub_cancel, List.getD_eq_getElem?_getD, hcur]; rfl
      rw [e]
      exact z'
    · have hlt : b < s.heap.objs.size := by
        have e' : b = z ∨ b = p := by simpa using hbm
        rcases e' with q | q
        · rw [q]; exact hzl
        · rw [q]; exact hpl
      rw [upd_ne (Nat.ne_of_lt hlt)]
      exact (hf b hbm).1
  done := by
    intro X hP hw hK hc i pins s σ H E I hf st hg
    subst hP hw hK
    obtain ⟨⟨last, hz⟩, hp, hle⟩ := st
    obtain ⟨NB, f, hb, hch, ok⟩ := next_is
    obtain ⟨q0, q1⟩ := chain_at hch hn hr hrn
    have hi : (cmb 0 xs.length r).length ≤ i := hg
    have hpos : 0 < (cmb 0 xs.length r).length := by
      rcases Nat.eq_zero_or_pos (cmb 0 xs.length r).length with e | e
      · rw [List.getElem?_eq_none (by omega)] at q0; cases q0
      · exact e
    have el : its.length = xs.length := rv.length.symm
    rw [if_neg (by omega)] at hz
    have hst : i = (cmb 0 xs.length r).length := by omega
    have T : CB.Ends NB f its ((cmb 0 xs.length r).getD (i - 1) []) := by
      subst hst
      have h1 : (cmb 0 xs.length r).length - 1 < (cmb 0 xs.length r).length := by omega
      have hprev := List.getElem?_eq_getElem h1
      have e : (cmb 0 xs.length r).getD ((cmb 0 xs.length r).length - 1) [] = (cmb 0 xs.length r)[(cmb 0 xs.length r).length - 1] := by rw [List.getD_eq_getElem?_getD, hprev]; rfl
      rw [e]
      refine ok.done f its _ ?_
      rw [el, q1 _ _ hprev]
      exact List.getElem?_eq_none (by omega)
    exact pyNext_end hb T (I.ok.hd hc) hpz hz hp fun h' hk => ⟨rfl, I.turnedL (t' := s.toks) (ch := [z, p]) (fun c o hb q => hk c o (fun q' => hb (by simp [q'])) q) hf⟩
  self := fun A i s Q E st h => by
    obtain ⟨⟨last, hz⟩, hp, hle⟩ := st
    exact pyIter_c hz h
def iCmb (K : PySem.W.Frag) (ta : TA) : TI := fun σ H R => ta σ H fun vs H1 => ∃ (a : Addr) (r : Nat) (xs : List V), vs = [.ref a, .int (r : Nat)] ∧ SqL K H1 a xs ∧ xs.length ≤ 8 ∧ r ≤ 4 ∧ r ≤ xs.length ∧ R (Itq xs (cmb 0 xs.length r)) H1
theorem pi_combo {X : Cx} {tg e e2 : Expr} {ta : TA} {p pos : Pos} (hg : Gl X "combinations") (hm : X.mg "combinations" = some (.type "itertools.combinations")) (ha : PA X [e, e2] ta)
    (hs : starEach [e, e2] X.env = (false, eval e X.env) :: starEach [e2] X.env := by rfl) (hpl : (backTo pos (starEach [e2] X.env)).any (·.1) = false := by rfl) :
    PI X tg (.Call (.Name "combinations" p) [e, e2] [] pos) (iCmb X.K ta) := by
  refine ⟨fun pins s σ H R I h => ?_⟩
  refine Call_ (ld_glob I hg hm (PyProof.Rows.callWith_type1 (thn (ha.run pos pins s σ H _ I h) fun us s1 ⟨vs, H1, I1, r1, q1⟩ => ?_) hs hpl))
  obtain ⟨a, r, xs, ex, hq, h8, h4, hr, q⟩ := q1
  subst ex
  cases r1 with
  | cons r0 rr =>
    cases rr with
    | cons r' rr =>
      cases rr
      cases r0
      obtain ⟨t, rfl⟩ := r'
      obtain ⟨its, rv, pl, hz⟩ := I1.list hq
      have el := rv.length
      obtain ⟨o, n, ho, hc, _, hd⟩ := pl
      refine call_c ho (by omega) (by omega) hc hd (by rw [List.size_toArray, ← el]; exact hz) fun h' hk => ?_
      have Ia : Inv X pins σ H1 { s1 with heap := h' } := I1.kept (t' := s1.toks) hk
      have Ib : Inv X pins σ H1 { s1 with heap := (h'.push (tup_ its)).push (rec_ h'.objs.size 0 .none (List.range r)) } :=
        I1.kept (t' := s1.toks) fun b u e => Heap.get?_push_of_some _ (Heap.get?_push_of_some _ (hk b u e))
      have z1 : (h'.push (tup_ its)).objs.size = h'.objs.size + 1 := Heap.size_push ..
      have gz : ((h'.push (tup_ its)).push (rec_ h'.objs.size 0 .none (List.range r))).get? (h'.objs.size + 1) = some (rec_ h'.objs.size 0 .none (List.range r)) := by
        have g : ((h'.push (tup_ its)).push (rec_ h'.objs.size 0 .none (List.range r))).get? (h'.push (tup_ its)).objs.size = some (rec_ h'.objs.size 0 .none (List.range r)) := Heap.get?_push_size _ rfl
        rw [z1] at g
        exact g
      have gp : ((h'.push (tup_ its)).push (rec_ h'.objs.size 0 .none (List.range r))).get? h'.objs.size = some (tup_ its) := Heap.get?_push_of_some _ (Heap.get?_push_size _ rfl)
      rw [z1]
      refine pyIter_c gz ?_
      have fresh : ∀ c, c ∈ [h'.objs.size + 1, h'.objs.size] → FpOk X pins H1 c := fun c hcm => by
        have e' : c = h'.objs.size + 1 ∨ c = h'.objs.size := by simpa using hcm
        have hle : h'.objs.size ≤ c := by
          rcases e' with z | z
          · rw [z]; exact Nat.le_add_right _ _
          · rw [z]; exact Nat.le_refl _
        exact Ia.fpOk hle (Ia.hok.fresh hle)
      obtain ⟨NB, f, hb, hch, ok⟩ := next_is
      obtain ⟨q0, _⟩ := chain_at hch h8 h4 hr
      refine ⟨h'.objs.size + 1, [h'.objs.size + 1, h'.objs.size], _, _, H1, rfl, Ib, turn_c (z := h'.objs.size + 1) (p := h'.objs.size) (Nat.ne_of_lt (Nat.lt_succ_self _)) rv h8 h4 hr, ⟨⟨.none, ?_⟩, gp, Nat.zero_le _⟩, fresh, q⟩
      have e : (cmb 0 xs.length r).getD (0 - 1) [] = List.range r := by rw [List.getD_eq_getElem?_getD, q0]; rfl
      rw [if_pos rfl, e]
      exact gz
/-- the choices as a walk -/
theorem walk_combo {xs : List V} {cs : List (List Nat)} : Walk (Itq xs cs) cs.length (fun _ => True) (fun i H v H' => ∃ T c, v = .ref T ∧ H T = none ∧ H' = upd H T (.tup (c.map fun k => xs.getD k .non)) ∧ cs[i]? = some c) :=
  ⟨fun _ _ hi _ => hi, fun _ _ => Nat.le_refl _, fun _ _ _ _ _ _ y => y⟩
end L2
namespace PP
open PySem L2
def top (i : Nat) : Stmt := (PySem.Challenge.pw_paritypool_k10_whole_wrong_pieces).main.body.getD i (.Pass ⟨0, 0, 0, 0⟩)
abbrev s_inverse : Stmt := top 8
abbrev s_weight : Stmt := top 9
abbrev s_weights : Stmt := top 10
abbrev s_check_lengths : Stmt := top 12
abbrev s_piece_at : Stmt := top 13
abbrev s_present_numbers : Stmt := top 14
abbrev s_agree : Stmt := top 15
abbrev s_wrong_pieces : Stmt := top 16
abbrev s_law_pot : Stmt := top 18
abbrev s_law_next : Stmt := top 19
abbrev s_law_word : Stmt := top 20
abbrev s_law_words : Stmt := top 21
abbrev s_law_horner : Stmt := top 22
abbrev s_law_stripe : Stmt := top 23
abbrev s_law_is_int : Stmt := top 24
abbrev s_law_answer : Stmt := top 25
abbrev s_law_value : Stmt := top 26
abbrev s_law_fits : Stmt := top 27
abbrev s_law_due : Stmt := top 28
abbrev s_law : Stmt := top 29
/-! small rules of one's own -/
section
variable {X : Cx}
theorem pe_const {x : Str} {v : V} {pos : Pos} (h : ∃ u, X.mg x = some u ∧ RelV v u) (hg : Gl X x := by rfl) (hd : (x == ("__debug__" : Str)) = false := by decide) : PE X (.Name x pos) (tC v) := by
  obtain ⟨u, h1, h2⟩ := h
  exact pe_glob hg h1 h2 hd
/-- isinstance of a caught error, whatever class the clause has caught -/
theorem call_isE' {a : Addr} {cls : Value} {d : Option Addr} {oe : Obj} {pn : List (Addr × Obj)} (hz : Zc cls d oe) (hf : ∃ vs, oe.data = .fields vs) :
    CallR (X.suite a ((a, oe) :: pn)) (.builtin "isinstance") (fun xs H Q => ∃ D, cls = .ref D ∧ d = none ∧ ExcC X.K D ∧ rIsE X.K D a xs H Q) := by
  intro pins s σ H xs us Q I r h
  obtain ⟨D, rfl, rfl, C, h⟩ := h
  exact call_isE C hz hf pins s σ H xs us Q I r h
end
/-- all but p is as it was, what is free too -/
def Only (p : Addr) (H H' : Hp) : Prop := ∀ b, b ≠ p → H' b = H b
theorem Only.upd {p : Addr} {H : Hp} {o : HO} : Only p H (upd H p o) := fun _ h => upd_ne h
theorem Only.refl {p : Addr} {H : Hp} : Only p H H := fun _ _ => rfl
theorem Only.trans {p : Addr} {H H1 H2 : Hp} (x : Only p H H1) (y : Only p H1 H2) : Only p H H2 := fun b h => (y b h).trans (x b h)
/-! which class is asked of a caught error -/
theorem kit_self {K : PySem.W.Frag} {c : Value} : PySem.W.kitOne K c c = some true := by
  unfold PySem.W.kitOne
  rw [if_pos (by simp)]
theorem kit_type {K : PySem.W.Frag} {D : Addr} {n : String} {b : Bool} (m : PySem.W.kitMeta n = true) (h : PySem.W.subIn K (.ref D) (.type n) = some b) : PySem.W.kitOne K (.ref D) (.type n) = some b := by
  unfold PySem.W.kitOne
  rw [if_neg (by intro z; cases (beq_iff_eq.mp z))]
  show (if PySem.W.kitMeta n = true then PySem.W.subIn K (.ref D) (.type n) else none) = some b
  rw [if_pos m]
  exact h
theorem kit_cls_of {K : PySem.W.Frag} {C : Addr} {t : Value} {b : Bool} (hd : PySem.W.hasDictIn K C = true) (ht : PySem.W.typeIn K (.ref C) = some (.type "type")) (h : PySem.W.subIn K t (.ref C) = some b) : PySem.W.kitCls K t (.ref C) = some b := by
  obtain ⟨cd, hc, _⟩ := PySem.W.any_some hd
  show (if ((PySem.W.clsIn K C).isSome && PySem.W.typeIn K (.ref C) == some (.type "type")) = true then PySem.W.subIn K t (.ref C) else none) = some b
  rw [if_pos (by rw [hc, ht]; rfl)]
  exact h
theorem kit_yes {K : PySem.W.Frag} {C D : Addr} (hd : PySem.W.hasDictIn K C = true) (ht : PySem.W.typeIn K (.ref C) = some (.type "type")) (h : PySem.W.subIn K (.ref D) (.ref C) = some true) : PySem.W.kitOne K (.ref D) (.ref C) = some true := by
  unfold PySem.W.kitOne
  split
  · rfl
  · exact kit_cls_of hd ht h
theorem kit_no {K : PySem.W.Frag} {C D : Addr} (hd : PySem.W.hasDictIn K C = true) (ht : PySem.W.typeIn K (.ref C) = some (.type "type")) (h : PySem.W.subIn K (.ref D) (.ref C) = some false) (hs : PySem.W.subIn K (.ref D) (.ref D) = some true) : PySem.W.kitOne K (.ref D) (.ref C) = some false := by
  unfold PySem.W.kitOne
  split
  · rename_i z
    have e : D = C := by
      have := beq_iff_eq.mp z
      injection this
    rw [← e] at h
    rw [h] at hs
    cases hs
  · exact kit_cls_of hd ht h
/-- len of a list or tuple; list of one -/
abbrev rLenS (K : PySem.W.Frag) := Evl.rLenS K
abbrev rListOf (K : PySem.W.Frag) := Evl.rListS K
/-! the prime, the inverse -/
theorem no_div (d : Nat) (h1 : 2 ≤ d) (h2 : d ≤ 255) : ¬ d ∣ 65521 := by
  intro h
  have e : 65521 % d = 0 := Nat.mod_eq_zero_of_dvd h
  have key : ∀ d : Fin 256, 2 ≤ d.val → ¬ 65521 % d.val = 0 := by decide +kernel
  exact key ⟨d, by omega⟩ h1 e
theorem prime_q (d : Nat) (h : d ∣ 65521) : d = 1 ∨ d = 65521 := by
  obtain ⟨e, he⟩ := h
  by_cases a : d ≤ 255
  · by_cases b : 2 ≤ d
    · exact absurd ⟨e, he⟩ (no_div d b a)
    · have : d ≠ 0 := by rintro rfl; omega
      omega
  · by_cases b : 2 ≤ e
    · by_cases c : e ≤ 255
      · exact absurd ⟨d, by rw [Nat.mul_comm]; exact he⟩ (no_div e b c)
      · have h1 : 256 * 256 ≤ d * e := Nat.mul_le_mul (by omega) (by omega)
        omega
    · have : e ≠ 0 := by rintro rfl; omega
      have e1 : e = 1 := by omega
      subst e1
      omega
theorem gcd_q (x : Int) (h : x % 65521 ≠ 0) : Int.gcd 65521 (x % 65521) = 1 := by
  have d1 : (Int.gcd 65521 (x % 65521) : Nat) ∣ 65521 := by
    have := Int.gcd_dvd_left (65521 : Int) (x % 65521)
    have h2 : ((Int.gcd 65521 (x % 65521) : Nat) : Int) ∣ ((65521 : Nat) : Int) := this
    exact Int.natCast_dvd_natCast.mp h2
  rcases prime_q _ d1 with e | e
  · exact e
  · exfalso
    have d2 := Int.gcd_dvd_right (65521 : Int) (x % 65521)
    rw [e] at d2
    obtain ⟨c, hc⟩ := d2
    have e2 : ((65521 : Nat) : Int) = 65521 := rfl
    rw [e2] at hc
    have p1 := Int.emod_nonneg x (show (65521 : Int) ≠ 0 by decide)
    have p2 := Int.emod_lt_of_pos x (show (0 : Int) < 65521 by decide)
    omega
theorem gcd_turn {n m : Int} (h : Int.gcd n m = 1) : Int.gcd m (n - n / m * m) = 1 := by
  rw [Int.gcd_sub_mul_right_right, Int.gcd_comm]
  exact h
/-- the inverse of a word, by what it is -/
noncomputable def invP (x : Int) : Int := open Classical in if h : ∃ b : Int, 0 ≤ b ∧ b < 65521 ∧ x * b % 65521 = 1 then h.choose else 0
theorem inv_unique {x b c : Int} (hb : 0 ≤ b ∧ b < 65521 ∧ x * b % 65521 = 1) (hc : 0 ≤ c ∧ c < 65521 ∧ x * c % 65521 = 1) : b = c := by
  have e1 : b * (x * c) % 65521 = b := by
    rw [Int.mul_emod, hc.2.2, Int.mul_one, Int.emod_emod_of_dvd _ (Int.dvd_refl _), Int.emod_eq_of_lt hb.1 hb.2.1]
  have e2 : c * (x * b) % 65521 = c := by
    rw [Int.mul_emod, hb.2.2, Int.mul_one, Int.emod_emod_of_dvd _ (Int.dvd_refl _), Int.emod_eq_of_lt hc.1 hc.2.1]
  have e3 : b * (x * c) = c * (x * b) := by grind
  rw [← e1, e3, e2]
theorem invP_eq {x b : Int} (h : 0 ≤ b ∧ b < 65521 ∧ x * b % 65521 = 1) : invP x = b := by
  have hx : ∃ b : Int, 0 ≤ b ∧ b < 65521 ∧ x * b % 65521 = 1 := ⟨b, h⟩
  unfold invP
  rw [dif_pos hx]
  exact inv_unique hx.choose_spec h
/-- one turn of Euclid's algorithm -/
theorem euclid_turn {x n m f g : Int} (h1 : (x * f - n) % 65521 = 0) (h2 : (x * g - m) % 65521 = 0) : (x * (f - n / m * g) - (n - n / m * m)) % 65521 = 0 := by
  have e : x * (f - n / m * g) - (n - n / m * m) = (x * f - n) - n / m * (x * g - m) := by grind
  rw [e, Int.sub_emod, h1, Int.mul_emod, h2, Int.mul_zero]
  rfl
theorem euclid_end {x f : Int} (h : (x * f - 1) % 65521 = 0) : 0 ≤ f % 65521 ∧ f % 65521 < 65521 ∧ x * (f % 65521) % 65521 = 1 := by
  refine ⟨Int.emod_nonneg _ (by decide), Int.emod_lt_of_pos _ (by decide), ?_⟩
  have e : x * (f % 65521) % 65521 = x * f % 65521 := by rw [Int.mul_emod, Int.emod_emod_of_dvd _ (Int.dvd_refl _), ← Int.mul_emod]
  rw [e]
  omega
/-- the inverse exists (Euclid, run in the mathematics) -/
theorem inv_ex : ∀ (k : Nat) (x n m f g : Int), m.toNat ≤ k → 0 ≤ m → 0 < n → (x * f - n) % 65521 = 0 → (x * g - m) % 65521 = 0 → Int.gcd n m = 1 → ∃ b : Int, 0 ≤ b ∧ b < 65521 ∧ x * b % 65521 = 1
  | k, x, n, m, f, g, hk, hm, hn, h1, h2, hg => by
    by_cases e : m = 0
    · subst e
      have : n = 1 := by
        rw [Int.gcd_zero_right] at hg
        omega
      subst this
      exact ⟨_, euclid_end h1⟩
    · have hm' : 0 < m := by omega
      match k, hk with
      | 0, hk => omega
      | k + 1, hk =>
        have r : n - n / m * m = n % m := by
          have := Int.mul_ediv_add_emod n m
          rw [Int.mul_comm] at this
          omega
        have r1 := Int.emod_nonneg n (show m ≠ 0 by omega)
        have r2 := Int.emod_lt_of_pos n hm'
        exact inv_ex k x m (n - n / m * m) g (f - n / m * g) (by omega) (by omega) hm' h2 (euclid_turn h1 h2) (gcd_turn hg)
theorem invP_spec {x : Int} (h : x % 65521 ≠ 0) : 0 ≤ invP x ∧ invP x < 65521 ∧ x * invP x % 65521 = 1 := by
  have p1 := Int.emod_nonneg x (show (65521 : Int) ≠ 0 by decide)
  obtain ⟨b, hb⟩ := inv_ex (x % 65521).toNat x 65521 (x % 65521) 0 1 (Nat.le_refl _) p1 (by decide) (by omega) (by omega) (gcd_q x h)
  rw [invP_eq hb]
  exact hb
/-! the field of words -/
def Zp : Type := Fin 65521
instance : Lean.Grind.CommRing Zp := inferInstanceAs (Lean.Grind.CommRing (Fin 65521))
instance : Lean.Grind.IsCharP Zp 65521 := inferInstanceAs (Lean.Grind.IsCharP (Fin 65521) 65521)
instance : DecidableEq Zp := inferInstanceAs (DecidableEq (Fin 65521))
def z (n : Int) : Zp := Lean.Grind.Ring.intCast.intCast n
theorem z_eq {a b : Int} : z a = z b ↔ a % 65521 = b % 65521 := Lean.Grind.IsCharP.intCast_ext_iff (α := Zp) 65521
theorem z_mod (a : Int) : z (a % 65521) = z a := z_eq.mpr (Int.emod_emod_of_dvd _ (Int.dvd_refl _))
theorem z_add (a b : Int) : z (a + b) = z a + z b := Lean.Grind.Ring.intCast_add a b
theorem z_sub (a b : Int) : z (a - b) = z a - z b := Lean.Grind.Ring.intCast_sub a b
theorem z_mul (a b : Int) : z (a * b) = z a * z b := Lean.Grind.Ring.intCast_mul a b
theorem z_neg (a : Int) : z (-a) = -z a := Lean.Grind.Ring.intCast_neg a
theorem z_zero : z 0 = 0 := Lean.Grind.Ring.intCast_zero
theorem z_one : z 1 = 1 := Lean.Grind.Ring.intCast_one
theorem z_z (a : Int) : z a = 0 ↔ a % 65521 = 0 := by
  rw [← z_zero, z_eq]
  rfl
theorem z_inj {a b : Int} (ha : 0 ≤ a) (ha' : a < 65521) (hb : 0 ≤ b) (hb' : b < 65521) (h : z a = z b) : a = b := by
  have := z_eq.mp h
  rw [Int.emod_eq_of_lt ha ha', Int.emod_eq_of_lt hb hb'] at this
  exact this
theorem z_mod_eq {a b : Int} (h : z a = z b) : a % 65521 = b % 65521 := z_eq.mp h
theorem z_surj (x : Zp) : ∃ n : Int, 0 ≤ n ∧ n < 65521 ∧ z n = x := by
  refine ⟨((show Fin 65521 from x).val : Int), by omega, by omega, ?_⟩
  show (Fin.intCast ((show Fin 65521 from x).val : Int) : Fin 65521) = x
  unfold Fin.intCast
  rw [if_pos (by omega), Int.natAbs_natCast]
  exact Fin.ofNat_val_eq_self _
theorem z_invP {n : Int} (h : z n ≠ 0) : z n * z (invP n) = 1 := by
  have h' : n % 65521 ≠ 0 := fun e => h ((z_z n).mpr e)
  obtain ⟨b0, b1, b2⟩ := invP_spec h'
  rw [← z_mul, ← z_one, z_eq]
  exact b2
theorem zp_inv {a : Zp} (h : a ≠ 0) : ∃ b : Zp, a * b = 1 := by
  obtain ⟨n, _, _, rfl⟩ := z_surj a
  exact ⟨_, z_invP h⟩
theorem zp_div {a b : Zp} (h : a * b = 0) : a = 0 ∨ b = 0 := by
  by_cases ha : a = 0
  · exact .inl ha
  · obtain ⟨c, hc⟩ := zp_inv ha
    right
    have : b = c * (a * b) := by grind
    rw [this, h]
    grind
theorem zp_01 : (1 : Zp) ≠ 0 := by
  rw [← z_one, ← z_zero]
  intro h
  have := z_eq.mp h
  omega
theorem zp_mul_ne {a b : Zp} (ha : a ≠ 0) (hb : b ≠ 0) : a * b ≠ 0 := fun h => (zp_div h).elim ha hb
/-! ### functions that are polynomials with n coefficients -/
def Pol : Nat → (Zp → Zp) → Prop
  | 0, f => ∀ x, f x = 0
  | n + 1, f => ∃ (c : Zp) (g : Zp → Zp), Pol n g ∧ ∀ x, f x = c + x * g x
theorem Pol.ext : ∀ {n : Nat} {f g : Zp → Zp}, Pol n f → (∀ x, g x = f x) → Pol n g
  | 0, _, _, h, e => fun x => (e x).trans (h x)
  | _ + 1, _, _, ⟨c, g, h, q⟩, e => ⟨c, g, h, fun x => (e x).trans (q x)⟩
theorem pol_nil : ∀ n : Nat, Pol n fun _ => 0
  | 0 => fun _ => rfl
  | n + 1 => ⟨0, fun _ => 0, pol_nil n, fun x => by grind⟩
theorem Pol.up : ∀ {n : Nat} {f : Zp → Zp}, Pol n f → Pol (n + 1) f
  | 0, f, h => ⟨0, fun _ => 0, fun _ => rfl, fun x => by rw [h x]; grind⟩
  | n + 1, _, ⟨c, g, h, q⟩ => ⟨c, g, h.up, q⟩
theorem Pol.mono {n m : Nat} {f : Zp → Zp} (h : Pol n f) (l : n ≤ m) : Pol m f := by
  induction l with
  | refl => exact h
  | step _ ih => exact ih.up
theorem Pol.add : ∀ {n : Nat} {f g : Zp → Zp}, Pol n f → Pol n g → Pol n fun x => f x + g x
  | 0, f, g, h, k => fun x => by show f x + g x = 0; rw [h x, k x]; grind
  | n + 1, f, g, ⟨c, u, h, p⟩, ⟨d, v, k, q⟩ => ⟨c + d, fun x => u x + v x, Pol.add h k, fun x => by show f x + g x = _; rw [p x, q x]; grind⟩
theorem Pol.smul : ∀ {n : Nat} {f : Zp → Zp} (a : Zp), Pol n f → Pol n fun x => f x * a
  | 0, f, a, h => fun x => by show f x * a = 0; rw [h x]; grind
  | n + 1, f, a, ⟨c, u, h, p⟩ => ⟨c * a, fun x => u x * a, Pol.smul a h, fun x => by show f x * a = _; rw [p x]; grind⟩
theorem Pol.const (c : Zp) : Pol 1 fun _ => c := ⟨c, fun _ => 0, fun _ => rfl, fun x => by grind⟩
theorem Pol.xmul {n : Nat} {f : Zp → Zp} (h : Pol n f) : Pol (n + 1) fun x => x * f x := ⟨0, f, h, fun x => by grind⟩
theorem Pol.lin {n : Nat} {f : Zp → Zp} (a : Zp) (h : Pol n f) : Pol (n + 1) fun x => (x - a) * f x :=
  (h.xmul.add (h.up.smul (-a))).ext fun x => by grind
theorem Pol.sub {n : Nat} {f g : Zp → Zp} (h : Pol n f) (k : Pol n g) : Pol n fun x => f x - g x :=
  (h.add (k.smul (-1))).ext fun x => by grind
/-- a polynomial less its value at a is a multiple of x - a -/
theorem Pol.at : ∀ {n : Nat} {f : Zp → Zp} (a : Zp), Pol (n + 1) f → ∃ g, Pol n g ∧ ∀ x, f x = f a + (x - a) * g x
  | 0, f, a, ⟨c, g, h, q⟩ => ⟨fun _ => 0, fun _ => rfl, fun x => by rw [q x, q a, h x, h a]; grind⟩
  | n + 1, f, a, ⟨c, g, h, q⟩ => by
    obtain ⟨k, hk, e⟩ := Pol.at a h
    refine ⟨fun x => g a + x * k x, ⟨g a, k, hk, fun _ => rfl⟩, fun x => ?_⟩
    have e1 := e x
    rw [q x, q a]
    grind
/-- as many zeros as coefficients: it is zero -/
theorem Pol.roots : ∀ {n : Nat} {f : Zp → Zp} (xs : List Zp), Pol n f → xs.Nodup → n ≤ xs.length → (∀ a ∈ xs, f a = 0) → ∀ x, f x = 0
  | 0, _, _, h, _, _, _ => h
  | n + 1, f, [], _, _, hl, _ => absurd hl (by simp)
  | n + 1, f, a :: r, h, hn, hl, hz => by
    obtain ⟨g, hg, e⟩ := Pol.at a h
    have ha : f a = 0 := hz a (by simp)
    have hn' := List.nodup_cons.mp hn
    have g0 : ∀ x, g x = 0 := Pol.roots r hg hn'.2 (by simpa using hl) fun b hb => by
      have hb0 := hz b (List.mem_cons_of_mem _ hb)
      rw [e b, ha] at hb0
      have : (b - a) * g b = 0 := by grind
      rcases zp_div this with q | q
      · exfalso
        have : b = a := by grind
        exact hn'.1 (this ▸ hb)
      · exact q
    intro x
    rw [e x, ha, g0 x]
    grind
/-! ### products of differences -/
def prodZ : List Int → Zp → Zp
  | [], _ => 1
  | o :: os, x => (x - z o) * prodZ os x
theorem prodZ_pol : ∀ os : List Int, Pol (os.length + 1) (prodZ os)
  | [] => (Pol.const 1).ext fun _ => rfl
  | o :: os => (Pol.lin (z o) (prodZ_pol os)).ext fun _ => rfl
theorem prodZ_root {o : Int} {x : Zp} : ∀ {os : List Int}, o ∈ os → x = z o → prodZ os x = 0
  | [], h, _ => by simp at h
  | p :: os, h, e => by
    show (x - z p) * prodZ os x = 0
    rcases List.mem_cons.mp h with q | q
    · rw [e, q]
      grind
    · rw [prodZ_root q e]
      grind
theorem prodZ_ne {x : Zp} : ∀ {os : List Int}, (∀ o ∈ os, x ≠ z o) → prodZ os x ≠ 0
  | [], _ => zp_01
  | p :: os, h => by
    refine zp_mul_ne (fun e => h p (by simp) ?_) (prodZ_ne fun o ho => h o (List.mem_cons_of_mem _ ho))
    grind
/-- as the program multiplies -/
def prodM (os : List Int) (x acc : Int) : Int := os.foldl (fun acc o => acc * (x - o) % 65521) acc
theorem prodM_z : ∀ (os : List Int) (x acc : Int), z (prodM os x acc) = z acc * prodZ os (z x)
  | [], x, acc => by
    show z acc = z acc * 1
    grind
  | o :: os, x, acc => by
    show z (prodM os x (acc * (x - o) % 65521)) = z acc * ((z x - z o) * prodZ os (z x))
    rw [prodM_z os x, z_mod, z_mul, z_sub]
    grind
theorem prodM_word : ∀ (os : List Int) (x acc : Int), 0 ≤ acc → acc < 65521 → 0 ≤ prodM os x acc ∧ prodM os x acc < 65521
  | [], _, _, h0, h1 => ⟨h0, h1⟩
  | o :: os, x, acc, _, _ => prodM_word os x _ (Int.emod_nonneg _ (by decide)) (Int.emod_lt_of_pos _ (by decide))
theorem prodM_snoc (os : List Int) (o x acc : Int) : prodM (os ++ [o]) x acc = prodM os x acc * (x - o) % 65521 := by
  unfold prodM
  rw [List.foldl_append]
  rfl
/-- a place's factor -/
noncomputable def wgt (p : Int) (os : List Int) (x : Int) : Int := prodM os x 1 * invP (prodM os p 1) % 65521
theorem wgt_word (p : Int) (os : List Int) (x : Int) : 0 ≤ wgt p os x ∧ wgt p os x < 65521 := ⟨Int.emod_nonneg _ (by decide), Int.emod_lt_of_pos _ (by decide)⟩
theorem wgt_z (p : Int) (os : List Int) (x : Int) : z (wgt p os x) = prodZ os (z x) * z (invP (prodM os p 1)) := by
  unfold wgt
  rw [z_mod, z_mul, prodM_z, z_one]
  grind
theorem wgt_ok {p : Int} {os : List Int} (h : ∀ o ∈ os, z p ≠ z o) : prodM os p 1 % 65521 ≠ 0 := fun e => by
  have := (z_z _).mpr e
  rw [prodM_z, z_one] at this
  refine prodZ_ne h ?_
  grind
/-- all places but the i-th -/
def others (ws : List Int) (i : Nat) : List Int := ws.take i ++ ws.drop (i + 1)
noncomputable def weightsM (ws : List Int) (x : Int) : List Int := (List.range ws.length).map fun i => wgt (ws.getD i 0) (others ws i) x
theorem weightsM_length (ws : List Int) (x : Int) : (weightsM ws x).length = ws.length := by simp [weightsM]
theorem weightsM_get {ws : List Int} {x : Int} {i : Nat} (h : i < ws.length) : (weightsM ws x)[i]? = some (wgt (ws.getD i 0) (others ws i) x) := by
  unfold weightsM
  rw [List.getElem?_map, List.getElem?_range h]
  rfl
/-- no two places are equal modulo the prime -/
def Apart (ws : List Int) : Prop := (ws.map z).Nodup
theorem apart_ne {ws : List Int} (h : Apart ws) {i j : Nat} (hi : i < ws.length) (hj : j < ws.length) (n : i ≠ j) : z (ws.getD i 0) ≠ z (ws.getD j 0) := fun e => by
  refine n ((List.getElem_inj (xs := ws.map z) (h₀ := by simpa using hi) (h₁ := by simpa using hj) h).mp ?_)
  rw [List.getElem_map, List.getElem_map]
  simpa [List.getD_eq_getElem?_getD, hi, hj] using e
theorem mem_others {ws : List Int} {i : Nat} {o : Int} : o ∈ others ws i ↔ ∃ j, j < ws.length ∧ j ≠ i ∧ o = ws.getD j 0 := by
  unfold others
  rw [List.mem_append, List.mem_iff_getElem?, List.mem_iff_getElem?]
  constructor
  · rintro (⟨j, h⟩ | ⟨j, h⟩)
    · rw [List.getElem?_take] at h
      by_cases c : j < i
      · rw [if_pos c] at h
        obtain ⟨hl, e⟩ := List.getElem?_eq_some_iff.mp h
        exact ⟨j, hl, by omega, by simp [List.getD_eq_getElem?_getD, hl, e]⟩
      · rw [if_neg c] at h
        cases h
    · rw [List.getElem?_drop] at h
      obtain ⟨hl, e⟩ := List.getElem?_eq_some_iff.mp h
      exact ⟨_, hl, by omega, by simp [List.getD_eq_getElem?_getD, hl, e]⟩
  · rintro ⟨j, hl, n, rfl⟩
    by_cases c : j < i
    · exact .inl ⟨j, by rw [List.getElem?_take, if_pos c, List.getElem?_eq_getElem hl]; simp [List.getD_eq_getElem?_getD, hl]⟩
    · refine .inr ⟨j - (i + 1), ?_⟩
      rw [List.getElem?_drop, show i + 1 + (j - (i + 1)) = j by omega, List.getElem?_eq_getElem hl]
      simp [List.getD_eq_getElem?_getD, hl]
theorem others_length {ws : List Int} {i : Nat} (h : i < ws.length) : (others ws i).length + 1 = ws.length := by
  unfold others
  rw [List.length_append, List.length_take, List.length_drop]
  omega
theorem others_apart {ws : List Int} (h : Apart ws) {i : Nat} (hi : i < ws.length) : ∀ o ∈ others ws i, z (ws.getD i 0) ≠ z o := fun o ho => by
  obtain ⟨j, hl, n, rfl⟩ := mem_others.mp ho
  exact apart_ne h hi hl (Ne.symm n)
/-! ### sums -/
def sumR : Nat → (Nat → Zp) → Zp
  | 0, _ => 0
  | n + 1, g => sumR n g + g n
theorem sumR_ext : ∀ {n : Nat} {f g : Nat → Zp}, (∀ i, i < n → f i = g i) → sumR n f = sumR n g
  | 0, _, _, _ => rfl
  | n + 1, f, g, h => by
    show sumR n f + f n = sumR n g + g n
    rw [sumR_ext fun i hi => h i (by omega), h n (by omega)]
theorem sumR_zero : ∀ {n : Nat} {f : Nat → Zp}, (∀ i, i < n → f i = 0) → sumR n f = 0
  | 0, _, _ => rfl
  | n + 1, f, h => by
    show sumR n f + f n = 0
    rw [sumR_zero fun i hi => h i (by omega), h n (by omega)]
    grind
theorem sumR_one : ∀ {n : Nat} {f : Nat → Zp} {j : Nat}, j < n → (∀ i, i < n → i ≠ j → f i = 0) → sumR n f = f j
  | n + 1, f, j, hj, h => by
    show sumR n f + f n = f j
    by_cases c : j = n
    · subst c
      rw [sumR_zero fun i hi => h i (by omega) (by omega)]
      grind
    · rw [sumR_one (j := j) (by omega) fun i hi n' => h i (by omega) n', h n (by omega) (by omega)]
      grind
theorem sumR_pol {m : Nat} : ∀ {n : Nat} {F : Nat → Zp → Zp}, (∀ i, i < n → Pol m (F i)) → Pol m fun x => sumR n fun i => F i x
  | 0, _, _ => (pol_nil m).ext fun _ => rfl
  | n + 1, F, h => (Pol.add (sumR_pol (n := n) fun i hi => h i (by omega)) (h n (by omega))).ext fun _ => rfl
/-- the sum of factors times values -/
def dotR (us vs : List Int) : Int := ((List.range us.length).map fun i => us.getD i 0 * vs.getD i 0).sum
theorem sum_range_z : ∀ (n : Nat) (f : Nat → Int), z ((List.range n).map f).sum = sumR n fun i => z (f i)
  | 0, _ => z_zero
  | n + 1, f => by
    rw [List.range_succ, List.map_append, List.sum_append, z_add, sum_range_z n f]
    show _ + z ((f n) + 0) = _
    rw [Int.add_zero]
    rfl
theorem dotR_z (us vs : List Int) : z (dotR us vs) = sumR us.length fun i => z (us.getD i 0) * z (vs.getD i 0) := by
  unfold dotR
  rw [sum_range_z]
  exact sumR_ext fun i _ => z_mul _ _
/-- the value at x, as the program reckons it -/
noncomputable def valM (ws ys : List Int) (x : Int) : Int := dotR (weightsM ws x) ys % 65521
theorem valM_word (ws ys : List Int) (x : Int) : 0 ≤ valM ws ys x ∧ valM ws ys x < 65521 := ⟨Int.emod_nonneg _ (by decide), Int.emod_lt_of_pos _ (by decide)⟩
theorem valM_z (ws ys : List Int) (x : Int) : z (valM ws ys x) = sumR ws.length fun i => prodZ (others ws i) (z x) * (z (invP (prodM (others ws i) (ws.getD i 0) 1)) * z (ys.getD i 0)) := by
  unfold valM
  rw [z_mod, dotR_z, weightsM_length]
  refine sumR_ext fun i hi => ?_
  have e : (weightsM ws x).getD i 0 = wgt (ws.getD i 0) (others ws i) x := by rw [List.getD_eq_getElem?_getD, weightsM_get hi]; rfl
  rw [e, wgt_z]
  grind
/-- at a place it is the point's own value -/
theorem valM_node {ws ys : List Int} (h : Apart ws) {x : Int} {j : Nat} (hj : j < ws.length) (e : z x = z (ws.getD j 0)) : z (valM ws ys x) = z (ys.getD j 0) := by
  rw [valM_z, sumR_one hj fun i hi n => ?_]
  · have p := others_apart h hj
    have q := wgt_ok p
    have r : z (prodM (others ws j) (ws.getD j 0) 1) * z (invP (prodM (others ws j) (ws.getD j 0) 1)) = 1 := z_invP fun e => q ((z_z _).mp e)
    rw [prodM_z, z_one] at r
    rw [e]
    grind
  · rw [prodZ_root (mem_others.mpr ⟨j, hj, Ne.symm n, rfl⟩) e]
    grind
/-- the values of a polynomial at the places give its value anywhere -/
theorem valM_pol {ws ys : List Int} (h : Apart ws) {f : Zp → Zp} (hf : Pol ws.length f) (hy : ∀ i, i < ws.length → z (ys.getD i 0) = f (z (ws.getD i 0))) (x : Int) : z (valM ws ys x) = f (z x) := by
  have P : Pol ws.length fun x => (sumR ws.length fun i => prodZ (others ws i) x * (z (invP (prodM (others ws i) (ws.getD i 0) 1)) * z (ys.getD i 0))) - f x := by
    refine Pol.sub (sumR_pol fun i hi => Pol.smul _ ?_) hf
    have := prodZ_pol (others ws i)
    rw [others_length hi] at this
    exact this
  have R := Pol.roots (ws.map z) P h (by simp) (fun a ha => ?_) (z x)
  · rw [valM_z]
    have R' : (sumR ws.length fun i => prodZ (others ws i) (z x) * (z (invP (prodM (others ws i) (ws.getD i 0) 1)) * z (ys.getD i 0))) - f (z x) = 0 := R
    grind
  · obtain ⟨p, hp, rfl⟩ := List.mem_map.mp ha
    obtain ⟨j, hj⟩ := List.mem_iff_getElem?.mp hp
    obtain ⟨hl, e⟩ := List.getElem?_eq_some_iff.mp hj
    have ep : ws.getD j 0 = p := by simp [List.getD_eq_getElem?_getD, hl, e]
    have v := valM_node (ys := ys) h (x := p) hl (by rw [ep])
    rw [valM_z, hy j hl, ep] at v
    show (sumR ws.length fun i => prodZ (others ws i) (z p) * (z (invP (prodM (others ws i) (ws.getD i 0) 1)) * z (ys.getD i 0))) - f (z p) = 0
    rw [v]
    grind
theorem z_small {n : Int} (h0 : 0 < n) (h1 : n < 65521) : z n ≠ 0 := fun e => by
  have := (z_z n).mp e
  omega
/-! a polynomial's value -/
def pev : List Int → Zp → Zp
  | [], _ => 0
  | c :: r, x => z c + x * pev r x
theorem pev_pol : ∀ ns : List Int, Pol ns.length (pev ns)
  | [] => fun _ => rfl
  | c :: r => ⟨z c, pev r, pev_pol r, fun _ => rfl⟩
/-- as it is reckoned: from the highest coefficient down -/
def horn : List Int → Int → Int
  | [], _ => 0
  | c :: r, x => (horn r x * x + c) % 65521
theorem horn_z : ∀ (ns : List Int) (x : Int), z (horn ns x) = pev ns (z x)
  | [], _ => z_zero
  | c :: r, x => by
    show z ((horn r x * x + c) % 65521) = z c + z x * pev r (z x)
    rw [z_mod, z_add, z_mul, horn_z r x]
    grind
theorem horn_word : ∀ (ns : List Int) (x : Int), 0 ≤ horn ns x ∧ horn ns x < 65521
  | [], _ => by show (0 : Int) ≤ 0 ∧ (0 : Int) < 65521; omega
  | _ :: _, _ => ⟨Int.emod_nonneg _ (by decide), Int.emod_lt_of_pos _ (by decide)⟩
theorem horn_drop {ns : List Int} {x c : Int} {i : Nat} (h : ns[i]? = some c) : horn (ns.drop i) x = (horn (ns.drop (i + 1)) x * x + c) % 65521 := by
  obtain ⟨hl, e⟩ := List.getElem?_eq_some_iff.mp h
  rw [List.drop_eq_getElem_cons hl, e]
  rfl
/-! polynomials by their values: degree, normal forms -/
def Wd (w : Int) : Prop := 0 ≤ w ∧ w < 65521
/-- a list of words whose last one is not 0 -/
def Norm (r : List Int) : Prop := (∀ w ∈ r, Wd w) ∧ (r = [] ∨ r.getD (r.length - 1) 0 ≠ 0)
def pw (x : Zp) : Nat → Zp
  | 0 => 1
  | n + 1 => x * pw x n
theorem pev_append : ∀ (a b : List Int) (x : Zp), pev (a ++ b) x = pev a x + pw x a.length * pev b x
  | [], b, x => by
    show pev b x = 0 + 1 * pev b x
    grind
  | c :: a, b, x => by
    show z c + x * pev (a ++ b) x = (z c + x * pev a x) + (x * pw x a.length) * pev b x
    rw [pev_append a b x]
    grind
theorem pev_zeros : ∀ {a : List Int}, (∀ w ∈ a, z w = 0) → ∀ x, pev a x = 0
  | [], _, _ => rfl
  | c :: a, h, x => by
    show z c + x * pev a x = 0
    rw [h c (by simp), pev_zeros (fun w m => h w (List.mem_cons_of_mem _ m))]
    grind
theorem pev_mod : ∀ (a : List Int) (x : Zp), pev (a.map (· % 65521)) x = pev a x
  | [], _ => rfl
  | c :: a, x => by
    show z (c % 65521) + x * pev (a.map (· % 65521)) x = z c + x * pev a x
    rw [z_mod, pev_mod a x]
/-- one place of the list gets another number -/
theorem pev_set : ∀ {a : List Int} {i : Nat} {c d : Int} (x : Zp), a[i]? = some c → pev (a.set i d) x = pev a x + pw x i * (z d - z c)
  | [], _, _, _, _, h => by simp at h
  | b :: a, 0, c, d, x, h => by
    have e : b = c := Option.some.inj h
    subst e
    show z d + x * pev a x = (z b + x * pev a x) + 1 * (z d - z b)
    grind
  | b :: a, i + 1, c, d, x, h => by
    show z b + x * pev (a.set i d) x = (z b + x * pev a x) + (x * pw x i) * (z d - z c)
    rw [pev_set (i := i) (c := c) x h]
    grind
theorem pw_add (x : Zp) : ∀ n m : Nat, pw x (n + m) = pw x n * pw x m
  | 0, m => by
    rw [Nat.zero_add]
    show pw x m = 1 * pw x m
    grind
  | n + 1, m => by
    rw [Nat.succ_add]
    show x * pw x (n + m) = (x * pw x n) * pw x m
    rw [pw_add x n m]
    grind
theorem pev_snoc (a : List Int) (c : Int) (x : Zp) : pev (a ++ [c]) x = pev a x + pw x a.length * z c := by
  rw [pev_append]
  show _ + _ * (z c + x * 0) = _
  grind
/-! all words as places -/
def allZ (n : Nat) : List Zp := (List.range n).map fun (k : Nat) => z ((k : Int) + 1)
theorem allZ_nodup {n : Nat} (h : n ≤ 65520) : (allZ n).Nodup := by
  unfold allZ List.Nodup
  rw [List.pairwise_map]
  refine (List.nodup_range (n := n)).imp_of_mem fun {a b} ha hb ne e => ?_
  have h1 := List.mem_range.mp ha
  have h2 := List.mem_range.mp hb
  have := z_eq.mp e
  omega
theorem allZ_ne {n : Nat} (h : n ≤ 65520) : ∀ a ∈ allZ n, a ≠ 0 := fun a ha e => by
  obtain ⟨k, hk, rfl⟩ := List.mem_map.mp ha
  have h1 := List.mem_range.mp hk
  have := (z_z _).mp e
  omega
/-- zero but perhaps at 0: zero -/
theorem Pol.punct {n : Nat} {f : Zp → Zp} (h : Pol n f) (hn : n ≤ 65520) (hz : ∀ x, x ≠ 0 → f x = 0) : ∀ x, f x = 0 :=
  Pol.roots (allZ n) h (allZ_nodup hn) (by simp [allZ]) fun a ha => hz a (allZ_ne hn a ha)
theorem Pol.pw : ∀ (n : Nat) (c : Zp), Pol (n + 1) fun x => c * PP.pw x n
  | 0, c => (Pol.const c).ext fun x => by show c * 1 = c; grind
  | n + 1, c => ((Pol.pw n c).xmul).ext fun x => by show c * (x * PP.pw x n) = x * (c * PP.pw x n); grind
/-- a power beyond the coefficients has the factor 0 -/
theorem lead_zero : ∀ (n : Nat) {c : Zp} {h : Zp → Zp}, n ≤ 60000 → Pol n h → (∀ x, c * pw x n = h x) → c = 0
  | 0, c, h, _, hp, e => by
    have := e 0
    rw [hp 0] at this
    have : c * 1 = 0 := this
    grind
  | n + 1, c, h, hn, ⟨d, g, hg, q⟩, e => by
    have e0 : d = 0 := by
      have h0 := e 0
      rw [q 0] at h0
      have : c * (0 * pw 0 n) = d + 0 * g 0 := h0
      grind
    have F : ∀ x, c * pw x n - g x = 0 := Pol.punct (n := n + 1) (Pol.sub (Pol.pw n c) hg.up) (by omega) fun x hx => by
      have h1 := e x
      rw [q x, e0] at h1
      have h2 : c * (x * pw x n) = 0 + x * g x := h1
      have h3 : x * (c * pw x n - g x) = 0 := by grind
      exact (zp_div h3).resolve_left hx
    exact lead_zero n (by omega) hg fun x => by
      have := F x
      grind
/-- a normal list has no more words than its values need -/
theorem norm_le {r : List Int} {n : Nat} (h : Norm r) (hn : n ≤ 60000) (hp : Pol n (pev r)) (hr : r.length ≤ 60000) : r.length ≤ n := by
  refine Classical.byContradiction fun c => ?_
  obtain ⟨hw, hl⟩ := h
  have rne : r ≠ [] := fun e => by rw [e] at c; simp at c
  have hl := hl.resolve_left rne
  have e : r = r.take (r.length - 1) ++ [r.getD (r.length - 1) 0] := by
    have hlt : r.length - 1 < r.length := by
      have := List.length_pos_iff.mpr rne
      omega
    conv => lhs; rw [← List.take_append_drop (r.length - 1) r]
    rw [List.drop_eq_getElem_cons hlt, show r.length - 1 + 1 = r.length by omega, List.drop_length]
    simp [List.getD_eq_getElem?_getD, hlt]
  have P1 : Pol (r.length - 1) (pev (r.take (r.length - 1))) := (pev_pol _).mono (by rw [List.length_take]; omega)
  have P2 : Pol (r.length - 1) (pev r) := hp.mono (by omega)
  have z0 := lead_zero (r.length - 1) (c := z (r.getD (r.length - 1) 0)) (by omega) (Pol.sub P2 P1) fun x => by
    have := pev_snoc (r.take (r.length - 1)) (r.getD (r.length - 1) 0) x
    rw [← e, List.length_take, Nat.min_eq_left (by omega)] at this
    show _ = pev r x - pev (r.take (r.length - 1)) x
    grind
  have w := hw (r.getD (r.length - 1) 0) (by
    have hlt : r.length - 1 < r.length := by
      have := List.length_pos_iff.mpr rne
      omega
    rw [List.getD_eq_getElem?_getD, List.getElem?_eq_getElem hlt]
    exact List.getElem_mem hlt)
  have := (z_z _).mp z0
  obtain ⟨w0, w1⟩ := w
  omega
/-- the same values everywhere: the same words -/
theorem pev_inj : ∀ {a b : List Int}, a.length = b.length → a.length ≤ 60000 → (∀ w ∈ a, Wd w) → (∀ w ∈ b, Wd w) → (∀ x, pev a x = pev b x) → a = b
  | [], [], _, _, _, _, _ => rfl
  | [], _ :: _, h, _, _, _, _ => by simp at h
  | _ :: _, [], h, _, _, _, _ => by simp at h
  | c :: a, d :: b, hl, hz, ha, hb, e => by
    have e0 : z c = z d := by
      have : z c + 0 * pev a 0 = z d + 0 * pev b 0 := e 0
      grind
    have wc := ha c (by simp)
    have wd := hb d (by simp)
    have ecd : c = d := z_inj wc.1 wc.2 wd.1 wd.2 e0
    have hl' : a.length = b.length := by simpa using hl
    have hz' : a.length + 1 ≤ 60000 := by simpa using hz
    have F : ∀ x, pev a x - pev b x = 0 := Pol.punct (n := a.length) (Pol.sub (pev_pol a) ((pev_pol b).mono (by omega))) (by omega) fun x hx => by
      have h1 : z c + x * pev a x = z d + x * pev b x := e x
      have h3 : x * (pev a x - pev b x) = 0 := by grind
      exact (zp_div h3).resolve_left hx
    rw [ecd, pev_inj hl' (by omega) (fun w m => ha w (List.mem_cons_of_mem _ m)) (fun w m => hb w (List.mem_cons_of_mem _ m)) fun x => by have := F x; grind]
theorem norm_inj {a b : List Int} (ha : Norm a) (hb : Norm b) (la : a.length ≤ 60000) (lb : b.length ≤ 60000) (e : ∀ x, pev a x = pev b x) : a = b := by
  have h1 := norm_le ha lb ((pev_pol b).ext e) la
  have h2 := norm_le hb la ((pev_pol a).ext fun x => (e x).symm) lb
  exact pev_inj (by omega) la ha.1 hb.1 e
/-! products -/
theorem Pol.mul : ∀ {n m : Nat} {f g : Zp → Zp}, Pol n f → Pol m g → Pol (n + m) fun x => f x * g x
  | 0, m, f, g, h, _ => (pol_nil (0 + m)).ext fun x => by show f x * g x = 0; rw [h x]; grind
  | n + 1, m, f, g, ⟨c, u, h, q⟩, k => by
    have A := (Pol.mul h k).xmul
    have B := (k.smul c).mono (show m ≤ n + m + 1 by omega)
    rw [show n + 1 + m = n + m + 1 by omega]
    exact (B.add A).ext fun x => by show f x * g x = g x * c + x * (u x * g x); rw [q x]; grind
/-- the highest coefficient -/
theorem norm_lead {a : List Int} (h : Norm a) (ne : a ≠ []) : ∃ (c : Zp) (g : Zp → Zp), c ≠ 0 ∧ Pol (a.length - 1) g ∧ ∀ x, pev a x = g x + c * pw x (a.length - 1) := by
  have hlt : a.length - 1 < a.length := by
    have := List.length_pos_iff.mpr ne
    omega
  refine ⟨z (a.getD (a.length - 1) 0), pev (a.take (a.length - 1)), fun e => ?_, (pev_pol _).mono (by rw [List.length_take]; omega), fun x => ?_⟩
  · have w : Wd (a.getD (a.length - 1) 0) := h.1 _ (by rw [List.getD_eq_getElem?_getD, List.getElem?_eq_getElem hlt]; exact List.getElem_mem hlt)
    have := (z_z _).mp e
    have ne0 := h.2.resolve_left ne
    obtain ⟨w0, w1⟩ := w
    omega
  · have e : a = a.take (a.length - 1) ++ [a.getD (a.length - 1) 0] := by
      conv => lhs; rw [← List.take_append_drop (a.length - 1) a]
      rw [List.drop_eq_getElem_cons hlt, show a.length - 1 + 1 = a.length by omega, List.drop_length]
      simp [List.getD_eq_getElem?_getD, hlt]
    have := pev_snoc (a.take (a.length - 1)) (a.getD (a.length - 1) 0) x
    rw [← e, List.length_take, Nat.min_eq_left (by omega)] at this
    rw [this]
    grind
theorem norm_mul {a b r : List Int} (ha : Norm a) (hb : Norm b) (hr : Norm r) (na : a ≠ []) (nb : b ≠ []) (la : a.length ≤ 1000) (lb : b.length ≤ 1000) (lr : r.length ≤ 60000) (e : ∀ x, pev r x = pev a x * pev b x) : r.length = a.length + b.length - 1 := by
  obtain ⟨c, g, hc, hg, eg⟩ := norm_lead ha na
  obtain ⟨d, k, hd, hk, ek⟩ := norm_lead hb nb
  have pa := List.length_pos_iff.mpr na
  have pb := List.length_pos_iff.mpr nb
  -- what is below the highest power
  have low : Pol (a.length - 1 + (b.length - 1)) fun x => pev r x - (c * d) * pw x (a.length - 1 + (b.length - 1)) := by
    have A := (hg.mul ((Pol.pw (b.length - 1) d).add hk.up)).mono (show a.length - 1 + (b.length - 1 + 1) ≤ a.length - 1 + (b.length - 1) + 1 by omega)
    have B : ∀ n m : Nat, ∀ u : Zp → Zp, Pol m u → Pol (n + m) fun x => pw x n * u x := by
      intro n
      induction n with
      | zero => exact fun m u hu => by rw [Nat.zero_add]; exact hu.ext fun x => by show 1 * u x = u x; grind
      | succ n ih => exact fun m u hu => by rw [Nat.succ_add]; exact ((ih m u hu).xmul).ext fun x => by show (x * pw x n) * u x = x * (pw x n * u x); grind
    have C := (B (a.length - 1) (b.length - 1) k hk).smul c
    have D := (B (b.length - 1) (a.length - 1) g hg).smul d
    have G : Pol (a.length - 1 + (b.length - 1)) fun x => g x * k x := hg.mul hk
    rw [Nat.add_comm (b.length - 1)] at D
    refine ((C.add D).add G).ext fun x => ?_
    show pev r x - (c * d) * pw x (a.length - 1 + (b.length - 1)) = (pw x (a.length - 1) * k x * c + pw x (b.length - 1) * g x * d) + g x * k x
    rw [e x, eg x, ek x, pw_add]
    grind
  have up : Pol (a.length - 1 + (b.length - 1) + 1) (pev r) := (low.up.add (Pol.pw _ (c * d))).ext fun x => by
    show pev r x = (pev r x - (c * d) * pw x _) + (c * d) * pw x _
    grind
  have h1 := norm_le hr (by omega) up lr
  by_cases q : r.length ≤ a.length - 1 + (b.length - 1)
  · exfalso
    have P := (pev_pol r).mono q
    have := lead_zero (a.length - 1 + (b.length - 1)) (c := c * d) (by omega) (P.sub low) fun x => by
      show _ = pev r x - (pev r x - (c * d) * pw x _)
      grind
    exact zp_mul_ne hc hd this
  · omega
theorem norm_snoc {a : List Int} {c : Int} (h : ∀ w ∈ a, Wd w) (hc : Wd c) (n : c ≠ 0) : Norm (a ++ [c]) := by
  refine ⟨fun w m => ?_, .inr ?_⟩
  · rcases List.mem_append.mp m with m | m
    · exact h w m
    · have : w = c := by simpa using m
      rw [this]
      exact hc
  · rw [List.length_append, List.length_singleton, Nat.add_sub_cancel, List.getD_eq_getElem?_getD]
    simpa using n
theorem norm_nil : Norm [] := ⟨fun _ m => (nomatch m), .inl rfl⟩
theorem pev_smul (fa : Int) : ∀ (b : List Int) (x : Zp), pev (b.map fun c => fa * c) x = z fa * pev b x
  | [], x => by show (0 : Zp) = _ * 0; grind
  | c :: r, x => by
    show z (fa * c) + x * pev (r.map fun c => fa * c) x = z fa * (z c + x * pev r x)
    rw [pev_smul fa r x, z_mul]
    grind
/-! heaps, slices, points -/
theorem _root_.L2.Same.tup {K : PySem.W.Frag} {H H' : Hp} {a : Addr} {xs : List V} (e : Same H H') (h : SqT K H a xs) : SqT K H' a xs := by
  rcases h with (h | ⟨o, h⟩) | h
  · exact .inl (.inl (e _ _ h))
  · exact .inl (.inr ⟨o, e _ _ h⟩)
  · exact .inr h
theorem _root_.L2.Same.new {H : Hp} {p : Addr} {o : HO} (h : H p = none) : Same H (upd H p o) := fun _ _ e => by
  rw [upd_ne (ne_of_none e h)]
  exact e
/-- what was tracked is as it was, but for p -/
def But (p : Addr) (H H' : Hp) : Prop := ∀ b o, H b = some o → b ≠ p → H' b = some o
theorem Only.but {p : Addr} {H H' : Hp} (h : Only p H H') : But p H H' := fun b _ e n => (h b n).trans e
theorem _root_.L2.Same.but {p : Addr} {H H' : Hp} (h : Same H H') : But p H H' := fun b o e _ => h b o e
theorem But.trans {p : Addr} {H H1 H2 : Hp} (x : But p H H1) (y : But p H1 H2) : But p H H2 := fun b o e n => y b o (x b o e n) n
theorem But.same {p : Addr} {H0 H H' : Hp} (y : But p H H') (x : Same H0 H) (h : H0 p = none) : Same H0 H' := fun b o e => y b o (x b o e) (ne_of_none e h)
theorem But.new {p q : Addr} {H H' : Hp} {o : HO} (x : But p H H') (h : H' q = none) : But p H (upd H' q o) := x.trans (Same.new h).but
theorem _root_.L2.Same.at {H H' : Hp} {b : Addr} {o : HO} (s : Same H H') (e : H b = some o) : H' b = some o := s b o e
theorem cut_take (xs : List V) (i : Nat) : cutV xs none (some (i : Int)) = xs.take i := by
  unfold cutV
  rw [HT.sIx_none, HT.sIx_nat, List.drop_zero, Nat.sub_zero]
  by_cases h : i ≤ xs.length
  · rw [Nat.min_eq_left h]
  · rw [Nat.min_eq_right (by omega), List.take_of_length_le (by omega), List.take_of_length_le (by omega)]
theorem cut_drop (xs : List V) (i : Nat) : cutV xs (some (i : Int)) none = xs.drop i := by
  unfold cutV
  rw [HT.sIx_none, HT.sIx_nat]
  by_cases h : i ≤ xs.length
  · rw [Nat.min_eq_left h, List.take_of_length_le (by rw [List.length_drop]; omega)]
  · rw [Nat.min_eq_right (by omega), List.drop_of_length_le (by omega), List.drop_of_length_le (by omega), List.take_nil]
theorem take_snoc {α : Type} {l : List α} {i : Nat} {x : α} (h : l[i]? = some x) : l.take (i + 1) = l.take i ++ [x] := by
  rw [List.take_add_one, h]
  rfl
theorem item_lt {α : Type} {l : List α} {i : Nat} {x : α} (h : l[i]? = some x) : i < l.length := (List.getElem?_eq_some_iff.mp h).1
theorem small (n : Nat) (h : n ≤ 60000) : n < sizeLine := Nat.lt_of_le_of_lt h (by decide)
theorem getD_item {α : Type} {l : List α} {i : Nat} {x d : α} (h : l[i]? = some x) : l.getD i d = x := by rw [List.getD_eq_getElem?_getD, h]; rfl
theorem seq_off {K : PySem.W.Frag} {H : Hp} {a b : Addr} {xs : List V} {o : HO} (h : SqL K H a xs) (n : a ≠ b) : SqL K (upd H b o) a xs := by
  rcases h with (h | ⟨u, h⟩) | h
  · exact .inl (.inl (by rw [upd_ne n]; exact h))
  · exact .inl (.inr ⟨u, by rw [upd_ne n]; exact h⟩)
  · exact .inr h
/-- one more thing at a place that was free at the entry -/
theorem same_put {H H' : Hp} {p : Addr} {o : HO} (s : Same H H') (n : H p = none) : Same H (upd H' p o) := fun b u e => by
  rw [upd_ne (ne_of_none e n)]
  exact s b u e
theorem item_set {α : Type} {l : List α} {i j : Nat} {x y : α} (h : (l.set i x)[j]? = some y) : (i = j ∧ y = x ∧ j < l.length) ∨ (i ≠ j ∧ l[j]? = some y) := by
  rw [List.getElem?_set] at h
  by_cases e : i = j
  · subst e
    rw [if_pos rfl] at h
    split at h
    · exact .inl ⟨rfl, (Option.some.inj h).symm, by assumption⟩
    · cases h
  · rw [if_neg e] at h
    exact .inr ⟨e, h⟩
theorem same_none {H H' : Hp} {b : Addr} (s : Same H H') (n : H' b = none) : H b = none := by
  cases q : H b with
  | none => rfl
  | some o => rw [s _ _ q] at n; cases n
theorem getD_set {w : List Int} {i k : Nat} {v : Int} (h : k < w.length) : (w.set i v).getD k 0 = if i = k then v else w.getD k 0 := by
  rw [List.getD_eq_getElem?_getD, List.getElem?_set]
  split
  · next e =>
    subst e
    rw [if_pos h]
    rfl
  · rw [List.getD_eq_getElem?_getD]
/-! data: == of lists of ints, of pairs -/
theorem eqvAll_ints : ∀ xs ys : List Int, PyData.eqvAll (xs.map .int) (ys.map .int) = decide (xs = ys)
  | [], [] => by simp [PyData.eqvAll]
  | [], _ :: _ => by simp [PyData.eqvAll]
  | _ :: _, [] => by simp [PyData.eqvAll]
  | x :: xs, y :: ys => by
    simp only [List.map_cons, PyData.eqvAll, PyData.eqv, eqvAll_ints xs ys]
    by_cases h : x = y <;> by_cases k : xs = ys <;> simp [h, k]
theorem canLayAll_ints : ∀ xs : List Int, PyData.canLayAll0 (xs.map .int) = true
  | [] => rfl
  | x :: xs => by simp [PyData.canLayAll0, PyData.canLay0, canLayAll_ints xs]
theorem depthAll_ints : ∀ xs : List Int, PyData.depthAll (xs.map .int) = 0
  | [] => rfl
  | x :: xs => by simp [PyData.depthAll, PyData.depth, depthAll_ints xs]
theorem shaped_ints (xs : List Int) : SeqAt.shaped (.list (xs.map .int)) = true := by
  simp [SeqAt.shaped, PyData.canLay0, canLayAll_ints, PyData.depth, depthAll_ints]
theorem dpAll_ints {K : PySem.W.Frag} {H : Hp} : ∀ xs : List Int, DpAll K H (xs.map V.int) (xs.map .int)
  | [] => .nil
  | x :: xs => .cons (.int x) (dpAll_ints xs)
theorem dp_ints {K : PySem.W.Frag} {H : Hp} {a : Addr} {xs : List Int} (h : SqL K H a (xs.map V.int)) : Dp K H (.ref a) (.list (xs.map .int)) := .lst h (dpAll_ints xs)
theorem eqv_ints (xs ys : List Int) : PyData.eqv (.list (xs.map .int)) (.list (ys.map .int)) = decide (xs = ys) := by
  simp only [PyData.eqv]
  exact eqvAll_ints xs ys
/-- rows of ints -/
def rowD (xs : List Int) : PyData := .list (xs.map .int)
theorem rows_data : ∀ xss : List (List Int), PyData.canLayAll0 (xss.map rowD) = true ∧ PyData.depthAll (xss.map rowD) ≤ 1
  | [] => ⟨rfl, Nat.zero_le _⟩
  | xs :: xss => by
    obtain ⟨h1, h2⟩ := rows_data xss
    refine ⟨by simp [PyData.canLayAll0, PyData.canLay0, rowD, canLayAll_ints, h1], ?_⟩
    simp only [List.map_cons, PyData.depthAll, rowD, PyData.depth, depthAll_ints]
    omega
theorem rows_shaped (xss : List (List Int)) : SeqAt.shaped (.list (xss.map rowD)) = true := by
  obtain ⟨h1, h2⟩ := rows_data xss
  have e : PyData.depth (.list (xss.map rowD)) = PyData.depthAll (xss.map rowD) + 1 := by simp only [PyData.depth]
  unfold SeqAt.shaped
  rw [Bool.and_eq_true]
  exact ⟨by simp only [PyData.canLay0]; exact h1, decide_eq_true (by rw [e]; omega)⟩
theorem eqvAll_rows : ∀ xss yss : List (List Int), PyData.eqvAll (xss.map rowD) (yss.map rowD) = decide (xss = yss)
  | [], [] => by simp [PyData.eqvAll]
  | [], _ :: _ => by simp [PyData.eqvAll]
  | _ :: _, [] => by simp [PyData.eqvAll]
  | x :: xs, y :: ys => by
    have h := eqv_ints x y
    simp only [List.map_cons, PyData.eqvAll, rowD, eqvAll_rows xs ys, h]
    by_cases h : x = y <;> by_cases k : xs = ys <;> simp [h, k]
theorem eqv_rows (xss yss : List (List Int)) : PyData.eqv (.list (xss.map rowD)) (.list (yss.map rowD)) = decide (xss = yss) := by
  simp only [PyData.eqv]
  exact eqvAll_rows xss yss
theorem dp_two {K : PySem.W.Frag} {H : Hp} {a b c : Addr} {xs ys : List Int} (h : SqL K H a [V.ref b, V.ref c]) (hb : SqL K H b (xs.map V.int)) (hc : SqL K H c (ys.map V.int)) : Dp K H (.ref a) (.list ([xs, ys].map rowD)) :=
  .lst h (.cons (dp_ints hb) (.cons (dp_ints hc) .nil))
/-! xs[i] op= e, i not below 0 -/
def rGetL (K : PySem.W.Frag) : V → V → Hp → VK → Prop := fun x y H Q => ∃ (p : Addr) (xs : List V) (i : Int) (j : Nat) (v : V), x = .ref p ∧ y = .int i ∧ i = (j : Int) ∧ SqL K H p xs ∧ xs[j]? = some v ∧ Q v H
theorem pget_list {X : Cx} : PGet X (rGetL X.K) := by
  intro pins s σ H o i ov iv Q I ro ri h
  obtain ⟨p, xs, _, j, v, rfl, rfl, rfl, hS, hv, q⟩ := h
  cases ro
  obtain ⟨t, rfl⟩ := ri
  obtain ⟨its, r, pl, hz⟩ := I.list hS
  obtain ⟨u, hu, ru⟩ := r.get hv
  have hl : j < xs.length := (List.getElem?_eq_some_iff.mp hv).1
  have hn := line63
  exact PySem.wpAny_getItem_list pl.isList (by omega) (by omega) (by rw [Int.toNat_natCast]; simpa using hu) ⟨v, H, I, ru, q⟩
theorem rep_zero (n : Nat) : (List.replicate n [V.int 0]).flatten = (List.replicate n (0 : Int)).map V.int := by
  induction n with
  | zero => rfl
  | succ n ih => rw [List.replicate_succ, List.flatten_cons, ih, List.replicate_succ]; rfl
theorem pev_rep (n : Nat) (x : Zp) : pev (List.replicate n (0 : Int)) x = 0 := pev_zeros (fun w m => by rw [(List.mem_replicate.mp m).2]; exact z_zero) x
theorem ixN_nat {n j : Nat} (h : j < n) : ixN n (j : Int) = some j := by
  unfold ixN
  rw [if_pos (by omega), if_pos (by omega), Int.toNat_natCast]
/-- a list of pairs of ints stands at p -/
def PtsAt (K : PySem.W.Frag) (H : Hp) (p : Addr) (ps : List (Int × Int)) : Prop := ∃ L : List (Addr × Int × Int), SqL K H p (L.map fun e => V.ref e.1) ∧ L.map (·.2) = ps ∧ ∀ e ∈ L, SqT K H e.1 [.int e.2.1, .int e.2.2]
theorem PtsAt.same {K : PySem.W.Frag} {H H' : Hp} {p : Addr} {ps : List (Int × Int)} (h : PtsAt K H p ps) (s : Same H H') : PtsAt K H' p ps := by
  obtain ⟨L, h1, h2, h3⟩ := h
  exact ⟨L, s.seq h1, h2, fun e m => s.tup (h3 e m)⟩
theorem PtsAt.old {K : PySem.W.Frag} {H : Hp} {p : Addr} {ps : List (Int × Int)} (h : PtsAt K H p ps) : ∃ as : List Addr, SqL K H p (as.map V.ref) ∧ as.length = ps.length ∧
    ∀ (i : Nat) (t : Addr) (q : Int × Int), as[i]? = some t → ps[i]? = some q → SqT K H t [.int q.1, .int q.2] := by
  obtain ⟨L, h1, rfl, h3⟩ := h
  refine ⟨L.map (·.1), by rw [List.map_map]; exact h1, by simp, fun i t q a b => ?_⟩
  rw [List.getElem?_map] at a b
  cases e : L[i]? with
  | none => rw [e] at a; cases a
  | some u =>
    rw [e] at a b
    cases a
    cases b
    exact h3 u (List.mem_of_getElem? e)
/-- an item of the list: a pair -/
theorem pts_item {K : PySem.W.Frag} {H : Hp} {as : List Addr} {ps : List (Int × Int)} (hl : as.length = ps.length) (h : ∀ (i : Nat) (t : Addr) (q : Int × Int), as[i]? = some t → ps[i]? = some q → SqT K H t [.int q.1, .int q.2])
    {i : Nat} {y : V} (hi : (as.map V.ref)[i]? = some y) : ∃ t q, y = .ref t ∧ as[i]? = some t ∧ ps[i]? = some q ∧ SqT K H t [.int q.1, .int q.2] := by
  rw [List.getElem?_map] at hi
  cases e : as[i]? with
  | none => rw [e] at hi; cases hi
  | some t =>
    rw [e] at hi
    have lt := item_lt e
    have e2 : ps[i]? = some ps[i] := List.getElem?_eq_getElem (by omega)
    exact ⟨t, _, (Option.some.inj hi).symm, rfl, e2, h i t _ e e2⟩
theorem words_apart {ps : List Int} : (ps.map (· % 65521)).Nodup ↔ Apart ps := by
  unfold Apart List.Nodup
  rw [List.pairwise_map, List.pairwise_map]
  constructor
  · intro h
    exact h.imp fun {a b} n e => n (z_mod_eq e)
  · intro h
    exact h.imp fun {a b} n e => n (z_eq.mpr e)
theorem apart_words {ps : List Int} : Apart (ps.map (· % 65521)) ↔ Apart ps := by
  unfold Apart
  rw [List.map_map, show (z ∘ fun x : Int => x % 65521) = z from funext fun a => z_mod a]
/-- data of pairs -/
def pairD (q : Int × Int) : PyData := .tuple [.int q.1, .int q.2]
theorem pairs_data : ∀ ps : List (Int × Int), PyData.canLayAll0 (ps.map pairD) = true ∧ PyData.depthAll (ps.map pairD) ≤ 1 ∧ PyData.eqvAll (ps.map pairD) (ps.map pairD) = true
  | [] => ⟨rfl, Nat.zero_le _, by simp [PyData.eqvAll]⟩
  | q :: ps => by
    obtain ⟨h1, h2, h3⟩ := pairs_data ps
    refine ⟨by simp [PyData.canLayAll0, PyData.canLay0, pairD, h1], ?_, by simp [PyData.eqvAll, PyData.eqv, pairD, h3]⟩
    simp only [List.map_cons, PyData.depthAll, pairD, PyData.depth]
    omega
theorem pairs_shaped (ps : List (Int × Int)) : SeqAt.shaped (.list (ps.map pairD)) = true := by
  obtain ⟨h1, h2, _⟩ := pairs_data ps
  have e : PyData.depth (.list (ps.map pairD)) = PyData.depthAll (ps.map pairD) + 1 := by simp only [PyData.depth]
  unfold SeqAt.shaped
  rw [Bool.and_eq_true]
  exact ⟨by simp only [PyData.canLay0]; exact h1, decide_eq_true (by rw [e]; omega)⟩
theorem pairs_eqv (ps : List (Int × Int)) : PyData.eqv (.list (ps.map pairD)) (.list (ps.map pairD)) = true := by
  simp only [PyData.eqv]
  exact (pairs_data ps).2.2
theorem PtsAt.dp {K : PySem.W.Frag} {H : Hp} {p : Addr} {ps : List (Int × Int)} (h : PtsAt K H p ps) : Dp K H (.ref p) (.list (ps.map pairD)) := by
  obtain ⟨L, h1, rfl, h3⟩ := h
  refine .lst h1 ?_
  have : ∀ M : List (Addr × Int × Int), (∀ e ∈ M, SqT K H e.1 [.int e.2.1, .int e.2.2]) → DpAll K H (M.map fun e => V.ref e.1) ((M.map (·.2)).map pairD) := by
    intro M
    induction M with
    | nil => intro _; exact .nil
    | cons e M ih => exact fun g => .cons (.tup (g e (by simp)) (.cons (.int _) (.cons (.int _) .nil))) (ih fun u m => g u (List.mem_cons_of_mem _ m))
  exact this L h3
/-- where things stand -/
structure Ad where
  f_inverse : Addr
  d_inverse : FuncData
  f_weight : Addr
  d_weight : FuncData
  f_weights : Addr
  d_weights : FuncData
  f_check_lengths : Addr
  d_check_lengths : FuncData
  f_piece_at : Addr
  d_piece_at : FuncData
  f_present_numbers : Addr
  d_present_numbers : FuncData
  f_agree : Addr
  d_agree : FuncData
  f_wrong_pieces : Addr
  d_wrong_pieces : FuncData
  f_law_pot : Addr
  d_law_pot : FuncData
  f_law_next : Addr
  d_law_next : FuncData
  f_law_word : Addr
  d_law_word : FuncData
  f_law_words : Addr
  d_law_words : FuncData
  f_law_horner : Addr
  d_law_horner : FuncData
  f_law_stripe : Addr
  d_law_stripe : FuncData
  f_law_is_int : Addr
  d_law_is_int : FuncData
  f_law_answer : Addr
  d_law_answer : FuncData
  f_law_value : Addr
  d_law_value : FuncData
  f_law_fits : Addr
  d_law_fits : FuncData
  f_law_due : Addr
  d_law_due : FuncData
  f_law : Addr
  d_law : FuncData
  c_PoolError : Addr
  c_InvalidArgument : Addr
  c_NotEnoughPieces : Addr
/-- what the top has written -/
structure Txt (K : PySem.W.Frag) (mg : Str → Option Value) (a : Ad) : Prop where
  F_inverse : Fun K "inverse" "inverse" s_inverse a.f_inverse a.d_inverse
  g_inverse : mg "inverse" = some (.ref a.f_inverse)
  d_inverse : Binds K a.d_inverse ["a"] []
  F_weight : Fun K "weight" "weight" s_weight a.f_weight a.d_weight
  g_weight : mg "weight" = some (.ref a.f_weight)
  d_weight : Binds K a.d_weight ["place", "others", "x"] []
  F_weights : Fun K "weights" "weights" s_weights a.f_weights a.d_weights
  g_weights : mg "weights" = some (.ref a.f_weights)
  d_weights : Binds K a.d_weights ["places", "x"] []
  F_check_lengths : Fun K "check_lengths" "check_lengths" s_check_lengths a.f_check_lengths a.d_check_lengths
  g_check_lengths : mg "check_lengths" = some (.ref a.f_check_lengths)
  d_check_lengths : Binds K a.d_check_lengths ["pieces"] []
  F_piece_at : Fun K "piece_at" "piece_at" s_piece_at a.f_piece_at a.d_piece_at
  g_piece_at : mg "piece_at" = some (.ref a.f_piece_at)
  d_piece_at : Binds K a.d_piece_at ["known", "places", "number"] []
  F_present_numbers : Fun K "present_numbers" "present_numbers" s_present_numbers a.f_present_numbers a.d_present_numbers
  g_present_numbers : mg "present_numbers" = some (.ref a.f_present_numbers)
  d_present_numbers : Binds K a.d_present_numbers ["pieces", "data"] []
  F_agree : Fun K "agree" "agree" s_agree a.f_agree a.d_agree
  g_agree : mg "agree" = some (.ref a.f_agree)
  d_agree : Binds K a.d_agree ["pieces", "numbers", "data"] []
  F_wrong_pieces : Fun K "wrong_pieces" "wrong_pieces" s_wrong_pieces a.f_wrong_pieces a.d_wrong_pieces
  g_wrong_pieces : mg "wrong_pieces" = some (.ref a.f_wrong_pieces)
  d_wrong_pieces : Binds K a.d_wrong_pieces ["pieces", "data"] []
  F_law_pot : Fun K "_law_pot" "_law_pot" s_law_pot a.f_law_pot a.d_law_pot
  g_law_pot : mg "_law_pot" = some (.ref a.f_law_pot)
  d_law_pot : Binds K a.d_law_pot ["script"] []
  F_law_next : Fun K "_law_next" "_law_next" s_law_next a.f_law_next a.d_law_next
  g_law_next : mg "_law_next" = some (.ref a.f_law_next)
  d_law_next : Binds K a.d_law_next ["pot", "limit"] []
  F_law_word : Fun K "_law_word" "_law_word" s_law_word a.f_law_word a.d_law_word
  g_law_word : mg "_law_word" = some (.ref a.f_law_word)
  d_law_word : Binds K a.d_law_word ["pot"] []
  F_law_words : Fun K "_law_words" "_law_words" s_law_words a.f_law_words a.d_law_words
  g_law_words : mg "_law_words" = some (.ref a.f_law_words)
  d_law_words : Binds K a.d_law_words ["pot", "count"] []
  F_law_horner : Fun K "_law_horner" "_law_horner" s_law_horner a.f_law_horner a.d_law_horner
  g_law_horner : mg "_law_horner" = some (.ref a.f_law_horner)
  d_law_horner : Binds K a.d_law_horner ["numbers", "x"] []
  F_law_stripe : Fun K "_law_stripe" "_law_stripe" s_law_stripe a.f_law_stripe a.d_law_stripe
  g_law_stripe : mg "_law_stripe" = some (.ref a.f_law_stripe)
  d_law_stripe : Binds K a.d_law_stripe ["pot", "data", "count", "length"] []
  F_law_is_int : Fun K "_law_is_int" "_law_is_int" s_law_is_int a.f_law_is_int a.d_law_is_int
  g_law_is_int : mg "_law_is_int" = some (.ref a.f_law_is_int)
  d_law_is_int : Binds K a.d_law_is_int ["value"] []
  F_law_answer : Fun K "_law_answer" "_law_answer" s_law_answer a.f_law_answer a.d_law_answer
  g_law_answer : mg "_law_answer" = some (.ref a.f_law_answer)
  d_law_answer : Binds K a.d_law_answer ["pieces", "data"] []
  F_law_value : Fun K "_law_value" "_law_value" s_law_value a.f_law_value a.d_law_value
  g_law_value : mg "_law_value" = some (.ref a.f_law_value)
  d_law_value : Binds K a.d_law_value ["places", "values", "x"] []
  F_law_fits : Fun K "_law_fits" "_law_fits" s_law_fits a.f_law_fits a.d_law_fits
  g_law_fits : mg "_law_fits" = some (.ref a.f_law_fits)
  d_law_fits : Binds K a.d_law_fits ["pieces", "numbers", "data", "length"] []
  F_law_due : Fun K "_law_due" "_law_due" s_law_due a.f_law_due a.d_law_due
  g_law_due : mg "_law_due" = some (.ref a.f_law_due)
  d_law_due : Binds K a.d_law_due ["pieces", "left", "data", "length"] []
  F_law : Fun K "law" "law" s_law a.f_law a.d_law
  g_law : mg "law" = some (.ref a.f_law)
  d_law : Binds K a.d_law ["script"] []
  g_PRIME : ∃ u, mg "PRIME" = some u ∧ RelV (.int 65521) u
  g_MAX_PIECES : ∃ u, mg "MAX_PIECES" = some u ∧ RelV (.int 8) u
  n_enumerate : mg "enumerate" = none
  n_len : mg "len" = none
  n_sum : mg "sum" = none
  n_zip : mg "zip" = none
  n_range : mg "range" = none
  n_list : mg "list" = none
  n_int : mg "int" = none
  n_abs : mg "abs" = none
  n_isinstance : mg "isinstance" = none
  n_bool : mg "bool" = none
  n_all : mg "all" = none
  n_sorted : mg "sorted" = none
  n_combinations : mg "combinations" = some (.type "itertools.combinations")
  g_PoolError : mg "PoolError" = some (.ref a.c_PoolError)
  x_PoolError : PySem.W.excIn K a.c_PoolError [.type "ValueError", .type "Exception", .type "BaseException", .type "object"] "ValueError.__new__" = true
  k_PoolError : PySem.W.keepIn K (.ref a.c_PoolError) = true
  b_PoolError : PySem.W.subIn K (.ref a.c_PoolError) (.type "BaseException") = some true
  t_PoolError : PySem.W.typeIn K (.ref a.c_PoolError) = some (.type "type")
  E_PoolError : ExcC K a.c_PoolError
  g_InvalidArgument : mg "InvalidArgument" = some (.ref a.c_InvalidArgument)
  x_InvalidArgument : PySem.W.excIn K a.c_InvalidArgument [.type "ValueError", .type "Exception", .type "BaseException", .type "object"] "ValueError.__new__" = true
  k_InvalidArgument : PySem.W.keepIn K (.ref a.c_InvalidArgument) = true
  b_InvalidArgument : PySem.W.subIn K (.ref a.c_InvalidArgument) (.type "BaseException") = some true
  t_InvalidArgument : PySem.W.typeIn K (.ref a.c_InvalidArgument) = some (.type "type")
  E_InvalidArgument : ExcC K a.c_InvalidArgument
  g_NotEnoughPieces : mg "NotEnoughPieces" = some (.ref a.c_NotEnoughPieces)
  x_NotEnoughPieces : PySem.W.excIn K a.c_NotEnoughPieces [.type "ValueError", .type "Exception", .type "BaseException", .type "object"] "ValueError.__new__" = true
  k_NotEnoughPieces : PySem.W.keepIn K (.ref a.c_NotEnoughPieces) = true
  b_NotEnoughPieces : PySem.W.subIn K (.ref a.c_NotEnoughPieces) (.type "BaseException") = some true
  t_NotEnoughPieces : PySem.W.typeIn K (.ref a.c_NotEnoughPieces) = some (.type "type")
  E_NotEnoughPieces : ExcC K a.c_NotEnoughPieces
  u_InvalidArgument_PoolError : PySem.W.exmOne K (.ref a.c_InvalidArgument) (.ref a.c_PoolError) = some true
  u_NotEnoughPieces_PoolError : PySem.W.exmOne K (.ref a.c_NotEnoughPieces) (.ref a.c_PoolError) = some true
  i_InvalidArgument_InvalidArgument : PySem.W.kitOne K (.ref a.c_InvalidArgument) (.ref a.c_InvalidArgument) = some true
  i_InvalidArgument_NotEnoughPieces : PySem.W.kitOne K (.ref a.c_InvalidArgument) (.ref a.c_NotEnoughPieces) = some false
  i_NotEnoughPieces_InvalidArgument : PySem.W.kitOne K (.ref a.c_NotEnoughPieces) (.ref a.c_InvalidArgument) = some false
  i_NotEnoughPieces_NotEnoughPieces : PySem.W.kitOne K (.ref a.c_NotEnoughPieces) (.ref a.c_NotEnoughPieces) = some true
/-! the promises -/
/-! the draws: a list of the script, a place in it, a rest, a seed -/
/-- at p stands a pot, its script's list at l -/
def Pot (H : Hp) (p l : Addr) : Prop := ∃ (ns : List Int) (i acc seed : Int), H p = some (.lst [.ref l, .int i, .int acc, .int seed]) ∧ H l = some (.lst (ns.map V.int)) ∧ 0 ≤ i ∧ 0 ≤ acc ∧ 0 ≤ seed ∧ seed < 2147483647
theorem Pot.ne {H : Hp} {p l : Addr} (h : Pot H p l) : l ≠ p := by
  obtain ⟨ns, i, acc, seed, h1, h2, _⟩ := h
  refine ne_of h2 h1 fun e => ?_
  have e1 := HO.lst.inj e
  cases ns with
  | nil => cases e1
  | cons a r => rw [List.map_cons] at e1; injection e1 with e2 _; cases e2
theorem Pot.same {H H' : Hp} {p l : Addr} (h : Pot H p l) (s : Same H H') : Pot H' p l := by
  obtain ⟨ns, i, acc, seed, h1, h2, h3⟩ := h
  exact ⟨ns, i, acc, seed, s _ _ h1, s _ _ h2, h3⟩
theorem Pot.only {H H' : Hp} {p l q : Addr} (h : Pot H p l) (s : Only q H H') (n1 : p ≠ q) (n2 : l ≠ q) : Pot H' p l := by
  obtain ⟨ns, i, acc, seed, h1, h2, h3⟩ := h
  exact ⟨ns, i, acc, seed, by rw [s _ n1]; exact h1, by rw [s _ n2]; exact h2, h3⟩
/-- a draw's answer below the limit -/
def sp_law_next (K : PySem.W.Frag) (a : Ad) : Sp := fun vs H Q _ => ∃ (p l : Addr) (m : Int), vs = [.ref p, .int m] ∧ Pot H p l ∧ 0 < m ∧ m < 1073741824 ∧
  ∀ (v : Int) (H' : Hp), 0 ≤ v → v < m → Pot H' p l → Only p H H' → Q (.int v) H'
theorem sp_law_next_len {K : PySem.W.Frag} {a : Ad} {vs : List V} {H : Hp} {Q : VK} {E : XK} (h : sp_law_next K a vs H Q E) : vs.length = 2 := by
  obtain ⟨p, l, m, rfl, _⟩ := h
  rfl
def sp_law_pot (K : PySem.W.Frag) (a : Ad) : Sp := fun vs H Q _ => ∃ (s : Addr) (ns : List Int), vs = [.ref s] ∧ SqL K H s (ns.map V.int) ∧ ns.length ≤ 1000 ∧
  ∀ (p l : Addr) (H' : Hp), H p = none → H l = none → Same H H' → Pot H' p l → Q (.ref p) H'
theorem sp_law_pot_len {K : PySem.W.Frag} {a : Ad} {vs : List V} {H : Hp} {Q : VK} {E : XK} (h : sp_law_pot K a vs H Q E) : vs.length = 1 := by
  obtain ⟨s, ns, rfl, _⟩ := h
  rfl
/-- the law itself: True at every script -/
def sp_law0 (K : PySem.W.Frag) : Sp := fun vs H Q _ => ∃ (s : Addr) (ns : List Int), vs = [.ref s] ∧ SqL K H s (ns.map V.int) ∧ ns.length ≤ 63 ∧ ∀ H', Q (.bl true) H'
def sp_law (K : PySem.W.Frag) (a : Ad) : Sp := sp_law0 K
theorem sp_law_len {K : PySem.W.Frag} {a : Ad} {vs : List V} {H : Hp} {Q : VK} {E : XK} (h : sp_law K a vs H Q E) : vs.length = 1 := by
  obtain ⟨s, ns, rfl, _⟩ := h
  rfl
theorem int_item {ns : List Int} {i : Nat} {y : V} (h : (ns.map V.int)[i]? = some y) : ∃ z, ns[i]? = some z ∧ y = V.int z := by
  rw [List.getElem?_map] at h
  cases e : ns[i]? with
  | none => rw [e] at h; cases h
  | some z => rw [e] at h; exact ⟨z, rfl, (Option.some.inj h).symm⟩
/-- the pot's own object is no list of refs alone, no tuple -/
theorem Pot.list {H : Hp} {p l : Addr} (h : Pot H p l) : ∃ i acc seed : Int, H p = some (.lst [.ref l, .int i, .int acc, .int seed]) := by
  obtain ⟨ns, i, acc, seed, h1, _⟩ := h
  exact ⟨i, acc, seed, h1⟩
theorem But.seq {K : PySem.W.Frag} {H H' : Hp} {p a : Addr} {xs : List V} (b : But p H H') (n : a ≠ p) (h : SqL K H a xs) : SqL K H' a xs := by
  rcases h with (h | ⟨o, h⟩) | h
  · exact .inl (.inl (b _ _ h n))
  · exact .inl (.inr ⟨o, b _ _ h n⟩)
  · exact .inr h
theorem But.tup {K : PySem.W.Frag} {H H' : Hp} {p l a : Addr} {xs : List V} (P : Pot H p l) (b : But p H H') (h : SqT K H a xs) : SqT K H' a xs := by
  obtain ⟨i, acc, seed, hp⟩ := P.list
  rcases h with (h | ⟨o, h⟩) | h
  · exact .inl (.inl (b _ _ h (ne_of h hp (by intro q; cases q))))
  · exact .inl (.inr ⟨o, b _ _ h (ne_of h hp (by intro q; cases q))⟩)
  · exact .inr h
theorem Pot.noList {H : Hp} {p l a : Addr} (P : Pot H p l) {xs : List V} (h : H a = some (.lst xs)) (hx : ∀ i acc seed : Int, xs ≠ [.ref l, .int i, .int acc, .int seed]) : a ≠ p := by
  obtain ⟨i, acc, seed, hp⟩ := P.list
  exact ne_of h hp fun q => hx i acc seed (HO.lst.inj q)
theorem Pot.off {H : Hp} {p l q : Addr} (P : Pot H p l) (h : H q = none) : p ≠ q ∧ l ≠ q := by
  obtain ⟨_, _, _, _, g1, g2, _⟩ := P
  exact ⟨ne_of_none g1 h, ne_of_none g2 h⟩
theorem Pot.new {H : Hp} {p l q : Addr} {o : HO} (P : Pot H p l) (h : H q = none) : Pot (upd H q o) p l := P.same (Same.new h)
def sp_inverse (K : PySem.W.Frag) (a : Ad) : Sp := fun vs H Q E => ∃ x : Int, vs = [.int x] ∧ (x % 65521 = 0 → ∀ H', Same H H' → E (.ref a.c_InvalidArgument) none H') ∧ (x % 65521 ≠ 0 → ∀ H', Same H H' → Q (.int (invP x)) H')
theorem sp_inverse_len {K : PySem.W.Frag} {a : Ad} {vs : List V} {H : Hp} {Q : VK} {E : XK} (h : sp_inverse K a vs H Q E) : vs.length = 1 := by
  obtain ⟨x, rfl, _⟩ := h
  rfl
/-- an int is an int -/
def sp_law_is_int (K : PySem.W.Frag) (a : Ad) : Sp := fun vs H Q _ => ∃ x : Int, vs = [.int x] ∧ Q (.bl true) H
theorem sp_law_is_int_len {K : PySem.W.Frag} {a : Ad} {vs : List V} {H : Hp} {Q : VK} {E : XK} (h : sp_law_is_int K a vs H Q E) : vs.length = 1 := by
  obtain ⟨x, rfl, _⟩ := h
  rfl
/-! words drawn, a polynomial's value -/
def sp_law_word (K : PySem.W.Frag) (a : Ad) : Sp := fun vs H Q _ => ∃ (p l : Addr), vs = [.ref p] ∧ Pot H p l ∧ ∀ (v : Int) (H' : Hp), Wd v → Pot H' p l → Only p H H' → Q (.int v) H'
theorem sp_law_word_len {K : PySem.W.Frag} {a : Ad} {vs : List V} {H : Hp} {Q : VK} {E : XK} (h : sp_law_word K a vs H Q E) : vs.length = 1 := by
  obtain ⟨p, l, rfl, _⟩ := h
  rfl
def sp_law_words (K : PySem.W.Frag) (a : Ad) : Sp := fun vs H Q _ => ∃ (p l : Addr) (n : Int), vs = [.ref p, .int n] ∧ Pot H p l ∧ 0 ≤ n ∧ n ≤ 5000 ∧
  ∀ (D : Addr) (ws : List Int) (H' : Hp), ws.length = n.toNat → (∀ w ∈ ws, Wd w) → H D = none → H' D = some (.lst (ws.map V.int)) → But p H H' → Pot H' p l → Q (.ref D) H'
theorem sp_law_words_len {K : PySem.W.Frag} {a : Ad} {vs : List V} {H : Hp} {Q : VK} {E : XK} (h : sp_law_words K a vs H Q E) : vs.length = 2 := by
  obtain ⟨p, l, n, rfl, _⟩ := h
  rfl
def sp_law_horner (K : PySem.W.Frag) (a : Ad) : Sp := fun vs H Q _ => ∃ (d : Addr) (ns : List Int) (x : Int), vs = [.ref d, .int x] ∧ SqL K H d (ns.map V.int) ∧ ns.length ≤ 500 ∧ Q (.int (horn ns x)) H
theorem sp_law_horner_len {K : PySem.W.Frag} {a : Ad} {vs : List V} {H : Hp} {Q : VK} {E : XK} (h : sp_law_horner K a vs H Q E) : vs.length = 2 := by
  obtain ⟨d, ns, x, rfl, _⟩ := h
  rfl
def BadPts (ps : List (Int × Int)) : Prop := ps = [] ∨ ¬ Apart (ps.map (·.1))
def placesM (ps : List (Int × Int)) : List Int := (ps.map (·.1)).map (· % 65521)
def sp_distinct_places (K : PySem.W.Frag) (a : Ad) : Sp := fun vs H Q E => ∃ (p : Addr) (ps : List (Int × Int)), vs = [.ref p] ∧ PtsAt K H p ps ∧ ps.length ≤ 500 ∧
  (BadPts ps → ∀ H', Same H H' → E (.ref a.c_InvalidArgument) none H') ∧
  (¬ BadPts ps → ∀ (D : Addr) (H' : Hp), Same H H' → H D = none → H' D = some (.lst ((placesM ps).map V.int)) → Q (.ref D) H')
def sp_weight (K : PySem.W.Frag) (a : Ad) : Sp := fun vs H Q _ => ∃ (p : Int) (o : Addr) (os : List Int) (x : Int), vs = [.int p, .ref o, .int x] ∧ SqL K H o (os.map V.int) ∧ prodM os p 1 % 65521 ≠ 0 ∧
  ∀ H', Same H H' → Q (.int (wgt p os x)) H'
def sp_weights (K : PySem.W.Frag) (a : Ad) : Sp := fun vs H Q _ => ∃ (l : Addr) (ws : List Int) (x : Int), vs = [.ref l, .int x] ∧ H l = some (.lst (ws.map V.int)) ∧ Apart ws ∧ ws.length ≤ 500 ∧
  ∀ (D : Addr) (H' : Hp), Same H H' → H D = none → H' D = some (.lst ((weightsM ws x).map V.int)) → Q (.ref D) H'
def sp_value_at (K : PySem.W.Frag) (a : Ad) : Sp := fun vs H Q E => ∃ (p : Addr) (ps : List (Int × Int)) (x : Int), vs = [.ref p, .int x] ∧ PtsAt K H p ps ∧ ps.length ≤ 500 ∧
  (BadPts ps → ∀ H', Same H H' → E (.ref a.c_InvalidArgument) none H') ∧
  (¬ BadPts ps → ∀ H', Same H H' → Q (.int (valM (placesM ps) (ps.map (·.2)) x)) H')
theorem sp_distinct_places_len {K : PySem.W.Frag} {a : Ad} {vs : List V} {H : Hp} {Q : VK} {E : XK} (h : sp_distinct_places K a vs H Q E) : vs.length = 1 := by
  obtain ⟨p, ps, rfl, _⟩ := h
  rfl
theorem sp_weight_len {K : PySem.W.Frag} {a : Ad} {vs : List V} {H : Hp} {Q : VK} {E : XK} (h : sp_weight K a vs H Q E) : vs.length = 3 := by
  obtain ⟨p, o, os, x, rfl, _⟩ := h
  rfl
theorem sp_weights_len {K : PySem.W.Frag} {a : Ad} {vs : List V} {H : Hp} {Q : VK} {E : XK} (h : sp_weights K a vs H Q E) : vs.length = 2 := by
  obtain ⟨l, ws, x, rfl, _⟩ := h
  rfl
theorem sp_value_at_len {K : PySem.W.Frag} {a : Ad} {vs : List V} {H : Hp} {Q : VK} {E : XK} (h : sp_value_at K a vs H Q E) : vs.length = 2 := by
  obtain ⟨p, ps, x, rfl, _⟩ := h
  rfl
/-! rows, lines: lists of lists -/
def refs (E : List (Addr × List Int)) : List V := E.map fun e => V.ref e.1
theorem refs_len (E : List (Addr × List Int)) : (refs E).length = E.length := by simp [refs]
theorem refs_get {E : List (Addr × List Int)} {i : Nat} {e : Addr × List Int} (h : E[i]? = some e) : (refs E)[i]? = some (V.ref e.1) := by unfold refs; rw [List.getElem?_map, h]; rfl
theorem refs_item {E : List (Addr × List Int)} {i : Nat} {y : V} (h : (refs E)[i]? = some y) : ∃ e, E[i]? = some e ∧ y = V.ref e.1 := by
  unfold refs at h
  rw [List.getElem?_map] at h
  cases q : E[i]? with
  | none => rw [q] at h; cases h
  | some e => rw [q] at h; exact ⟨e, rfl, (Option.some.inj h).symm⟩
/-- rows that are read -/
def RL (K : PySem.W.Frag) (H : Hp) (R : Addr) (E : List (Addr × List Int)) : Prop := SqL K H R (refs E) ∧ ∀ e ∈ E, SqL K H e.1 (e.2.map V.int)
theorem RL.same {K : PySem.W.Frag} {H H' : Hp} {R : Addr} {E : List (Addr × List Int)} (h : RL K H R E) (s : Same H H') : RL K H' R E := ⟨s.seq h.1, fun e m => s.seq (h.2 e m)⟩
/-- lines that are changed -/
def LA (H : Hp) (L : Addr) (E : List (Addr × List Int)) : Prop := H L = some (.lst (refs E)) ∧ ∀ e ∈ E, H e.1 = some (.lst (e.2.map V.int)) ∧ e.1 ≠ L
theorem LA.same {H H' : Hp} {L : Addr} {E : List (Addr × List Int)} (h : LA H L E) (s : Same H H') : LA H' L E := ⟨s _ _ h.1, fun e m => ⟨s _ _ (h.2 e m).1, (h.2 e m).2⟩⟩
theorem LA.put {H : Hp} {L : Addr} {E' : List (Addr × List Int)} (h : ∀ e ∈ E', H e.1 = some (.lst (e.2.map V.int)) ∧ e.1 ≠ L) : LA (upd H L (.lst (refs E'))) L E' := ⟨upd_same, fun e m => ⟨by rw [upd_ne (h e m).2]; exact (h e m).1, (h e m).2⟩⟩
theorem LA.rl {K : PySem.W.Frag} {H : Hp} {L : Addr} {E : List (Addr × List Int)} (h : LA H L E) : RL K H L E := ⟨SqL.of h.1, fun e m => SqL.of (h.2 e m).1⟩
abbrev snds (E : List (Addr × List Int)) : List (List Int) := E.map (·.2)
theorem snds_get {E : List (Addr × List Int)} {i : Nat} {e : Addr × List Int} (h : E[i]? = some e) : (snds E).getD i [] = e.2 := getD_item (by rw [List.getElem?_map, h]; rfl)
theorem snds_len (E : List (Addr × List Int)) : (snds E).length = E.length := List.length_map _
theorem ints_pot {l : Addr} {xs : List Int} {i acc seed : Int} : xs.map V.int ≠ [.ref l, .int i, .int acc, .int seed] := fun e => by
  cases xs with
  | nil => cases e
  | cons a r => rw [List.map_cons] at e; injection e with e1 _; cases e1
theorem LA.but {H H' : Hp} {p l L : Addr} {F : List (Addr × List Int)} (h : LA H L F) (P : Pot H p l) (n : L ≠ p) (b : But p H H') : LA H' L F :=
  ⟨b _ _ h.1 n, fun e m => ⟨b _ _ (h.2 e m).1 (P.noList (h.2 e m).1 fun _ _ _ => ints_pot), (h.2 e m).2⟩⟩
/-! pieces of a stripe -/
def BadLen (rows : List (List Int)) : Prop := ∃ r ∈ rows, r.length ≠ (rows.getD 0 []).length
noncomputable def pieceM (ws : List Int) (rows : List (List Int)) (x : Int) (n : Nat) : List Int := (List.range n).map fun i => valM ws (rows.map fun r => r.getD i 0) x
def upto (n : Nat) : List Int := (List.range n).map fun (i : Nat) => (i : Int)
theorem upto_len (n : Nat) : (upto n).length = n := by simp [upto]
theorem upto_get {n i : Nat} (h : i < n) : (upto n).getD i 0 = (i : Int) := by
  apply getD_item
  simp [upto, h]
theorem upto_apart {n : Nat} (h : n ≤ 60000) : Apart (upto n) := by
  unfold Apart
  unfold upto List.Nodup
  rw [List.map_map, List.pairwise_map]
  refine List.Pairwise.imp_of_mem (fun {a b} ha hb hab e => ?_) (List.pairwise_lt_range (n := n))
  have h1 := List.mem_range.mp ha
  have h2 := List.mem_range.mp hb
  have this : (a : Int) % 65521 = (b : Int) % 65521 := z_mod_eq e
  have hab' : a < b := hab
  omega
/-- the i-th column of the rows, as a new tuple -/
def YCol (F : List (Addr × List Int)) : Nat → Hp → V → Hp → Prop := fun i H v H' => ∃ T, v = .ref T ∧ H T = none ∧ H' = upd H T (.tup (((snds F).map fun r => r.getD i 0).map V.int))
theorem cols_rows {K : PySem.W.Frag} {H : Hp} {i : Nat} : ∀ (F : List (Addr × List Int)) (ys : List V), (∀ e ∈ F, SqL K H e.1 (e.2.map V.int) ∧ i < e.2.length) → Cols K H i ((F.map (·.1)).map fun l => (l, false)) ys → ys = ((snds F).map fun r => r.getD i 0).map V.int
  | [], [], _, _ => rfl
  | [], _ :: _, _, h => False.elim h
  | _ :: _, [], _, h => False.elim h
  | e :: F, y :: ys, h, ⟨h1, h2⟩ => by
    obtain ⟨a, b⟩ := h e (by simp)
    have q : (e.2.map V.int)[i]? = some y := h1 _ a
    rw [List.getElem?_map, List.getElem?_eq_getElem b] at q
    have e1 : e.2.getD i 0 = e.2[i] := getD_item (List.getElem?_eq_getElem b)
    rw [cols_rows F ys (fun e' m => h e' (by simp [m])) h2]
    simp only [snds, List.map_cons, e1]
    rw [← Option.some.inj q]
theorem walk_cols {K : PySem.W.Frag} {F : List (Addr × List Int)} {n : Nat} (hne : F ≠ []) (hrow : ∀ e ∈ F, e.2.length = n) :
    Walk (Itn K ((F.map (·.1)).map fun l => (l, false))) n (fun H => ∀ e ∈ F, SqL K H e.1 (e.2.map V.int)) (YCol F) := by
  refine ⟨fun i H hi q l hl => ?_, fun H q => ?_, fun i H v H' hi q y => ?_⟩
  · obtain ⟨l', hl', rfl⟩ := List.mem_map.1 hl
    obtain ⟨e, me, rfl⟩ := List.mem_map.1 hl'
    have := hrow e me
    exact ⟨_, _, q e me, List.getElem?_eq_getElem (by rw [List.length_map]; omega)⟩
  · cases F with
    | nil => exact absurd rfl hne
    | cons e F => exact ⟨(e.1, false), _, _, rfl, q e (by simp), by rw [List.length_map, hrow e (by simp)]; exact Nat.le_refl _⟩
  · obtain ⟨T, ys, h1, h2, h3, h4⟩ := y
    have := cols_rows F ys (fun e m => ⟨q e m, by have := hrow e m; omega⟩) h4
    exact ⟨T, h1, h2, by rw [h3, this]⟩
theorem walk_zipM {K : PySem.W.Frag} {a b : Addr} {xs ys : List V} {n : Nat} (h1 : xs.length = n) (h2 : ys.length = n) :
    Walk (Itn K [(a, false), (b, true)]) n (fun H => SqL K H a xs ∧ SqT K H b ys) (YPair (fun i => xs[i]?) (fun i => ys[i]?)) := by
  refine ⟨fun i H hi q l hl => ?_, fun H q => ⟨(a, false), _, xs, rfl, q.1, by omega⟩, fun i H v H' hi q y => ?_⟩
  · rcases List.mem_cons.1 hl with rfl | hl
    · exact ⟨xs, _, q.1, List.getElem?_eq_getElem (by omega)⟩
    · rw [List.mem_singleton.1 hl]
      exact ⟨ys, _, q.2, List.getElem?_eq_getElem (by omega)⟩
  · obtain ⟨T, zs, e1, e2, e3, e4⟩ := y
    match zs, e4 with
    | [x, y], ⟨c1, c2, _⟩ => exact ⟨T, x, y, e1, e2, e3, c1 xs q.1, c2 ys q.2⟩
def sp_check_lengths (K : PySem.W.Frag) (a : Ad) : Sp := fun vs H Q E => ∃ (R : Addr) (F : List (Addr × List Int)), vs = [.ref R] ∧ RL K H R F ∧
  (BadLen (snds F) → ∀ H', Same H H' → E (.ref a.c_InvalidArgument) none H') ∧ (¬ BadLen (snds F) → ∀ H', Same H H' → Q .non H')
theorem sp_check_lengths_len {K : PySem.W.Frag} {a : Ad} {vs : List V} {H : Hp} {Q : VK} {E : XK} (h : sp_check_lengths K a vs H Q E) : vs.length = 1 := by
  obtain ⟨R, F, rfl, _⟩ := h
  rfl
def sp_piece_at (K : PySem.W.Frag) (a : Ad) : Sp := fun vs H Q _ => ∃ (R P : Addr) (F : List (Addr × List Int)) (ws : List Int) (x : Int) (n : Nat), vs = [.ref R, .ref P, .int x] ∧ RL K H R F ∧ H P = some (.lst (ws.map V.int)) ∧ Apart ws ∧ ws.length = F.length ∧ F ≠ [] ∧ F.length ≤ 8 ∧ n ≤ 500 ∧
  (∀ e ∈ F, e.2.length = n) ∧ ∀ (D : Addr) (H' : Hp), Same H H' → H D = none → H' D = some (.lst ((pieceM ws (snds F) x n).map V.int)) → Q (.ref D) H'
theorem sp_piece_at_len {K : PySem.W.Frag} {a : Ad} {vs : List V} {H : Hp} {Q : VK} {E : XK} (h : sp_piece_at K a vs H Q E) : vs.length = 3 := by
  obtain ⟨R, P, F, ws, x, n, rfl, _⟩ := h
  rfl
theorem but_none {p : Addr} {H H' : Hp} {b : Addr} (s : But p H H') (nb : b ≠ p) (n : H' b = none) : H b = none := by
  cases q : H b with
  | none => rfl
  | some o => rw [s _ _ q nb] at n; cases n
def sp_law_stripe (K : PySem.W.Frag) (a : Ad) : Sp := fun vs H Q _ => ∃ (p l : Addr) (d c n : Nat), vs = [.ref p, .int (d : Int), .int (c : Int), .int (n : Int)] ∧ Pot H p l ∧ d ≤ 20 ∧ c ≤ 20 ∧ n ≤ 20 ∧
  ∀ (D : Addr) (F : List (Addr × List Int)) (ps : List (List Int)) (H' : Hp), But p H H' → Pot H' p l → H D = none → LA H' D F → F.length = c → ps.length = n → (∀ ws ∈ ps, ws.length = d ∧ ∀ w ∈ ws, Wd w) → (∀ k < c, (snds F).getD k [] = ps.map fun ws => horn ws (k : Int)) → Q (.ref D) H'
theorem sp_law_stripe_len {K : PySem.W.Frag} {a : Ad} {vs : List V} {H : Hp} {Q : VK} {E : XK} (h : sp_law_stripe K a vs H Q E) : vs.length = 4 := by
  obtain ⟨p, l, d, c, n, rfl, _⟩ := h
  rfl
/-! any pieces determine the others -/
theorem piece_of {ws : List Int} {rows ps : List (List Int)} (ha : Apart ws) (hr : rows.length = ws.length) (hps : ∀ w ∈ ps, w.length ≤ ws.length) (h : ∀ j, j < ws.length → rows.getD j [] = ps.map fun w => horn w (ws.getD j 0)) (x : Int) :
    pieceM ws rows x ps.length = ps.map fun w => horn w x := by
  refine List.ext_getElem (by simp [pieceM]) fun i h1 h2 => ?_
  have hi : i < ps.length := by simpa using h2
  have e1 : (pieceM ws rows x ps.length)[i] = valM ws (rows.map fun r => r.getD i 0) x := by simp [pieceM]
  have e2 : (ps.map fun w => horn w x)[i] = horn ps[i] x := by simp
  rw [e1, e2]
  have w1 := valM_word ws (rows.map fun r => r.getD i 0) x
  have w2 := horn_word ps[i] x
  refine z_inj w1.1 w1.2 w2.1 w2.2 ?_
  rw [horn_z]
  have hp := (pev_pol ps[i]).mono (hps _ (List.getElem_mem hi))
  refine valM_pol ha hp (fun j hj => ?_) x
  have hj' : j < rows.length := by omega
  have g1 : (rows.map fun r => r.getD i 0).getD j 0 = (rows.getD j []).getD i 0 := by
    rw [List.getD_eq_getElem?_getD, List.getElem?_map, List.getElem?_eq_getElem hj', List.getD_eq_getElem?_getD (l := rows), List.getElem?_eq_getElem hj']
    rfl
  rw [g1, h j hj]
  have g2 : (ps.map fun w => horn w (ws.getD j 0)).getD i 0 = horn ps[i] (ws.getD j 0) := getD_item (by rw [List.getElem?_map, List.getElem?_eq_getElem hi]; rfl)
  rw [g2, horn_z]
theorem dp_rows {K : PySem.W.Frag} {H : Hp} {R : Addr} {F : List (Addr × List Int)} (h : RL K H R F) : Dp K H (.ref R) (.list ((snds F).map rowD)) := by
  refine .lst h.1 ?_
  have : ∀ G : List (Addr × List Int), (∀ e ∈ G, SqL K H e.1 (e.2.map V.int)) → DpAll K H (refs G) ((snds G).map rowD) := by
    intro G
    induction G with
    | nil => intro _; exact .nil
    | cons e G ih => exact fun g => .cons (dp_ints (g e (by simp))) (ih fun u m => g u (List.mem_cons_of_mem _ m))
  exact this F h.2
theorem refs_take (F : List (Addr × List Int)) (n : Nat) : (refs F).take n = refs (F.take n) := by simp [refs, List.map_take]
theorem snds_take (F : List (Addr × List Int)) (n : Nat) : (snds F).take n = snds (F.take n) := by simp [snds, List.map_take]
theorem RL.take {K : PySem.W.Frag} {H : Hp} {S : Addr} {F : List (Addr × List Int)} {n : Nat} (h : SqL K H S ((refs F).take n)) (g : ∀ e ∈ F, SqL K H e.1 (e.2.map V.int)) : RL K H S (F.take n) :=
  ⟨by rw [← refs_take]; exact h, fun e m => g e (List.mem_of_mem_take m)⟩
/-! pieces that may be lost -/
abbrev ORow := Option (Addr × List Int)
def refO : ORow → V
  | none => .non
  | some e => .ref e.1
abbrev refsO (F : List ORow) : List V := F.map refO
theorem refsO_get {F : List ORow} {i : Nat} {o : ORow} (h : F[i]? = some o) : (refsO F)[i]? = some (refO o) := by rw [List.getElem?_map, h]; rfl
theorem refsO_item {F : List ORow} {i : Nat} {y : V} (h : (refsO F)[i]? = some y) : ∃ o, F[i]? = some o ∧ y = refO o := by
  rw [List.getElem?_map] at h
  cases q : F[i]? with
  | none => rw [q] at h; cases h
  | some o => rw [q] at h; exact ⟨o, rfl, (Option.some.inj h).symm⟩
def RO (K : PySem.W.Frag) (H : Hp) (R : Addr) (F : List ORow) : Prop := SqL K H R (refsO F) ∧ ∀ e, some e ∈ F → SqL K H e.1 (e.2.map V.int)
theorem RO.same {K : PySem.W.Frag} {H H' : Hp} {R : Addr} {F : List ORow} (h : RO K H R F) (s : Same H H') : RO K H' R F := ⟨s.seq h.1, fun e m => s.seq (h.2 e m)⟩
/-- the numbers of those that are there -/
def presM (F : List ORow) : List Nat := (List.range F.length).filter fun i => (F.getD i none).isSome
def rowAt (F : List ORow) (i : Nat) : Addr × List Int := (F.getD i none).getD ((0 : Nat), [])
theorem rowAt_of {F : List ORow} {i : Nat} {e : Addr × List Int} (h : F[i]? = some (some e)) : rowAt F i = e := by
  unfold rowAt
  rw [getD_item h]
  rfl
def intsN (is : List Nat) : List Int := is.map fun (i : Nat) => (i : Int)
abbrev rowsP (F : List ORow) : List (Addr × List Int) := (presM F).map (rowAt F)
theorem presM_lt {F : List ORow} {i : Nat} (h : i ∈ presM F) : i < F.length ∧ F[i]? = some (some (rowAt F i)) := by
  obtain ⟨h1, h2⟩ := List.mem_filter.mp h
  have l := List.mem_range.mp h1
  refine ⟨l, ?_⟩
  have e : F.getD i none = F[i] := getD_item (List.getElem?_eq_getElem l)
  have q : F[i].isSome = true := by rw [← e]; exact h2
  unfold rowAt
  rw [e, List.getElem?_eq_getElem l]
  cases z : F[i] with
  | none => rw [z] at q; cases q
  | some r => rfl
theorem presM_iff {F : List ORow} {i : Nat} : i ∈ presM F ↔ ∃ e, F[i]? = some (some e) := by
  constructor
  · exact fun h => ⟨_, (presM_lt h).2⟩
  · rintro ⟨e, h⟩
    refine List.mem_filter.mpr ⟨List.mem_range.mpr (item_lt h), ?_⟩
    show (F.getD i none).isSome = true
    rw [getD_item h]
    rfl
theorem presM_len (F : List ORow) : (presM F).length ≤ F.length := Nat.le_trans (List.length_filter_le _ _) (by rw [List.length_range]; exact Nat.le_refl _)
theorem presM_pair (F : List ORow) : (presM F).Pairwise (· < ·) := List.Pairwise.filter _ List.pairwise_lt_range
theorem intsN_apart {is : List Nat} (h : is.Pairwise (· < ·)) (hl : ∀ i ∈ is, i < 60000) : Apart (intsN is) := by
  unfold Apart
  unfold intsN List.Nodup
  rw [List.map_map, List.pairwise_map]
  refine List.Pairwise.imp_of_mem (fun {a b} ha hb hab e => ?_) h
  have h1 := hl _ ha
  have h2 := hl _ hb
  have this : (a : Int) % 65521 = (b : Int) % 65521 := z_mod_eq e
  omega
theorem RO.rows {K : PySem.W.Frag} {H : Hp} {R : Addr} {F : List ORow} (h : RO K H R F) : ∀ i ∈ presM F, SqL K H (rowAt F i).1 ((rowAt F i).2.map V.int) := fun i m => h.2 _ (List.mem_of_getElem? (presM_lt m).2)
def BadP (F : List ORow) (data : Int) : Prop := 8 < F.length ∨ data < 1 ∨ (F.length : Int) < data ∨ BadLen (snds (rowsP F))
def Few (F : List ORow) (data : Int) : Prop := ((presM F).length : Int) < data
noncomputable def recM (F : List ORow) (d n : Nat) : List (List Int) := (List.range F.length).map fun i => match F.getD i none with
  | some e => e.2
  | none => pieceM (intsN ((presM F).take d)) (snds (((presM F).take d).map (rowAt F))) (i : Int) n
def sp_present_numbers (K : PySem.W.Frag) (a : Ad) : Sp := fun vs H Q E => ∃ (R : Addr) (F : List ORow) (data : Int), vs = [.ref R, .int data] ∧ RO K H R F ∧ F.length ≤ 50 ∧
  (BadP F data → ∀ H', Same H H' → E (.ref a.c_InvalidArgument) none H') ∧
  (¬ BadP F data → Few F data → ∀ H', Same H H' → E (.ref a.c_NotEnoughPieces) none H') ∧
  (¬ BadP F data → ¬ Few F data → ∀ (D : Addr) (H' : Hp), Same H H' → H D = none → H' D = some (.lst ((intsN (presM F)).map V.int)) → Q (.ref D) H')
theorem sp_present_numbers_len {K : PySem.W.Frag} {a : Ad} {vs : List V} {H : Hp} {Q : VK} {E : XK} (h : sp_present_numbers K a vs H Q E) : vs.length = 2 := by
  obtain ⟨R, F, data, rfl, _⟩ := h
  rfl
def sp_recover (K : PySem.W.Frag) (a : Ad) : Sp := fun vs H Q E => ∃ (R : Addr) (F : List ORow) (data : Int), vs = [.ref R, .int data] ∧ RO K H R F ∧ F.length ≤ 50 ∧ ((snds (rowsP F)).getD 0 []).length ≤ 500 ∧
  (BadP F data → ∀ H', Same H H' → E (.ref a.c_InvalidArgument) none H') ∧
  (¬ BadP F data → Few F data → ∀ H', Same H H' → E (.ref a.c_NotEnoughPieces) none H') ∧
  (¬ BadP F data → ¬ Few F data → ∀ (D : Addr) (G : List (Addr × List Int)) (H' : Hp), Same H H' → H D = none → LA H' D G → (G.map (·.1)).Nodup → (∀ e ∈ G, H e.1 = none) → snds G = recM F data.toNat ((snds (rowsP F)).getD 0 []).length → Q (.ref D) H')
theorem sp_recover_len {K : PySem.W.Frag} {a : Ad} {vs : List V} {H : Hp} {Q : VK} {E : XK} (h : sp_recover K a vs H Q E) : vs.length = 2 := by
  obtain ⟨R, F, data, rfl, _⟩ := h
  rfl
/-- data of such rows -/
def optD : ORow → PyData
  | none => .none
  | some e => rowD e.2
theorem opts_data : ∀ F : List ORow, PyData.canLayAll0 (F.map optD) = true ∧ PyData.depthAll (F.map optD) ≤ 1 ∧ PyData.eqvAll (F.map optD) (F.map optD) = true
  | [] => ⟨rfl, Nat.zero_le _, by simp [PyData.eqvAll]⟩
  | none :: F => by
    obtain ⟨h1, h2, h3⟩ := opts_data F
    refine ⟨by simp [PyData.canLayAll0, PyData.canLay0, optD, h1], ?_, by simp [PyData.eqvAll, PyData.eqv, optD, h3]⟩
    simp only [List.map_cons, PyData.depthAll, optD, PyData.depth]
    omega
  | some e :: F => by
    obtain ⟨h1, h2, h3⟩ := opts_data F
    have q := eqv_ints e.2 e.2
    rw [decide_eq_true rfl] at q
    refine ⟨by simp [PyData.canLayAll0, PyData.canLay0, optD, rowD, canLayAll_ints, h1], ?_, ?_⟩
    · simp only [List.map_cons, PyData.depthAll, optD, rowD, PyData.depth, depthAll_ints]
      omega
    · simp only [List.map_cons, PyData.eqvAll, optD, rowD, q, h3, Bool.and_true]
theorem opts_shaped (F : List ORow) : SeqAt.shaped (.list (F.map optD)) = true := by
  obtain ⟨h1, h2, _⟩ := opts_data F
  have e : PyData.depth (.list (F.map optD)) = PyData.depthAll (F.map optD) + 1 := by simp only [PyData.depth]
  unfold SeqAt.shaped
  rw [Bool.and_eq_true]
  exact ⟨by simp only [PyData.canLay0]; exact h1, decide_eq_true (by rw [e]; omega)⟩
theorem opts_eqv (F : List ORow) : PyData.eqv (.list (F.map optD)) (.list (F.map optD)) = true := by
  simp only [PyData.eqv]
  exact (opts_data F).2.2
theorem dp_opts {K : PySem.W.Frag} {H : Hp} {R : Addr} {F : List ORow} (h : RO K H R F) : Dp K H (.ref R) (.list (F.map optD)) := by
  refine .lst h.1 ?_
  have : ∀ G : List ORow, (∀ e, some e ∈ G → SqL K H e.1 (e.2.map V.int)) → DpAll K H (refsO G) (G.map optD) := by
    intro G
    induction G with
    | nil => intro _; exact .nil
    | cons o G ih =>
      cases o with
      | none => exact fun g => .cons .non (ih fun u m => g u (List.mem_cons_of_mem _ m))
      | some e => exact fun g => .cons (dp_ints (g e (by simp))) (ih fun u m => g u (List.mem_cons_of_mem _ m))
  exact this F h.2
theorem row_in {F : List ORow} {i : Nat} {e : Addr × List Int} (h : F[i]? = some (some e)) : e.2 ∈ snds (rowsP F) := by
  have m : i ∈ presM F := presM_iff.mpr ⟨e, h⟩
  have q := (presM_lt m).2
  rw [h] at q
  have q' := Option.some.inj (Option.some.inj q)
  exact List.mem_map.mpr ⟨e, List.mem_map.mpr ⟨i, m, q'.symm⟩, rfl⟩
theorem in_row {F : List ORow} {r : List Int} (h : r ∈ snds (rowsP F)) : ∃ (i : Nat) (e : Addr × List Int), F[i]? = some (some e) ∧ e.2 = r := by
  obtain ⟨e, me, rfl⟩ := List.mem_map.mp h
  obtain ⟨i, mi, rfl⟩ := List.mem_map.mp me
  exact ⟨i, _, (presM_lt mi).2, rfl⟩
theorem first_len {F : List ORow} {N : Nat} (h : ∀ e, some e ∈ F → e.2.length ≤ N) : ((snds (rowsP F)).getD 0 []).length ≤ N := by
  cases q : (snds (rowsP F))[0]? with
  | none => rw [List.getD_eq_getElem?_getD, q]; exact Nat.zero_le _
  | some r =>
    rw [getD_item q]
    obtain ⟨i, e, he, rfl⟩ := in_row (List.mem_of_getElem? q)
    exact h e (List.mem_of_getElem? he)
theorem first_eq {F : List ORow} {n i : Nat} {e0 : Addr × List Int} (h : ∀ e, some e ∈ F → e.2.length = n) (hi : F[i]? = some (some e0)) : ((snds (rowsP F)).getD 0 []).length = n := by
  have m := row_in hi
  have l : 0 < (snds (rowsP F)).length := List.length_pos_of_mem m
  have q : (snds (rowsP F))[0]? = some (snds (rowsP F))[0] := List.getElem?_eq_getElem l
  rw [getD_item q]
  obtain ⟨i, e, he, e2⟩ := in_row (List.mem_of_getElem? q)
  rw [← e2]
  exact h e (List.mem_of_getElem? he)
theorem good_rows {F : List ORow} {n : Nat} {data : Int} (h8 : F.length ≤ 8) (d1 : 1 ≤ data) (d2 : data ≤ F.length) (h : ∀ e, some e ∈ F → e.2.length = n) : ¬ BadP F data := by
  rintro (q | q | q | ⟨r, m, q⟩)
  · omega
  · omega
  · omega
  · obtain ⟨i, e, he, rfl⟩ := in_row m
    rw [first_eq h he] at q
    exact q (h e (List.mem_of_getElem? he))
/-- what is recovered is the stripe -/
theorem rec_all {F : List ORow} {ps : List (List Int)} {d : Nat} (h8 : F.length ≤ 60000) (hd : d ≤ (presM F).length) (hps : ∀ w ∈ ps, w.length ≤ d) (hF : ∀ (i : Nat) (e : Addr × List Int), F[i]? = some (some e) → e.2 = ps.map fun w => horn w (i : Int)) :
    recM F d ps.length = (List.range F.length).map fun (i : Nat) => ps.map fun w => horn w (i : Int) := by
  unfold recM
  refine List.map_congr_left fun i mi => ?_
  have li := List.mem_range.mp mi
  have hi : F[i]? = some F[i] := List.getElem?_eq_getElem li
  rw [getD_item hi]
  cases q : F[i] with
  | some e => exact hF i e (by rw [hi, q])
  | none =>
    have tl : ((presM F).take d).length = d := by rw [List.length_take]; omega
    have il : (intsN ((presM F).take d)).length = d := by unfold intsN; rw [List.length_map, tl]
    have pw := (presM_pair F).sublist (List.take_sublist d _)
    refine piece_of (intsN_apart pw fun j m => by have := (presM_lt (List.mem_of_mem_take m)).1; omega) (by rw [il, snds_len, List.length_map, tl]) (fun w m => by rw [il]; exact hps w m) (fun j hj => ?_) _
    rw [il] at hj
    have hj' : ((presM F).take d)[j]? = some (((presM F).take d)[j]'(by omega)) := List.getElem?_eq_getElem (by omega)
    generalize ((presM F).take d)[j]'(by omega) = m at hj'
    have e1 : (snds (((presM F).take d).map (rowAt F))).getD j [] = (rowAt F m).2 := getD_item (by rw [List.getElem?_map, List.getElem?_map, hj']; rfl)
    have e2 : (intsN ((presM F).take d)).getD j 0 = (m : Int) := getD_item (by unfold intsN; rw [List.getElem?_map, hj']; rfl)
    rw [e1, e2]
    exact hF m _ (presM_lt (List.mem_of_mem_take (List.mem_of_getElem? hj'))).2
theorem rep_none (n : Nat) : (List.replicate n [V.non]).flatten = refsO (List.replicate n none) := by
  induction n with
  | zero => rfl
  | succ n ih => rw [List.replicate_succ, List.flatten_cons, ih, List.replicate_succ]; rfl
/-! pieces that agree -/
def Agr (F : List ORow) (is : List Nat) (d n : Nat) : Prop := ∀ i ∈ is.drop d, pieceM (intsN (is.take d)) (snds ((is.take d).map (rowAt F))) ((i : Nat) : Int) n = (rowAt F i).2
theorem valM_fun (ws ys : List Int) : ∃ g, Pol ws.length g ∧ ∀ x : Int, z (valM ws ys x) = g (z x) := by
  refine ⟨fun x => sumR ws.length fun i => prodZ (others ws i) x * (z (invP (prodM (others ws i) (ws.getD i 0) 1)) * z (ys.getD i 0)), sumR_pol fun i hi => Pol.smul _ ?_, fun x => valM_z ws ys x⟩
  have := prodZ_pol (others ws i)
  rw [others_length hi] at this
  exact this
theorem pieceM_get {ws : List Int} {rows : List (List Int)} {x : Int} {n t : Nat} (h : t < n) : (pieceM ws rows x n).getD t 0 = valM ws (rows.map fun r => r.getD t 0) x := getD_item (by simp [pieceM, h])
/-- all that agree lie on polynomials -/
theorem agr_pol {F : List ORow} {is : List Nat} {d n t : Nat} (hp : is.Pairwise (· < ·)) (hl : ∀ i ∈ is, i < 60000) (hd : d ≤ is.length) (ht : t < n) (h : Agr F is d n) :
    ∃ g, Pol d g ∧ ∀ i ∈ is, z ((rowAt F i).2.getD t 0) = g (z ((i : Nat) : Int)) := by
  have tl : (is.take d).length = d := by rw [List.length_take]; omega
  have il : (intsN (is.take d)).length = d := by unfold intsN; rw [List.length_map, tl]
  have ap : Apart (intsN (is.take d)) := intsN_apart (hp.sublist (List.take_sublist d _)) fun j m => hl j (List.mem_of_mem_take m)
  obtain ⟨g, hg, e⟩ := valM_fun (intsN (is.take d)) ((snds ((is.take d).map (rowAt F))).map fun r => r.getD t 0)
  rw [il] at hg
  refine ⟨g, hg, fun i m => ?_⟩
  rw [← List.take_append_drop d is] at m
  rcases List.mem_append.mp m with m | m
  · obtain ⟨j, hj⟩ := List.mem_iff_getElem?.mp m
    have e1 : (intsN (is.take d)).getD j 0 = (i : Int) := getD_item (by unfold intsN; rw [List.getElem?_map, hj]; rfl)
    have e2 : ((snds ((is.take d).map (rowAt F))).map fun r => r.getD t 0).getD j 0 = (rowAt F i).2.getD t 0 := getD_item (by rw [List.getElem?_map, List.getElem?_map, List.getElem?_map, hj]; rfl)
    have q := valM_node (ys := (snds ((is.take d).map (rowAt F))).map fun r => r.getD t 0) ap (x := (i : Int)) (j := j) (by rw [il, ← tl]; exact item_lt hj) (by rw [e1])
    rw [← e, q, e2]
  · rw [← h i m, pieceM_get ht, e]
theorem agr_of {F : List ORow} {ps : List (List Int)} {is : List Nat} {d : Nat} (hp : is.Pairwise (· < ·)) (hl : ∀ i ∈ is, i < 60000) (hd : d ≤ is.length) (hps : ∀ w ∈ ps, w.length ≤ d) (hF : ∀ i ∈ is, (rowAt F i).2 = ps.map fun w => horn w ((i : Nat) : Int)) : Agr F is d ps.length := fun i mi => by
  have tl : (is.take d).length = d := by rw [List.length_take]; omega
  have il : (intsN (is.take d)).length = d := by unfold intsN; rw [List.length_map, tl]
  rw [hF i (List.mem_of_mem_drop mi)]
  refine piece_of (intsN_apart (hp.sublist (List.take_sublist d _)) fun j m => hl j (List.mem_of_mem_take m)) (by rw [il, snds_len, List.length_map, tl]) (fun w m => by rw [il]; exact hps w m) (fun j hj => ?_) _
  rw [il] at hj
  have hj' : (is.take d)[j]? = some ((is.take d)[j]'(by omega)) := List.getElem?_eq_getElem (by omega)
  generalize (is.take d)[j]'(by omega) = m at hj'
  have e1 : (snds ((is.take d).map (rowAt F))).getD j [] = (rowAt F m).2 := getD_item (by rw [List.getElem?_map, List.getElem?_map, hj']; rfl)
  have e2 : (intsN (is.take d)).getD j 0 = (m : Int) := getD_item (by unfold intsN; rw [List.getElem?_map, hj']; rfl)
  rw [e1, e2]
  exact hF m (List.mem_of_mem_take (List.mem_of_getElem? hj'))
/-- one row off the polynomials of all others -/
theorem agr_not {F : List ORow} {is : List Nat} {d n t c : Nat} {w : List Int} (hp : is.Pairwise (· < ·)) (hl : ∀ i ∈ is, i < 60000) (hd : d < is.length) (ht : t < n) (hw : w.length ≤ d) (hc : c ∈ is) (h1 : ∀ i ∈ is, i ≠ c → z ((rowAt F i).2.getD t 0) = pev w (z ((i : Nat) : Int))) (h2 : z ((rowAt F c).2.getD t 0) ≠ pev w (z ((c : Nat) : Int))) : ¬ Agr F is d n := fun h => by
  obtain ⟨g, hg, e⟩ := agr_pol hp hl (Nat.le_of_lt hd) ht h
  have nd : is.Nodup := hp.imp fun h => Nat.ne_of_lt h
  have ndz : (is.map fun (i : Nat) => z (i : Int)).Nodup := by
    have := intsN_apart hp hl
    unfold Apart intsN at this
    rw [List.map_map] at this
    exact this
  have P := Pol.sub hg ((pev_pol w).mono hw)
  have nd2 : ((is.erase c).map fun (i : Nat) => z (i : Int)).Nodup := ndz.sublist ((List.erase_sublist).map _)
  have R := Pol.roots ((is.erase c).map fun (i : Nat) => z (i : Int)) P nd2 (by rw [List.length_map, List.length_erase_of_mem hc]; omega) (fun a ha => ?_) (z (c : Int))
  · have R' : g (z (c : Int)) - pev w (z (c : Int)) = 0 := R
    refine h2 ?_
    rw [e c hc]
    grind
  · obtain ⟨i, mi, rfl⟩ := List.mem_map.mp ha
    obtain ⟨ne, mi'⟩ := (List.Nodup.mem_erase_iff nd).mp mi
    have q1 := e i mi'
    rw [h1 i mi' ne] at q1
    show g (z (i : Int)) - pev w (z (i : Int)) = 0
    grind
theorem presM_set {F : List ORow} {i : Nat} {e : Addr × List Int} (h : i ∈ presM F) : presM (F.set i (some e)) = presM F := by
  unfold presM
  rw [List.length_set]
  refine List.filter_congr fun j mj => ?_
  have lj := List.mem_range.mp mj
  by_cases q : i = j
  · subst q
    have h1 : (F.set i (some e)).getD i none = some e := getD_item (by rw [List.getElem?_set, if_pos rfl, if_pos lj])
    have h2 : F.getD i none = some (rowAt F i) := getD_item (presM_lt h).2
    rw [h1, h2]
    rfl
  · have h1 : (F.set i (some e)).getD j none = F.getD j none := by rw [List.getD_eq_getElem?_getD, List.getElem?_set, if_neg q, List.getD_eq_getElem?_getD]
    rw [h1]
def sp_agree (K : PySem.W.Frag) (a : Ad) : Sp := fun vs H Q _ => ∃ (R N : Addr) (F : List ORow) (is : List Nat) (d n : Nat), vs = [.ref R, .ref N, .int (d : Int)] ∧ RO K H R F ∧ SqL K H N ((intsN is).map V.int) ∧ is.Pairwise (· < ·) ∧ (∀ i ∈ is, i ∈ presM F) ∧ F.length ≤ 8 ∧ 1 ≤ d ∧ d ≤ is.length ∧ (∀ i ∈ is, (rowAt F i).2.length = n) ∧ n ≤ 500 ∧
  (Agr F is d n → ∀ H', Same H H' → Q (.bl true) H') ∧ (¬ Agr F is d n → ∀ H', Same H H' → Q (.bl false) H')
theorem sp_agree_len {K : PySem.W.Frag} {a : Ad} {vs : List V} {H : Hp} {Q : VK} {E : XK} (h : sp_agree K a vs H Q E) : vs.length = 3 := by
  obtain ⟨R, N, F, is, d, n, rfl, _⟩ := h
  rfl
theorem inV_ints (x : Int) : ∀ ws : List Int, inV (.int x) (ws.map V.int) = decide (x ∈ ws)
  | [] => rfl
  | w :: ws => by
    have ih := inV_ints x ws
    unfold inV at ih ⊢
    rw [List.map_cons, List.any_cons, ih]
    by_cases h : x = w
    · subst h
      simp [eqV]
    · simp [eqV, h]
      exact fun z => absurd z.symm h
/-! which pieces are wrong -/
def lessM (P S : List Nat) : List Nat := P.filter fun x => decide (x ∉ S)
theorem less_mem {P S : List Nat} {x : Nat} : x ∈ lessM P S ↔ x ∈ P ∧ x ∉ S := by
  unfold lessM
  rw [List.mem_filter]
  simp
theorem less_len {P : List Nat} (S : List Nat) (h : P.Nodup) : P.length ≤ (lessM P S).length + S.length := by
  have := List.Nodup.length_le_of_subset (l₂ := lessM P S ++ S) h fun x m => by
    by_cases q : x ∈ S
    · exact List.mem_append.mpr (.inr q)
    · exact List.mem_append.mpr (.inl (less_mem.mpr ⟨m, q⟩))
  rwa [List.length_append] at this
theorem less_pair {P S : List Nat} (h : P.Pairwise (· < ·)) : (lessM P S).Pairwise (· < ·) := List.Pairwise.filter _ h
theorem sub_filter {P : List Nat} (hn : P.Nodup) : ∀ {S : List Nat}, S.Sublist P → P.filter (fun x => decide (x ∈ S)) = S := by
  intro S h
  induction h with
  | slnil => rfl
  | @cons l1 l2 x h ih =>
    have nd := List.nodup_cons.mp hn
    rw [List.filter_cons, if_neg (fun q => nd.1 (h.subset (of_decide_eq_true q)))]
    exact ih nd.2
  | @cons_cons l1 l2 x h ih =>
    have nd := List.nodup_cons.mp hn
    rw [List.filter_cons, if_pos (decide_eq_true (List.mem_cons_self ..))]
    congr 1
    have e : l2.filter (fun y => decide (y ∈ x :: l1)) = l2.filter (fun y => decide (y ∈ l1)) := List.filter_congr fun y m => by
      have : y ≠ x := fun z => nd.1 (z ▸ m)
      simp [this]
    rw [e]
    exact ih nd.2
def Cul (F : List ORow) (d n : Nat) (S : List Nat) : Prop := S.Sublist (presM F) ∧ 2 * S.length + d ≤ (presM F).length ∧ Agr F (lessM (presM F) S) d n
def Least (F : List ORow) (d n : Nat) (S : List Nat) : Prop := Cul F d n S ∧ ∀ S', Cul F d n S' → S.length ≤ S'.length
/-- all rows of one length, of words -/
def RowsW (F : List ORow) (n : Nat) : Prop := F.length ≤ 8 ∧ ∀ i ∈ presM F, (rowAt F i).2.length = n ∧ ∀ w ∈ (rowAt F i).2, 0 ≤ w ∧ w < 65521
theorem presM_nodup (F : List ORow) : (presM F).Nodup := (presM_pair F).imp fun h => Nat.ne_of_lt h
/-- rows on polynomials agree -/
theorem agr_pols {F : List ORow} {is : List Nat} {d n : Nat} (hF : RowsW F n) (hp : is.Pairwise (· < ·)) (hin : ∀ i ∈ is, i ∈ presM F) (hd : d ≤ is.length) (h : ∀ t, t < n → ∃ g, Pol d g ∧ ∀ i ∈ is, z ((rowAt F i).2.getD t 0) = g (z ((i : Nat) : Int))) : Agr F is d n := fun i mi => by
  have tl : (is.take d).length = d := by rw [List.length_take]; omega
  have il : (intsN (is.take d)).length = d := by unfold intsN; rw [List.length_map, tl]
  have hl : ∀ i ∈ is, i < 60000 := fun i m => by have := (presM_lt (hin i m)).1; have := hF.1; omega
  have ap : Apart (intsN (is.take d)) := intsN_apart (hp.sublist (List.take_sublist d _)) fun j m => hl j (List.mem_of_mem_take m)
  have mis := List.mem_of_mem_drop mi
  obtain ⟨rl, rw'⟩ := hF.2 i (hin i mis)
  refine List.ext_getElem (by rw [rl]; simp [pieceM]) fun t h1 h2 => ?_
  have ht : t < n := by rw [rl] at h2; exact h2
  obtain ⟨g, hg, e⟩ := h t ht
  have e1 : (pieceM (intsN (is.take d)) (snds ((is.take d).map (rowAt F))) ((i : Nat) : Int) n)[t] = valM (intsN (is.take d)) ((snds ((is.take d).map (rowAt F))).map fun r => r.getD t 0) ((i : Nat) : Int) := by simp [pieceM]
  rw [e1]
  have w1 := valM_word (intsN (is.take d)) ((snds ((is.take d).map (rowAt F))).map fun r => r.getD t 0) ((i : Nat) : Int)
  have w2 := rw' _ (List.getElem_mem h2)
  refine z_inj w1.1 w1.2 w2.1 w2.2 ?_
  have g2 : (rowAt F i).2.getD t 0 = (rowAt F i).2[t] := getD_item (List.getElem?_eq_getElem h2)
  rw [← g2, e i mis]
  refine valM_pol ap (by rw [il]; exact hg) (fun j hj => ?_) _
  rw [il] at hj
  have hj' : (is.take d)[j]? = some ((is.take d)[j]'(by omega)) := List.getElem?_eq_getElem (by omega)
  generalize (is.take d)[j]'(by omega) = m at hj'
  have e3 : (intsN (is.take d)).getD j 0 = (m : Int) := getD_item (by unfold intsN; rw [List.getElem?_map, hj']; rfl)
  have e2 : ((snds ((is.take d).map (rowAt F))).map fun r => r.getD t 0).getD j 0 = (rowAt F m).2.getD t 0 := getD_item (by rw [List.getElem?_map, List.getElem?_map, List.getElem?_map, hj']; rfl)
  rw [e2, e3]
  exact e m (List.mem_of_mem_take (List.mem_of_getElem? hj'))
/-- two polynomials that meet in as many points are one -/
theorem pol_one {F : List ORow} {J : List Nat} {d : Nat} {f g : Zp → Zp} (h8 : F.length ≤ 8) (hp : J.Nodup) (hin : ∀ i ∈ J, i ∈ presM F) (hl : d ≤ J.length) (hf : Pol d f) (hg : Pol d g) (h : ∀ i ∈ J, f (z ((i : Nat) : Int)) = g (z ((i : Nat) : Int))) (x : Zp) : f x = g x := by
  have P := Pol.sub hf hg
  have nd : (J.map fun (i : Nat) => z (i : Int)).Nodup := by
    unfold List.Nodup
    rw [List.pairwise_map]
    refine List.Pairwise.imp_of_mem (fun {a b} ha hb hab e => ?_) hp
    have h1 := (presM_lt (hin _ ha)).1
    have h2 := (presM_lt (hin _ hb)).1
    have this : (a : Int) % 65521 = (b : Int) % 65521 := z_mod_eq e
    omega
  have R := Pol.roots (J.map fun (i : Nat) => z (i : Int)) P nd (by rw [List.length_map]; exact hl) (fun a ha => ?_) x
  · have R' : f x - g x = 0 := R
    grind
  · obtain ⟨i, mi, rfl⟩ := List.mem_map.mp ha
    have q := h i mi
    show f (z (i : Int)) - g (z (i : Int)) = 0
    grind
theorem cul_inter {F : List ORow} {d n : Nat} {S S' : List Nat} (hF : RowsW F n) (h : Cul F d n S) (h' : Cul F d n S') : Cul F d n (S.filter fun x => decide (x ∈ S')) := by
  obtain ⟨s1, l1, a1⟩ := h
  obtain ⟨s2, l2, a2⟩ := h'
  have nd := presM_nodup F
  have hsub : (S.filter fun x => decide (x ∈ S')).Sublist (presM F) := (List.filter_sublist ..).trans s1
  have hle : (S.filter fun x => decide (x ∈ S')).length ≤ S.length := List.length_filter_le _ _
  have k1 := less_len S nd
  have k2 := less_len S' nd
  have k3 := less_len (S.filter fun x => decide (x ∈ S')) nd
  have k4 := less_len (S ++ S') nd
  rw [List.length_append] at k4
  have hl : ∀ i ∈ presM F, i < 60000 := fun i m => by have := (presM_lt m).1; have := hF.1; omega
  refine ⟨hsub, by omega, agr_pols hF (less_pair (presM_pair F)) (fun i m => (less_mem.mp m).1) (by omega) fun t ht => ?_⟩
  obtain ⟨g, hg, e⟩ := agr_pol (less_pair (presM_pair F)) (fun i m => hl i (less_mem.mp m).1) (by omega) ht a1
  obtain ⟨g', hg', e'⟩ := agr_pol (less_pair (presM_pair F)) (fun i m => hl i (less_mem.mp m).1) (by omega) ht a2
  have same : ∀ x, g x = g' x := pol_one hF.1 ((less_pair (S := S ++ S') (presM_pair F)).imp fun h => Nat.ne_of_lt h) (fun i m => (less_mem.mp m).1) (by omega) hg hg' fun i m => by
    obtain ⟨m1, m2⟩ := less_mem.mp m
    rw [← e i (less_mem.mpr ⟨m1, fun q => m2 (List.mem_append.mpr (.inl q))⟩), ← e' i (less_mem.mpr ⟨m1, fun q => m2 (List.mem_append.mpr (.inr q))⟩)]
  refine ⟨g, hg, fun i m => ?_⟩
  obtain ⟨m1, m2⟩ := less_mem.mp m
  by_cases q : i ∈ S
  · have q' : i ∉ S' := fun z => m2 (List.mem_filter.mpr ⟨q, decide_eq_true z⟩)
    rw [same]
    exact e' i (less_mem.mpr ⟨m1, q'⟩)
  · exact e i (less_mem.mpr ⟨m1, q⟩)
/-- the least lies in every other -/
theorem least_in {F : List ORow} {d n : Nat} {S S' : List Nat} (hF : RowsW F n) (h : Least F d n S) (h' : Cul F d n S') : ∀ x ∈ S, x ∈ S' := by
  have q := h.2 _ (cul_inter hF h.1 h')
  have e : S.filter (fun x => decide (x ∈ S')) = S := (List.filter_sublist ..).eq_of_length_le q
  intro x m
  rw [← e] at m
  exact of_decide_eq_true (List.mem_filter.mp m).2
theorem least_one {F : List ORow} {d n : Nat} {S S' : List Nat} (hF : RowsW F n) (h : Least F d n S) (h' : Least F d n S') : S = S' := by
  rw [← sub_filter (presM_nodup F) h.1.1, ← sub_filter (presM_nodup F) h'.1.1]
  refine List.filter_congr fun x _ => ?_
  have : x ∈ S ↔ x ∈ S' := ⟨least_in hF h h'.1 x, least_in hF h' h.1 x⟩
  simp [this]
/-- the changed ones: the others lie on the polynomials ps, each of these is off one -/
theorem changed_cul {F : List ORow} {d : Nat} {C : List Nat} {ps : List (List Int)} (hF : RowsW F ps.length) (hps : ∀ w ∈ ps, w.length ≤ d) (hC : C.Nodup) (h2 : 2 * C.length + d ≤ (presM F).length) (hr : ∀ i ∈ presM F, i ∉ C → (rowAt F i).2 = ps.map fun w => horn w ((i : Nat) : Int)) :
    Cul F d ps.length ((presM F).filter fun x => decide (x ∈ C)) := by
  have nd := presM_nodup F
  have hl : ∀ i ∈ presM F, i < 60000 := fun i m => by have := (presM_lt m).1; have := hF.1; omega
  have lc : ((presM F).filter fun x => decide (x ∈ C)).length ≤ C.length := List.Nodup.length_le_of_subset (nd.sublist (List.filter_sublist ..)) fun x m => of_decide_eq_true (List.mem_filter.mp m).2
  have k := less_len ((presM F).filter fun x => decide (x ∈ C)) nd
  refine ⟨List.filter_sublist .., by omega, agr_of (less_pair (presM_pair F)) (fun i m => hl i (less_mem.mp m).1) (by omega) hps fun i m => ?_⟩
  obtain ⟨m1, m2⟩ := less_mem.mp m
  exact hr i m1 fun q => m2 (List.mem_filter.mpr ⟨m1, decide_eq_true q⟩)
theorem changed_least {F : List ORow} {d : Nat} {C S : List Nat} {ps : List (List Int)} (hF : RowsW F ps.length) (hps : ∀ w ∈ ps, w.length ≤ d) (hC : C.Nodup) (h2 : 2 * C.length + d ≤ (presM F).length) (hr : ∀ i ∈ presM F, i ∉ C → (rowAt F i).2 = ps.map fun w => horn w ((i : Nat) : Int))
    (hn : ∀ i ∈ C, (rowAt F i).2 ≠ ps.map fun w => horn w ((i : Nat) : Int)) (hS : Least F d ps.length S) : S = (presM F).filter fun x => decide (x ∈ C) := by
  have hc := changed_cul hF hps hC h2 hr
  have nd := presM_nodup F
  have hl : ∀ i ∈ presM F, i < 60000 := fun i m => by have := (presM_lt m).1; have := hF.1; omega
  have lc : ((presM F).filter fun x => decide (x ∈ C)).length ≤ C.length := List.Nodup.length_le_of_subset (nd.sublist (List.filter_sublist ..)) fun x m => of_decide_eq_true (List.mem_filter.mp m).2
  have ls := hS.2 _ hc
  have sin := least_in hF hS hc
  rw [← sub_filter nd hS.1.1]
  refine List.filter_congr fun x mx => ?_
  have : x ∈ S ↔ x ∈ C := by
    refine ⟨fun q => of_decide_eq_true (List.mem_filter.mp (sin x q)).2, fun q => Classical.byContradiction fun no => hn x q ?_⟩
    obtain ⟨rl, rw'⟩ := hF.2 x mx
    refine List.ext_getElem (by rw [rl, List.length_map]) fun t h1 h3 => ?_
    have ht : t < ps.length := by rw [rl] at h1; exact h1
    have k1 := less_len S nd
    have k4 := less_len (S ++ C) nd
    rw [List.length_append] at k4
    obtain ⟨g, hg, e⟩ := agr_pol (less_pair (presM_pair F)) (fun i m => hl i (less_mem.mp m).1) (by omega) ht hS.1.2.2
    have same : ∀ y, g y = pev ps[t] y := pol_one hF.1 ((less_pair (S := S ++ C) (presM_pair F)).imp fun h => Nat.ne_of_lt h) (fun i m => (less_mem.mp m).1) (by omega) hg ((pev_pol _).mono (hps _ (List.getElem_mem ht))) fun i m => by
      obtain ⟨m1, m2⟩ := less_mem.mp m
      rw [← e i (less_mem.mpr ⟨m1, fun q => m2 (List.mem_append.mpr (.inl q))⟩), hr i m1 fun q => m2 (List.mem_append.mpr (.inr q)), ← horn_z]
      congr 1
      exact getD_item (by rw [List.getElem?_map, List.getElem?_eq_getElem ht]; rfl)
    have e1 := e x (less_mem.mpr ⟨mx, no⟩)
    have g2 : (rowAt F x).2.getD t 0 = (rowAt F x).2[t] := getD_item (List.getElem?_eq_getElem h1)
    rw [g2, same, ← horn_z] at e1
    have w1 := rw' _ (List.getElem_mem h1)
    have w2 := horn_word ps[t] ((x : Nat) : Int)
    have e2 := z_inj w1.1 w1.2 w2.1 w2.2 e1
    rw [e2]
    simp
  simp [this]
/-! the choices in their order -/
open CB in
theorem cmb_sub : ∀ (P : List Nat) (k r : Nat) (c : List Nat), c ∈ cmb k P.length r → (c.map fun j => P.getD (j - k) 0).Sublist P
  | P, k, 0, c, h => by
    have e : c = [] := by cases P <;> simpa [cmb] using h
    subst e; exact List.nil_sublist _
  | [], k, r + 1, c, h => by simp [cmb] at h
  | x :: P, k, r + 1, c, h => by
    simp only [List.length_cons, cmb, List.mem_append, List.mem_map] at h
    have shift : ∀ d : List Nat, (∀ j ∈ d, k + 1 ≤ j) → (d.map fun j => (x :: P).getD (j - k) 0) = d.map fun j => P.getD (j - (k + 1)) 0 := fun d hd => List.map_congr_left fun j m => by
      have := hd j m
      have e : j - k = (j - (k + 1)) + 1 := by omega
      rw [e, List.getD_cons_succ]
    rcases h with ⟨d, hd, rfl⟩ | h
    · rw [List.map_cons, shift d fun j m => ((cmb_len _ _ _ _ hd).2 j m).1, Nat.sub_self, List.getD_cons_zero]
      exact (cmb_sub P (k + 1) r d hd).cons₂ x
    · rw [shift c fun j m => ((cmb_len _ _ _ _ h).2 j m).1]
      exact (cmb_sub P (k + 1) (r + 1) c h).cons x
open CB in
theorem sub_cmb {S P : List Nat} (h : S.Sublist P) : ∀ k, ∃ c ∈ cmb k P.length S.length, (c.map fun j => P.getD (j - k) 0) = S := by
  have shift : ∀ (x k : Nat) (P d : List Nat), (∀ j ∈ d, k + 1 ≤ j) → (d.map fun j => (x :: P).getD (j - k) 0) = d.map fun j => P.getD (j - (k + 1)) 0 := fun x k P d hd => List.map_congr_left fun j m => by
    have := hd j m
    have e : j - k = (j - (k + 1)) + 1 := by omega
    rw [e, List.getD_cons_succ]
  induction h with
  | slnil => exact fun k => ⟨[], by simp [cmb], rfl⟩
  | @cons l1 l2 x h ih =>
    intro k
    obtain ⟨c, hc, e⟩ := ih (k + 1)
    refine ⟨c, ?_, ?_⟩
    · rw [List.length_cons]
      cases q : l1.length with
      | zero =>
        rw [q] at hc
        have : c = [] := by cases l2 <;> simpa [cmb] using hc
        simp [cmb, this]
      | succ r =>
        rw [q] at hc
        simp only [cmb, List.mem_append]
        exact .inr hc
    · rw [shift x k l2 c fun j m => ((cmb_len _ _ _ _ hc).2 j m).1]
      exact e
  | @cons_cons l1 l2 x h ih =>
    intro k
    obtain ⟨c, hc, e⟩ := ih (k + 1)
    refine ⟨k :: c, ?_, ?_⟩
    · rw [List.length_cons, List.length_cons]
      simp only [cmb, List.mem_append, List.mem_map]
      exact .inl ⟨c, hc, rfl⟩
    · rw [List.map_cons, shift x k l2 c fun j m => ((cmb_len _ _ _ _ hc).2 j m).1, Nat.sub_self, List.getD_cons_zero, e]
/-! the choice that a mask tells -/
def selM : List Nat → Nat → List Nat
  | [], _ => []
  | x :: P, m => if m % 2 = 1 then x :: selM P (m / 2) else selM P (m / 2)
theorem selM_snoc (x : Nat) : ∀ (A : List Nat) (m : Nat), selM (A ++ [x]) m = selM A m ++ if m / 2 ^ A.length % 2 = 1 then [x] else []
  | [], m => by
    show (if m % 2 = 1 then x :: selM [] (m / 2) else selM [] (m / 2)) = [] ++ if m / 2 ^ 0 % 2 = 1 then [x] else []
    simp [selM]
  | y :: A, m => by
    have e : m / 2 ^ (y :: A).length = m / 2 / 2 ^ A.length := by
      rw [Nat.div_div_eq_div_mul, List.length_cons, Nat.pow_succ, Nat.mul_comm]
    rw [e, List.cons_append]
    show (if m % 2 = 1 then y :: selM (A ++ [x]) (m / 2) else selM (A ++ [x]) (m / 2)) = (if m % 2 = 1 then y :: selM A (m / 2) else selM A (m / 2)) ++ _
    rw [selM_snoc x A (m / 2)]
    split <;> simp
theorem selM_sub : ∀ (P : List Nat) (m : Nat), (selM P m).Sublist P
  | [], m => List.Sublist.slnil
  | x :: P, m => by
    show (if m % 2 = 1 then x :: selM P (m / 2) else selM P (m / 2)).Sublist _
    split
    · exact (selM_sub P _).cons₂ x
    · exact (selM_sub P _).cons x
theorem sub_selM {S P : List Nat} (h : S.Sublist P) : ∃ m, m < 2 ^ P.length ∧ selM P m = S := by
  induction h with
  | slnil => exact ⟨0, by decide, rfl⟩
  | @cons l1 l2 x h ih =>
    obtain ⟨m, hm, e⟩ := ih
    refine ⟨2 * m, by rw [List.length_cons, Nat.pow_succ]; omega, ?_⟩
    show (if 2 * m % 2 = 1 then x :: selM l2 (2 * m / 2) else selM l2 (2 * m / 2)) = _
    rw [if_neg (by omega), show 2 * m / 2 = m by omega]
    exact e
  | @cons_cons l1 l2 x h ih =>
    obtain ⟨m, hm, e⟩ := ih
    refine ⟨2 * m + 1, by rw [List.length_cons, Nat.pow_succ]; omega, ?_⟩
    show (if (2 * m + 1) % 2 = 1 then x :: selM l2 ((2 * m + 1) / 2) else selM l2 ((2 * m + 1) / 2)) = _
    rw [if_pos (by omega), show (2 * m + 1) / 2 = m by omega, e]
/-! the law's own value at a place -/
def bitsM : List Int := [1, 1, 1, 1, 1, 1, 1, 1, 1, 1, 1, 0, 1, 1, 1, 1]
def powS (n p b : Int) : Int := if b = 1 then p * p % 65521 * n % 65521 else p * p % 65521
def powM (n : Int) : Int := bitsM.foldl (powS n) 1
theorem powS_word (n p b : Int) : 0 ≤ powS n p b ∧ powS n p b < 65521 := by
  unfold powS
  split
  · exact ⟨Int.emod_nonneg _ (by decide), Int.emod_lt_of_pos _ (by decide)⟩
  · exact ⟨Int.emod_nonneg _ (by decide), Int.emod_lt_of_pos _ (by decide)⟩
theorem powF_word (n : Int) (bs : List Int) : 0 ≤ bs.foldl (powS n) 1 ∧ bs.foldl (powS n) 1 < 65521 := by
  rcases List.eq_nil_or_concat bs with h | ⟨l, x, h⟩
  · rw [h]
    exact ⟨by show (0:Int) ≤ 1; decide, by show (1:Int) < 65521; decide⟩
  · rw [h, List.concat_eq_append, List.foldl_append]
    exact powS_word _ _ _
/-- the product over the places ws but the i-th -/
def facB (ws : List Int) (i : Nat) (x : Int) (d : Nat) : Int := (List.range d).foldl (fun a j => if i = j then a else a * (x - ws.getD j 0) % 65521) 1
theorem facB_succ (ws : List Int) (i : Nat) (x : Int) (j : Nat) : facB ws i x (j + 1) = if i = j then facB ws i x j else facB ws i x j * (x - ws.getD j 0) % 65521 := by
  unfold facB
  rw [List.range_succ, List.foldl_append]
  rfl
theorem facB_word (ws : List Int) (i : Nat) (x : Int) : ∀ j, 0 ≤ facB ws i x j ∧ facB ws i x j < 65521
  | 0 => ⟨by show (0 : Int) ≤ 1; decide, by show (1 : Int) < 65521; decide⟩
  | j + 1 => by
    rw [facB_succ]
    split
    · exact facB_word ws i x j
    · exact ⟨Int.emod_nonneg _ (by decide), Int.emod_lt_of_pos _ (by decide)⟩
def facB_ok (ws : List Int) (i : Nat) : Bool :=
  (List.range 7).all (fun x => facB ws i (x : Int) ws.length == prodM (others ws i) (x : Int) 1) && facB ws i (ws.getD i 0) ws.length == prodM (others ws i) (ws.getD i 0) 1 &&
  decide (0 ≤ powM (facB ws i (ws.getD i 0) ws.length)) && decide (powM (facB ws i (ws.getD i 0) ws.length) < 65521) && facB ws i (ws.getD i 0) ws.length * powM (facB ws i (ws.getD i 0) ws.length) % 65521 == 1
theorem facB_key : (List.range 128).all (fun m => (List.range (selM (List.range 7) m).length).all fun i => facB_ok (intsN (selM (List.range 7) m)) i) = true := by decide +kernel
theorem sub_range {ws : List Nat} (hp : ws.Pairwise (· < ·)) (hl : ∀ i ∈ ws, i < 7) : ws.Sublist (List.range 7) := by
  have e : (List.range 7).filter (fun x => decide (x ∈ ws)) = ws := by
    have : ∀ (k : Nat) (ws : List Nat), ws.Pairwise (· < ·) → (∀ i ∈ ws, i < k) → (List.range k).filter (fun x => decide (x ∈ ws)) = ws := by
      intro k
      induction k with
      | zero =>
        intro ws _ h
        cases ws with
        | nil => rfl
        | cons x r => have := h x (by simp); omega
      | succ k ih =>
        intro ws hp h
        rw [List.range_succ, List.filter_append]
        by_cases q : k ∈ ws
        · obtain ⟨l, rfl⟩ : ∃ l, ws = l ++ [k] := by
            rcases List.eq_nil_or_concat ws with e | ⟨l, x, e⟩
            · subst e; cases q
            · rw [List.concat_eq_append] at e
              subst e
              have hx := h x (by simp)
              rw [List.pairwise_append] at hp
              rcases List.mem_append.mp q with m | m
              · have := hp.2.2 k m x (by simp); omega
              · rw [List.mem_singleton.mp m]; exact ⟨l, rfl⟩
          rw [List.pairwise_append] at hp
          have hk : ∀ i ∈ l, i < k := fun i m => hp.2.2 i m k (by simp)
          have e1 : (List.range k).filter (fun x => decide (x ∈ l ++ [k])) = (List.range k).filter (fun x => decide (x ∈ l)) := List.filter_congr fun x m => by
            have : x ≠ k := Nat.ne_of_lt (List.mem_range.mp m)
            simp [this]
          rw [e1, ih l hp.1 hk]
          simp
        · rw [ih ws hp fun i m => by have := h i m; have : i ≠ k := fun z => q (z ▸ m); omega]
          simp [q]
    exact this 7 ws hp hl
  rw [← e]
  exact List.filter_sublist ..
theorem facB_is {ws : List Nat} (hp : ws.Pairwise (· < ·)) (hl : ∀ i ∈ ws, i < 7) {i : Nat} (hi : i < ws.length) {x : Nat} (hx : x < 7) :
    facB (intsN ws) i (x : Int) ws.length = prodM (others (intsN ws) i) (x : Int) 1 ∧ powM (facB (intsN ws) i ((intsN ws).getD i 0) ws.length) = invP (prodM (others (intsN ws) i) ((intsN ws).getD i 0) 1) := by
  obtain ⟨m, hm, e⟩ := sub_selM (sub_range hp hl)
  have q := List.all_eq_true.1 (List.all_eq_true.1 facB_key m (List.mem_range.2 hm)) i (by rw [e]; exact List.mem_range.2 hi)
  rw [e] at q
  have il : (intsN ws).length = ws.length := by simp [intsN]
  unfold facB_ok at q
  rw [il] at q
  simp only [Bool.and_eq_true, List.all_eq_true, List.mem_range, beq_iff_eq, decide_eq_true_eq] at q
  obtain ⟨⟨⟨⟨q1, q2⟩, q3⟩, q4⟩, q5⟩ := q
  refine ⟨q1 x hx, ?_⟩
  rw [← q2]
  exact (invP_eq ⟨q3, q4, q5⟩).symm
/-- the sum so far -/
def valQ (ws ys : List Int) (x : Int) (i : Nat) : Int := (List.range i).foldl (fun a k => (a + ys.getD k 0 * facB ws k x ws.length * powM (facB ws k (ws.getD k 0) ws.length)) % 65521) 0
theorem valQ_succ (ws ys : List Int) (x : Int) (i : Nat) : valQ ws ys x (i + 1) = (valQ ws ys x i + ys.getD i 0 * facB ws i x ws.length * powM (facB ws i (ws.getD i 0) ws.length)) % 65521 := by
  unfold valQ
  rw [List.range_succ, List.foldl_append]
  rfl
theorem valQ_word (ws ys : List Int) (x : Int) : ∀ i, 0 ≤ valQ ws ys x i ∧ valQ ws ys x i < 65521
  | 0 => ⟨by show (0 : Int) ≤ 0; decide, by show (0 : Int) < 65521; decide⟩
  | i + 1 => by
    rw [valQ_succ]
    exact ⟨Int.emod_nonneg _ (by decide), Int.emod_lt_of_pos _ (by decide)⟩
theorem valQ_is {ws : List Nat} {ys : List Int} (hp : ws.Pairwise (· < ·)) (hl : ∀ i ∈ ws, i < 7) {x : Nat} (hx : x < 7) : valQ (intsN ws) ys (x : Int) ws.length = valM (intsN ws) ys (x : Int) := by
  have il : (intsN ws).length = ws.length := by simp [intsN]
  have w1 := valQ_word (intsN ws) ys (x : Int) ws.length
  have w2 := valM_word (intsN ws) ys (x : Int)
  refine z_inj w1.1 w1.2 w2.1 w2.2 ?_
  rw [valM_z, il]
  have : ∀ i, i ≤ ws.length → z (valQ (intsN ws) ys (x : Int) i) = sumR i fun i => prodZ (others (intsN ws) i) (z (x : Int)) * (z (invP (prodM (others (intsN ws) i) ((intsN ws).getD i 0) 1)) * z (ys.getD i 0)) := by
    intro i
    induction i with
    | zero => intro _; rfl
    | succ i ih =>
      intro hi
      obtain ⟨f1, f2⟩ := facB_is hp hl (show i < ws.length by omega) hx
      rw [valQ_succ, z_mod, z_add, ih (by omega), il, z_mul, z_mul, f1, f2, prodM_z, show ∀ f, sumR (i + 1) f = sumR i f + f i from fun _ => rfl]
      have : z 1 = 1 := rfl
      rw [this]
      grind
  exact this _ (Nat.le_refl _)
theorem cul_least {F : List ORow} {d n : Nat} {S : List Nat} (h : Cul F d n S) : ∃ S', Least F d n S' := by
  have : ∀ (m : Nat) (S : List Nat), S.length ≤ m → Cul F d n S → ∃ S', Least F d n S' := by
    intro m
    induction m with
    | zero => exact fun S l c => ⟨S, c, fun S' _ => by omega⟩
    | succ m ih =>
      intro S l c
      by_cases q : ∃ S', Cul F d n S' ∧ S'.length < S.length
      · obtain ⟨S', c', l'⟩ := q
        exact ih S' (by omega) c'
      · refine ⟨S, c, fun S' c' => Classical.byContradiction fun y => q ⟨S', c', by omega⟩⟩
  exact this _ S (Nat.le_refl _) h
/-- what was found -/
def FoundM (F : List ORow) (d n : Nat) (H : Hp) (x : V) : Prop := (x = .non ∧ ∀ S, ¬ Cul F d n S) ∨ ∃ (S : List Nat) (D : Addr), x = .ref D ∧ Least F d n S ∧ H D = some (.lst ((intsN S).map V.int))
theorem FoundM.same {F : List ORow} {d n : Nat} {H H' : Hp} {x : V} (h : FoundM F d n H x) (s : Same H H') : FoundM F d n H' x := by
  rcases h with h | ⟨S, D, h1, h2, h3⟩
  · exact .inl h
  · exact .inr ⟨S, D, h1, h2, s _ _ h3⟩
theorem sorted_one {xs ys : List Int} (p : xs.Perm ys) (h1 : xs.Pairwise (· ≤ ·)) (h2 : ys.Pairwise (· ≤ ·)) : xs = ys :=
  List.Perm.eq_of_pairwise (le := (· ≤ ·)) (fun _ _ _ _ h1 h2 => Int.le_antisymm h1 h2) h1 h2 p
theorem perm_mem {xs ys : List Nat} (h1 : xs.Nodup) (h2 : ys.Nodup) (h : ∀ a, a ∈ xs ↔ a ∈ ys) : xs.Perm ys := by
  rw [List.perm_iff_count]
  intro a
  rw [h1.count, h2.count]
  by_cases q : a ∈ xs
  · rw [if_pos q, if_pos ((h a).1 q)]
  · rw [if_neg q, if_neg fun z => q ((h a).2 z)]
/-- the changed ones in order -/
theorem changed_sorted {F : List ORow} {C S : List Nat} {ns : List Int} (e : S = (presM F).filter fun x => decide (x ∈ C)) (hC : C.Nodup) (hin : ∀ x ∈ C, x ∈ presM F) (p : ns.Perm (intsN C)) (h : ns.Pairwise (· ≤ ·)) : intsN S = ns := by
  subst e
  refine sorted_one (List.Perm.trans ?_ p.symm) ?_ h
  · exact List.Perm.map _ (perm_mem ((presM_nodup F).sublist (List.filter_sublist ..)) hC fun a => by
      rw [List.mem_filter]
      simp only [decide_eq_true_eq]
      exact ⟨fun q => q.2, fun q => ⟨hin a q, q⟩⟩)
  · unfold intsN
    rw [List.pairwise_map]
    exact ((presM_pair F).sublist (List.filter_sublist ..)).imp fun h => by omega
/-! promises -/
def sp_wrong_pieces (K : PySem.W.Frag) (a : Ad) : Sp := fun vs H Q E => ∃ (R : Addr) (F : List ORow) (d n : Nat), vs = [.ref R, .int (d : Int)] ∧ RO K H R F ∧ RowsW F n ∧ n ≤ 500 ∧ 1 ≤ d ∧ d ≤ F.length ∧
  ((∀ S, ¬ Cul F d n S) → ∀ H', Same H H' → E (.ref a.c_NotEnoughPieces) none H') ∧
  (∀ (S : List Nat) (D : Addr) (H' : Hp), Least F d n S → Same H H' → H D = none → H' D = some (.lst ((intsN S).map V.int)) → Q (.ref D) H')
theorem sp_wrong_pieces_len {K : PySem.W.Frag} {a : Ad} {vs : List V} {H : Hp} {Q : VK} {E : XK} (h : sp_wrong_pieces K a vs H Q E) : vs.length = 2 := by
  obtain ⟨R, F, d, n, rfl, _⟩ := h
  rfl
def sp_law_answer (K : PySem.W.Frag) (a : Ad) : Sp := fun vs H Q _ => ∃ (R : Addr) (F : List ORow) (d n : Nat), vs = [.ref R, .int (d : Int)] ∧ RO K H R F ∧ RowsW F n ∧ n ≤ 500 ∧ 1 ≤ d ∧ d ≤ F.length ∧
  ∀ (v : V) (H' : Hp), Same H H' → FoundM F d n H' v → Q v H'
theorem sp_law_answer_len {K : PySem.W.Frag} {a : Ad} {vs : List V} {H : Hp} {Q : VK} {E : XK} (h : sp_law_answer K a vs H Q E) : vs.length = 2 := by
  obtain ⟨R, F, d, n, rfl, _⟩ := h
  rfl
def sp_law_value (K : PySem.W.Frag) (a : Ad) : Sp := fun vs H Q _ => ∃ (W Y : Addr) (ws : List Nat) (ys : List Int) (x : Nat), vs = [.ref W, .ref Y, .int (x : Int)] ∧ SqL K H W ((intsN ws).map V.int) ∧ SqL K H Y (ys.map V.int) ∧ ws.Pairwise (· < ·) ∧ (∀ i ∈ ws, i < 7) ∧ ys.length = ws.length ∧ x < 7 ∧
  (∀ y ∈ ys, 0 ≤ y ∧ y < 65521) ∧ ∀ H', Same H H' → Q (.int (valM (intsN ws) ys (x : Int))) H'
theorem sp_law_value_len {K : PySem.W.Frag} {a : Ad} {vs : List V} {H : Hp} {Q : VK} {E : XK} (h : sp_law_value K a vs H Q E) : vs.length = 3 := by
  obtain ⟨W, Y, ws, ys, x, rfl, _⟩ := h
  rfl
def sp_law_fits (K : PySem.W.Frag) (a : Ad) : Sp := fun vs H Q _ => ∃ (R N : Addr) (F : List ORow) (is : List Nat) (d n : Nat), vs = [.ref R, .ref N, .int (d : Int), .int (n : Int)] ∧ RO K H R F ∧ RowsW F n ∧ F.length ≤ 7 ∧ n ≤ 500 ∧ SqL K H N ((intsN is).map V.int) ∧ is.Pairwise (· < ·) ∧ (∀ i ∈ is, i ∈ presM F) ∧ 1 ≤ d ∧ d ≤ is.length ∧
  (Agr F is d n → ∀ H', Same H H' → Q (.bl true) H') ∧ (¬ Agr F is d n → ∀ H', Same H H' → Q (.bl false) H')
theorem sp_law_fits_len {K : PySem.W.Frag} {a : Ad} {vs : List V} {H : Hp} {Q : VK} {E : XK} (h : sp_law_fits K a vs H Q E) : vs.length = 4 := by
  obtain ⟨R, N, F, is, d, n, rfl, _⟩ := h
  rfl
def sp_law_due (K : PySem.W.Frag) (a : Ad) : Sp := fun vs H Q _ => ∃ (R L : Addr) (F : List ORow) (d n : Nat), vs = [.ref R, .ref L, .int (d : Int), .int (n : Int)] ∧ RO K H R F ∧ RowsW F n ∧ F.length ≤ 7 ∧ n ≤ 500 ∧ SqL K H L ((intsN (presM F)).map V.int) ∧ 1 ≤ d ∧ d ≤ (presM F).length ∧
  ∀ (v : V) (H' : Hp), Same H H' → FoundM F d n H' v → Q v H'
theorem sp_law_due_len {K : PySem.W.Frag} {a : Ad} {vs : List V} {H : Hp} {Q : VK} {E : XK} (h : sp_law_due K a vs H Q E) : vs.length = 4 := by
  obtain ⟨R, L, F, d, n, rfl, _⟩ := h
  rfl
theorem rowsW_len {F : List ORow} {n : Nat} (h : RowsW F n) : ∀ e, some e ∈ F → e.2.length = n := fun e m => by
  obtain ⟨i, hi⟩ := List.mem_iff_getElem?.mp m
  have mi : i ∈ presM F := presM_iff.mpr ⟨e, hi⟩
  have := (h.2 i mi).1
  rwa [rowAt_of hi] at this
theorem intsN_len (is : List Nat) : (intsN is).length = is.length := by simp [intsN]
theorem intsN_mem {S : List Nat} {m : Nat} : ((m : Nat) : Int) ∈ intsN S ↔ m ∈ S := by
  unfold intsN
  rw [List.mem_map]
  constructor
  · rintro ⟨x, hx, e⟩
    have : x = m := by omega
    rwa [← this]
  · exact fun h => ⟨m, h, rfl⟩
theorem inV_less (m : Nat) (S : List Nat) : (if true = true then !inV (.int (m : Int)) ((intsN S).map V.int) else inV (.int (m : Int)) ((intsN S).map V.int)) = decide (m ∉ S) := by
  rw [inV_ints]
  by_cases q : m ∈ S
  · simp [intsN_mem, q]
  · simp [intsN_mem, q]
theorem less_take {P S : List Nat} {i m : Nat} (h : P[i]? = some m) : lessM (P.take (i + 1)) S = lessM (P.take i) S ++ if m ∉ S then [m] else [] := by
  unfold lessM
  rw [take_snoc h, List.filter_append]
  congr 1
  simp only [List.filter_cons, List.filter_nil, decide_eq_true_eq]
theorem flat_intsN (S : List Nat) : ((intsN S).map V.int).all flatV = true := by
  rw [List.all_eq_true]
  intro x m
  obtain ⟨c, _, rfl⟩ := List.mem_map.mp m
  rfl
theorem intsN_item {S : List Nat} {i : Nat} {y : V} (h : ((intsN S).map V.int)[i]? = some y) : ∃ m : Nat, S[i]? = some m ∧ y = .int (m : Int) := by
  unfold intsN at h
  rw [List.getElem?_map, List.getElem?_map] at h
  cases q : S[i]? with
  | none => rw [q] at h; cases h
  | some m => rw [q] at h; exact ⟨m, rfl, (Option.some.inj h).symm⟩
theorem pick_ints {P : List Nat} {c : List Nat} (h : ∀ k ∈ c, k < P.length) : (c.map fun k => ((intsN P).map V.int).getD k .non) = (intsN (c.map fun j => P.getD (j - 0) 0)).map V.int := by
  unfold intsN
  rw [List.map_map (l := c), List.map_map (l := c)]
  refine List.map_congr_left fun k m => ?_
  have hk := h k m
  rw [List.getD_eq_getElem?_getD, List.getElem?_map, List.getElem?_map, List.getElem?_eq_getElem hk]
  show V.int _ = V.int ((P.getD (k - 0) 0 : Nat) : Int)
  rw [Nat.sub_zero, List.getD_eq_getElem?_getD, List.getElem?_eq_getElem hk]
  rfl
/-- the best of the masks below m -/
def BestM (F : List ORow) (d n : Nat) (H H' : Hp) (m : Nat) (b : V) : Prop := (b = .non ∧ ∀ m', m' < m → m' < 2 ^ (presM F).length → ¬ Cul F d n (selM (presM F) m')) ∨
  ∃ (B : Addr) (S : List Nat), b = .ref B ∧ H B = none ∧ H' B = some (.lst ((intsN S).map V.int)) ∧ Cul F d n S ∧ ∀ m', m' < m → m' < 2 ^ (presM F).length → Cul F d n (selM (presM F) m') → S.length ≤ (selM (presM F) m').length
theorem BestM.same {F : List ORow} {d n m : Nat} {H H' H2 : Hp} {b : V} (h : BestM F d n H H' m b) (s : Same H' H2) : BestM F d n H H2 m b := by
  rcases h with h | ⟨B, S, h1, h2, h3, h4⟩
  · exact .inl h
  · exact .inr ⟨B, S, h1, h2, s _ _ h3, h4⟩
/-- the mask m tells no better one -/
theorem BestM.keep {F : List ORow} {d n m : Nat} {H H' : Hp} {b : V} (h : BestM F d n H H' m b) (hm : m < 2 ^ (presM F).length → Cul F d n (selM (presM F) m) → ∃ (B : Addr) (S : List Nat), b = .ref B ∧ H' B = some (.lst ((intsN S).map V.int)) ∧ S.length ≤ (selM (presM F) m).length) : BestM F d n H H' (m + 1) b := by
  rcases h with ⟨h1, h2⟩ | ⟨B, S, h1, h2, h3, h4, h5⟩
  · refine .inl ⟨h1, fun m' l1 l2 c => ?_⟩
    by_cases q : m' = m
    · subst q
      obtain ⟨B, S, e, _⟩ := hm l2 c
      rw [h1] at e
      cases e
    · exact h2 m' (by omega) l2 c
  · refine .inr ⟨B, S, h1, h2, h3, h4, fun m' l1 l2 c => ?_⟩
    by_cases q : m' = m
    · subst q
      obtain ⟨B', S', e, e2, e3⟩ := hm l2 c
      rw [h1] at e
      cases e
      rw [h3] at e2
      have e4 := congrArg List.length (HO.lst.inj (Option.some.inj e2))
      rw [List.length_map, List.length_map, intsN_len, intsN_len] at e4
      omega
    · exact h5 m' (by omega) l2 c
def pows (k : Nat) : List Int := (List.range k).map fun i => (2 : Int) ^ i
theorem pows_get {k i : Nat} (h : i < k) : ((pows k).map V.int)[i]? = some (.int ((2 : Int) ^ i)) := by
  unfold pows
  rw [List.getElem?_map, List.getElem?_map, List.getElem?_range h]
  rfl
theorem bit_eq (m k : Nat) : ((m : Int) / (2 : Int) ^ k % 2 = 1) ↔ m / 2 ^ k % 2 = 1 := by
  have : (m : Int) / (2 : Int) ^ k % 2 = ((m / 2 ^ k % 2 : Nat) : Int) := by
    rw [Int.natCast_emod, Int.natCast_ediv, Int.natCast_pow]
    rfl
  rw [this]
  omega
/-- the pieces at R while they are changed: B is the heap at the start, X tells other places that may change -/
structure In (p l R : Addr) (X : Addr → Prop) (B H' : Hp) (FO : List ORow) : Prop where
  pot : Pot H' p l
  offp : p ≠ R
  offl : l ≠ R
  keep : ∀ b o, B b = some o → b ≠ p → b ≠ R → ¬ X b → H' b = some o
  dR : H' R = some (.lst (refsO FO))
  rows : ∀ e, some e ∈ FO → H' e.1 = some (.lst (e.2.map V.int)) ∧ e.1 ≠ R ∧ ¬ X e.1
section
variable {p l R : Addr} {X : Addr → Prop} {B H1 H2 : Hp} {FO : List ORow}
theorem In.draw (i : In p l R X B H1 FO) (P : Pot H2 p l) (o : Only p H1 H2) : In p l R X B H2 FO :=
  ⟨P, i.offp, i.offl, fun b u e n1 n2 n3 => by rw [o b n1]; exact i.keep b u e n1 n2 n3, by rw [o _ i.offp.symm]; exact i.dR, fun e m => by
    obtain ⟨h1, h2, h3⟩ := i.rows e m
    exact ⟨by rw [o _ (i.pot.noList h1 fun _ _ _ => ints_pot)]; exact h1, h2, h3⟩⟩
theorem In.same (i : In p l R X B H1 FO) (s : Same H1 H2) : In p l R X B H2 FO :=
  ⟨i.pot.same s, i.offp, i.offl, fun b u e n1 n2 n3 => s _ _ (i.keep b u e n1 n2 n3), s _ _ i.dR, fun e m => by
    obtain ⟨h1, h2, h3⟩ := i.rows e m
    exact ⟨s _ _ h1, h2, h3⟩⟩
theorem In.setR (i : In p l R X B H1 FO) {FO' : List ORow} (h : ∀ e, some e ∈ FO' → H1 e.1 = some (.lst (e.2.map V.int)) ∧ e.1 ≠ R ∧ ¬ X e.1) : In p l R X B (upd H1 R (.lst (refsO FO'))) FO' :=
  ⟨i.pot.only Only.upd i.offp i.offl, i.offp, i.offl, fun b u e n1 n2 n3 => by rw [upd_ne n2]; exact i.keep b u e n1 n2 n3, upd_same, fun e m => by
    obtain ⟨h1, h2, h3⟩ := h e m
    exact ⟨by rw [upd_ne h2]; exact h1, h2, h3⟩⟩
theorem In.putX (i : In p l R X B H1 FO) {c : Addr} {o : HO} (hx : X c) (c1 : p ≠ c) (c2 : l ≠ c) (c3 : R ≠ c) : In p l R X B (upd H1 c o) FO :=
  ⟨i.pot.only Only.upd c1 c2, i.offp, i.offl, fun b u e n1 n2 n3 => by rw [upd_ne (fun z => n3 (by rw [z]; exact hx))]; exact i.keep b u e n1 n2 n3, by rw [upd_ne c3]; exact i.dR, fun e m => by
    obtain ⟨h1, h2, h3⟩ := i.rows e m
    exact ⟨by rw [upd_ne (fun z => h3 (by rw [z]; exact hx))]; exact h1, h2, h3⟩⟩
theorem In.putN (i : In p l R X B H1 FO) {c : Addr} {o : HO} (hB : B c = none) (hr : ∀ e, some e ∈ FO → e.1 ≠ c) (c1 : p ≠ c) (c2 : l ≠ c) (c3 : R ≠ c) : In p l R X B (upd H1 c o) FO :=
  ⟨i.pot.only Only.upd c1 c2, i.offp, i.offl, fun b u e n1 n2 n3 => by rw [upd_ne (ne_of_none e hB)]; exact i.keep b u e n1 n2 n3, by rw [upd_ne c3]; exact i.dR, fun e m => by
    obtain ⟨h1, h2, h3⟩ := i.rows e m
    exact ⟨by rw [upd_ne (hr e m)]; exact h1, h2, h3⟩⟩
end
/-- what is known of the pieces: C are the changed ones -/
structure Rm (cn n : Nat) (ps : List (List Int)) (P0 C : List Nat) (FO : List ORow) : Prop where
  len : FO.length = cn
  pres : presM FO = P0
  row : ∀ i ∈ P0, (rowAt FO i).2.length = n ∧ ∀ w ∈ (rowAt FO i).2, 0 ≤ w ∧ w < 65521
  good : ∀ i ∈ P0, i ∉ C → (rowAt FO i).2 = ps.map fun w => horn w ((i : Nat) : Int)
  nd : C.Nodup
  bad : ∀ i ∈ C, i ∈ P0 ∧ (rowAt FO i).2 ≠ ps.map fun w => horn w ((i : Nat) : Int)
theorem rowAt_set {F : List ORow} {i j : Nat} {e : Addr × List Int} (h : i < F.length) : rowAt (F.set i (some e)) j = if j = i then e else rowAt F j := by
  by_cases q : j = i
  · subst q
    rw [if_pos rfl]
    exact rowAt_of (by rw [List.getElem?_set, if_pos rfl, if_pos h])
  · rw [if_neg q]
    unfold rowAt
    rw [List.getD_eq_getElem?_getD, List.getElem?_set, if_neg (fun z => q z.symm), List.getD_eq_getElem?_getD]
/-- one piece is set: it counts as changed when it differs -/
theorem Rm.set {cn n c : Nat} {ps : List (List Int)} {P0 C C' : List Nat} {FO : List ORow} {e : Addr × List Int} (m : Rm cn n ps P0 C FO) (hc : c ∈ P0) (nc : c ∉ C) (hl : e.2.length = n) (hw : ∀ w ∈ e.2, 0 ≤ w ∧ w < 65521)
    (hC : if e.2 = (rowAt FO c).2 then C' = C else C' = C ++ [c]) : Rm cn n ps P0 C' (FO.set c (some e)) := by
  have lc : c < FO.length := (presM_lt (F := FO) (m.pres.symm ▸ hc)).1
  have hg := m.good c hc nc
  refine ⟨by rw [List.length_set]; exact m.len, by rw [presM_set (m.pres.symm ▸ hc)]; exact m.pres, fun i hi => ?_, fun i hi ni => ?_, ?_, fun i hi => ?_⟩
  · rw [rowAt_set lc]
    split
    · exact ⟨hl, hw⟩
    · exact m.row i hi
  · rw [rowAt_set lc]
    split at hC
    · next q =>
      subst hC
      split
      · next z => rw [z, q]; exact hg
      · exact m.good i hi ni
    · next q =>
      subst hC
      have n1 : i ≠ c := fun z => ni (List.mem_append.mpr (.inr (by simp [z])))
      rw [if_neg n1]
      exact m.good i hi fun z => ni (List.mem_append.mpr (.inl z))
  · split at hC
    · subst hC; exact m.nd
    · subst hC
      rw [List.nodup_append]
      exact ⟨m.nd, by simp, fun x hx y hy z => by simp at hy; subst hy; subst z; exact nc hx⟩
  · rw [rowAt_set lc]
    split at hC
    · subst hC
      have n1 : i ≠ c := fun z => nc (z ▸ hi)
      rw [if_neg n1]
      exact m.bad i hi
    · next q =>
      subst hC
      rcases List.mem_append.mp hi with h | h
      · have n1 : i ≠ c := fun z => nc (z ▸ h)
        rw [if_neg n1]
        exact m.bad i h
      · have n1 : i = c := by simpa using h
        rw [if_pos n1, n1]
        exact ⟨hc, by rw [← hg]; exact q⟩
theorem inV_in (m : Nat) (S : List Nat) : (if false = true then !inV (.int (m : Int)) ((intsN S).map V.int) else inV (.int (m : Int)) ((intsN S).map V.int)) = decide (m ∈ S) := by
  rw [inV_ints]
  by_cases q : m ∈ S
  · simp [intsN_mem, q]
  · simp [intsN_mem, q]
theorem In.none {p l R c : Addr} {X : Addr → Prop} {B H1 : Hp} {FO : List ORow} (i : In p l R X B H1 FO) (h : H1 c = none) (nx : ¬ X c) : B c = none := by
  cases e : B c with
  | none => rfl
  | some o =>
    have := i.keep c o e (i.pot.off h).1.symm (ne_of_none i.dR h).symm nx
    rw [h] at this
    cases this
section
variable {P : Program} {w : World} {K : PySem.W.Frag} {mg : Str → Option Value} {base : Heap} {a : Ad}
theorem sc_inverse : FnScope ["a", "number", "next_number", "factor", "next_factor", "quotient"] ["a"] (defScope s_inverse) := ⟨rfl, rfl, rfl, by decide +kernel, rfl, by decide +kernel, by decide +kernel⟩
theorem ok_inverse (T : Txt K mg a) : FnOk P w K mg base (L2.CX P w) 1 a.f_inverse a.d_inverse ["a"] (sp_inverse K a) := by
  refine T.F_inverse.okX sc_inverse (fun vs H Q E h => ?len) (fun cdv A outer s H vs Q E hr h => ?body)
  case len =>
    exact sp_inverse_len h
  case body =>
    obtain ⟨x, rfl, kE, kQ⟩ := h
    refine ⟨_, (pss_cons (ps_par (i := 1) (j := 2) (by rfl) sc_inverse.nd rfl rfl (by decide) rfl rfl (pa_cons (pe_const T.g_PRIME) (pa_cons (pe_op op_mod (pv 0) (pe_const T.g_PRIME)) pa_nil)) (by rfl))
      (pss_cons (ps_asg (pe_tup (pa_cons pe_int (pa_cons pe_int pa_nil))) (pg_tup rfl (pgs_cons (pg_name (i := 3) sc_inverse.nd rfl (Or.inl rfl)) (pgs_cons (pg_name (i := 4) sc_inverse.nd rfl (Or.inl rfl)) pgs_nil))))
      (pss_cons (ps_if (pt_cmpR op_eq (pv 2) pe_int (nomark _))
      (pss_one (ps_raise rfl (takes_of rfl rfl rfl rfl) (pmk_own PySem.F.excBase_ValueError T.x_InvalidArgument T.g_InvalidArgument T.k_InvalidArgument (raises_own T.b_InvalidArgument T.t_InvalidArgument) (by exact rfl))))
      pss_nil)
      (pss_cons (ps_while (passes_of rfl) (pt_cmpR op_ne (pv 2) pe_int (nomark _))
      (pss_cons (ps_set (i := 5) sc_inverse.nd rfl (Or.inl rfl) (pe_op op_fdiv (pv 1) (pv 2)))
      (pss_cons (ps_par (i := 1) (j := 2) (by rfl) sc_inverse.nd rfl rfl (by decide) rfl rfl (pa_cons (pv 2) (pa_cons (pe_op op_sub (pv 1) (pe_op op_mul (pv 5) (pv 2))) pa_nil)) (by rfl))
      (pss_one (ps_par (i := 3) (j := 4) (by rfl) sc_inverse.nd rfl rfl (by decide) rfl rfl (pa_cons (pv 4) (pa_cons (pe_op op_sub (pv 3) (pe_op op_mul (pv 5) (pv 4))) pa_nil)) (by rfl))))))
      (pss_one (ps_ret (pe_op op_mod (pv 3) (pe_const T.g_PRIME)))))))), ?_⟩
    have p1 := Int.emod_nonneg x (show (65521 : Int) ≠ 0 by decide)
    have p2 := Int.emod_lt_of_pos x (show (0 : Int) < 65521 by decide)
    refine ⟨_, rfl, _, _, rfl, rfl, (by show (0 : Int) < 65521; decide), _, _, rfl, (by show 2 ≤ sizeLine; decide), fun t ht => ?_⟩
    have sm : Same H (upd H t (.tup [V.int 0, V.int 1])) := fun b o z => by rw [upd_ne (ne_of_none z ht)]; exact z
    refine ⟨t, _, rfl, SqT.of upd_same, rfl, _, _, rfl, _, _, rfl, rfl, ?_⟩
    refine ⟨_, rfl, rfl, _, rfl, ?_⟩
    refine ite2 (fun e => ?_) (fun e => ?_)
    · have e0 : x % 65521 = 0 := V.int.inj (of_decide_eq_true e)
      exact kE e0 _ sm
    · have e0 : x % 65521 ≠ 0 := fun z => e (decide_eq_true (congrArg V.int z))
      refine ⟨fun m σ H' => ∃ (n r f g : Int) (u : Option V), σ = [some (.int x), some (.int n), some (.int r), some (.int f), some (.int g), u] ∧ Same H H' ∧ m = r.toNat ∧ 0 ≤ r ∧ r < n ∧ n ≤ 65521 ∧ (x * f - n) % 65521 = 0 ∧ (x * g - r) % 65521 = 0 ∧ Int.gcd n r = 1,
        ⟨_, _, _, _, _, _, rfl, sm, rfl, p1, p2, Int.le_refl _, by omega, by omega, gcd_q x e0⟩, ?_⟩
      rintro m σ H' ⟨n, r, f, g, u, rfl, sm', rfl, r0, rn, nq, h1, h2, hg⟩
      refine ⟨_, rfl, rfl, _, rfl, ?_⟩
      refine ite2 (fun er => ?_) (fun er => ?_)
      · have r1 : r ≠ 0 := fun z => by subst z; simp at er
        have rp : 0 < r := by omega
        have d0 : 0 ≤ n / r := Int.ediv_nonneg (by omega) r0
        have d1 : n / r ≤ 65521 := by
          have := Int.ediv_le_self r (show 0 ≤ n by omega)
          omega
        have rr : n - n / r * r = n % r := by
          have := Int.mul_ediv_add_emod n r
          rw [Int.mul_comm] at this
          omega
        have q1 := Int.emod_nonneg n r1
        have q2 := Int.emod_lt_of_pos n rp
        refine ⟨fun σ' H'' => ∃ m', m' < r.toNat ∧ _, fun _ _ z => z, ?_⟩
        refine ⟨_, rfl, _, rfl, _, _, rfl, rfl, ⟨rp, by omega⟩, ?_⟩
        refine ⟨_, rfl, _, rfl, _, rfl, _, rfl, _, _, rfl, rfl, .inl ⟨by omega, by omega⟩, _, _, rfl, rfl, _, _, rfl, ?_⟩
        refine ⟨_, rfl, _, rfl, _, rfl, _, rfl, _, _, rfl, rfl, .inl ⟨by omega, by omega⟩, _, _, rfl, rfl, _, _, rfl, ?_⟩
        exact ⟨(n - n / r * r).toNat, by omega, r, n - n / r * r, g, f - n / r * g, _, rfl, sm', rfl, by omega, by omega, by omega, h2, euclid_turn h1 h2, gcd_turn hg⟩
      · have r1 : r = 0 := by
          have := Classical.not_not.mp (fun z => er (by rw [decide_eq_false z]; rfl))
          exact V.int.inj this
        subst r1
        have n1 : n = 1 := by
          rw [Int.gcd_zero_right] at hg
          omega
        subst n1
        have z := invP_eq (euclid_end h1)
        refine ⟨_, rfl, _, _, rfl, rfl, (by show (0 : Int) < 65521; decide), ?_⟩
        show Q (.int (f % 65521)) H'
        rw [← z]
        exact kQ e0 _ sm'
theorem sc_check_lengths : FnScope ["pieces", "piece"] ["pieces"] (defScope s_check_lengths) := ⟨rfl, rfl, rfl, by decide +kernel, rfl, by decide +kernel, by decide +kernel⟩
theorem ok_check_lengths (T : Txt K mg a) : FnOk P w K mg base (L2.CX P w) 1 a.f_check_lengths a.d_check_lengths ["pieces"] (sp_check_lengths K a) := by
  refine T.F_check_lengths.okX sc_check_lengths (fun vs H Q E h => ?len) (fun cdv A outer s H vs Q E hr h => ?body)
  case len =>
    exact sp_check_lengths_len h
  case body =>
    obtain ⟨R, F, rfl, hR, kE, kQ⟩ := h
    refine ⟨_, (pss_one (ps_for (passes_of rfl) rfl (pi_list (pv 0)) (pg_name (i := 1) sc_check_lengths.nd rfl (Or.inl rfl))
      (pss_one (ps_if (pt_cmpR op_ne (pe_callB call_len_seq (by rfl) T.n_len PySem.boot_len (pa_cons (pv 1) pa_nil)) (pe_callB call_len_seq (by rfl) T.n_len PySem.boot_len (pa_cons (pe_ix ix_list (pv 0) pe_int (fun _ _ => rfl)) pa_nil)) (nomark _))
      (pss_one (ps_raise rfl (takes_of rfl rfl rfl rfl) (pmk_own PySem.F.excBase_ValueError T.x_InvalidArgument T.g_InvalidArgument T.k_InvalidArgument (raises_own T.b_InvalidArgument T.t_InvalidArgument) (by exact rfl))))
      pss_nil)))), ?_⟩
    refine ⟨_, rfl, R, rfl, ⟨_, hR.1⟩, for_list (K := K) (a := R) (xs := refs F) (fun i σ H' => ∃ v : Option V, σ = [some (.ref R), v] ∧ H' = H ∧ ∀ (j : Nat) (e : Addr × List Int), j < i → F[j]? = some e → e.2.length = ((snds F).getD 0 []).length)
      ⟨none, rfl, rfl, fun j e h => absurd h (by omega)⟩ (fun i σ H' _ ⟨_, _, e, _⟩ => by rw [e]; exact hR.1) ?_ ?_⟩
    · rintro i y σ H' hi ⟨v, rfl, rfl, hq⟩
      obtain ⟨e, he, rfl⟩ := refs_item hi
      have em := List.mem_of_getElem? he
      have lt0 : 0 < F.length := by have := item_lt he; omega
      have h0 : F[0]? = some F[0] := List.getElem?_eq_getElem lt0
      have m0 := List.mem_of_getElem? h0
      have g0 : ((snds F).getD 0 []) = F[0].2 := snds_get h0
      refine ⟨_, rfl, e.1, _, rfl, .inl (hR.2 e em), _, rfl, R, _, _, _, rfl, rfl, hR.1, at_of (j := 0) rfl (refs_get h0), F[0].1, _, rfl, .inl (hR.2 _ m0), rfl, _, rfl, ?_⟩
      rw [List.length_map, List.length_map]
      refine ite2 (fun q => ?_) (fun q => ?_)
      · refine kE ⟨e.2, List.mem_map.mpr ⟨e, em, rfl⟩, fun q' => ?_⟩ _ (Same.refl _)
        rw [g0] at q'
        rw [q'] at q
        simp at q
      · refine ⟨some (V.ref e.1), rfl, rfl, fun j e' hj hj' => ?_⟩
        by_cases c : j = i
        · subst c
          rw [he] at hj'
          have := Option.some.inj hj'
          subst this
          rw [g0]
          refine Classical.byContradiction fun ne => q ?_
          rw [decide_eq_false (fun z' => ne (by have := V.int.inj z'; omega))]
          rfl
        · exact hq j e' (by omega) hj'
    · rintro σ H' ⟨v, rfl, rfl, hq⟩
      rw [refs_len] at hq
      refine kQ (fun ⟨r, m, ne⟩ => ne ?_) _ (Same.refl _)
      obtain ⟨e, me, rfl⟩ := List.mem_map.mp m
      obtain ⟨j, hj⟩ := List.mem_iff_getElem?.mp me
      exact hq j e (item_lt hj) hj
theorem sc_law_pot : FnScope ["script", "seed", "cell"] ["script"] (defScope s_law_pot) := ⟨rfl, rfl, rfl, by decide +kernel, rfl, by decide +kernel, by decide +kernel⟩
theorem ok_law_pot (T : Txt K mg a) : FnOk P w K mg base CX0 1 a.f_law_pot a.d_law_pot ["script"] (sp_law_pot K a) := by
  refine T.F_law_pot.ok sc_law_pot (fun vs H Q E h => ?len) (fun cdv A outer s H vs Q E hr h => ?body)
  case len =>
    exact sp_law_pot_len h
  case body =>
    obtain ⟨s, ns, rfl, hS, hlen, k⟩ := h
    refine ⟨_, (pss_cons (ps_set (i := 1) sc_law_pot.nd rfl (Or.inl rfl) pe_int)
      (pss_cons (ps_for PassesOwn.never rfl (pi_list (pv 0)) (pg_name (i := 2) sc_law_pot.nd rfl (Or.inl rfl))
      (pss_one (ps_set (i := 1) sc_law_pot.nd rfl (Or.inl rfl) (pe_op op_mod (pe_callTy call_int1 (by rfl) T.n_int (by decide +kernel) (pa_cons (pe_op op_add (pe_op op_mul (pv 1) pe_int) (pv 2)) pa_nil)) pe_int))))
      (pss_one (ps_ret (pe_lst (pa_cons (pe_callTy call_list_of (by rfl) T.n_list (by decide +kernel) (pa_cons (pv 0) pa_nil)) (pa_cons pe_int (pa_cons pe_int (pa_cons (pv 1) pa_nil))))))))), ?_⟩
    refine ⟨_, rfl, s, rfl, ⟨_, hS⟩, for_list (K := K) (a := s) (xs := ns.map V.int) (fun i σ H' => ∃ (z : Int) (v : Option V), σ = [some (.ref s), some (.int z), v] ∧ 0 ≤ z ∧ z < 2147483647 ∧ H' = H)
      ⟨1, none, rfl, by decide, by decide, rfl⟩ (fun i σ H' _ ⟨_, _, _, _, _, e⟩ => by rw [e]; exact hS) ?_ ?_⟩
    · rintro i y σ H' hi ⟨z, v, rfl, z0, z1, rfl⟩
      obtain ⟨c, hc, rfl⟩ := int_item hi
      refine ⟨_, rfl, _, _, rfl, rfl, .inl ⟨by omega, by omega⟩, _, rfl, _, _, rfl, rfl, .inl ⟨_, rfl, _, _, rfl, rfl, (by show (0 : Int) < 2147483647; decide), ?_⟩⟩
      exact ⟨_, _, rfl, Int.emod_nonneg _ (by decide), Int.emod_lt_of_pos _ (by decide), rfl⟩
    · rintro σ H' ⟨z, v, rfl, z0, z1, rfl⟩
      refine ⟨_, rfl, s, _, rfl, .inl hS, fun l hl => ?_⟩
      refine ⟨_, rfl, (by show 4 ≤ sizeLine; decide), fun p hp => ?_⟩
      have npl : l ≠ p := fun e => by subst e; rw [upd_same] at hp; cases hp
      have hp0 : H' p = none := by rw [upd_ne npl.symm] at hp; exact hp
      refine k p l _ hp0 hl (fun b o e => ?_) ⟨ns, 0, 0, z, upd_same, by rw [upd_ne npl, upd_same], by decide, by decide, z0, z1⟩
      rw [upd_ne (ne_of_none e hp0), upd_ne (ne_of_none e hl)]
      exact e
theorem sc_law_next : FnScope ["pot", "limit", "cell", "found", "mixed"] ["pot", "limit"] (defScope s_law_next) := ⟨rfl, rfl, rfl, by decide +kernel, rfl, by decide +kernel, by decide +kernel⟩
theorem ok_law_next (T : Txt K mg a) : FnOk P w K mg base CX0 1 a.f_law_next a.d_law_next ["pot", "limit"] (sp_law_next K a) := by
  refine T.F_law_next.ok sc_law_next (fun vs H Q E h => ?len) (fun cdv A outer s H vs Q E hr h => ?body)
  case len =>
    exact sp_law_next_len h
  case body =>
    obtain ⟨p, l, m, rfl, hP, m0, m1, k⟩ := h
    obtain ⟨ns, i, acc, seed, h1, h2, i0, acc0, s0, s1⟩ := id hP
    have nlp := hP.ne
    have mod0 : ∀ x : Int, 0 ≤ x % m := fun x => Int.emod_nonneg _ (by omega)
    have mod1 : ∀ x : Int, x % m < m := fun x => Int.emod_lt_of_pos _ m0
    refine ⟨_, (Evl.pss_cut (ps_if (PW.pt (pw_and (pt_cmpR op_eq (pe_ix ix_list (pv 0) pe_int (fun _ _ => rfl)) pe_int (nomark _)) (pw_and1 (pt_cmpR op_lt (pe_ix ix_list (pv 0) pe_int (fun _ _ => rfl)) (pe_callB call_len_seq (by rfl) T.n_len PySem.boot_len (pa_cons (pe_ix ix_list (pv 0) pe_int (fun _ _ => rfl)) pa_nil)) (nomark _)))))
      (pss_cons (ps_set (i := 2) sc_law_next.nd rfl (Or.inl rfl) (pe_callB call_abs (by rfl) T.n_abs (by decide +kernel) (pa_cons (pe_callTy call_int1 (by rfl) T.n_int (by decide +kernel) (pa_cons (pe_ix ix_list (pe_ix ix_list (pv 0) pe_int (fun _ _ => rfl)) (pe_ix ix_list (pv 0) pe_int (fun _ _ => rfl)) (fun _ _ => rfl)) pa_nil)) pa_nil)))
      (pss_cons (ps_asg (pe_op op_add (pe_ix ix_list (pv 0) pe_int (fun _ _ => rfl)) pe_int) (pg_sub (pv 0) pe_int set_list))
      (pss_cons (ps_if (pt_cmpR op_lt (pv 2) (pe_op op_pow pe_int pe_int) (nomark _))
      (pss_one (ps_ret (pe_op op_mod (pe_callTy call_int1 (by rfl) T.n_int (by decide +kernel) (pa_cons (pv 2) pa_nil)) (pv 1))))
      pss_nil)
      (pss_one (ps_asg (pv 2) (pg_sub (pv 0) pe_int set_list))))))
      pss_nil)
      (pss_cons (ps_if (pt_cmpR op_gt (pe_ix ix_list (pv 0) pe_int (fun _ _ => rfl)) pe_int (nomark _))
      (pss_cons (ps_set (i := 3) sc_law_next.nd rfl (Or.inl rfl) (pe_op op_mod (pe_callTy call_int1 (by rfl) T.n_int (by decide +kernel) (pa_cons (pe_ix ix_list (pv 0) pe_int (fun _ _ => rfl)) pa_nil)) (pv 1)))
      (pss_cons (ps_asg (pe_op op_fdiv (pe_ix ix_list (pv 0) pe_int (fun _ _ => rfl)) (pv 1)) (pg_sub (pv 0) pe_int set_list))
      (pss_one (ps_ret (pv 3)))))
      pss_nil)
      (pss_cons (ps_asg (pe_op op_mod (pe_callTy call_int1 (by rfl) T.n_int (by decide +kernel) (pa_cons (pe_op op_add (pe_op op_mul (pe_ix ix_list (pv 0) pe_int (fun _ _ => rfl)) pe_int) pe_int) pa_nil)) pe_int) (pg_sub (pv 0) pe_int set_list))
      (pss_cons (ps_set (i := 4) sc_law_next.nd rfl (Or.inl rfl) (pe_op op_mod (pe_callTy call_int1 (by rfl) T.n_int (by decide +kernel) (pa_cons (pe_op op_add (pe_op op_mul (pe_ix ix_list (pv 0) pe_int (fun _ _ => rfl)) pe_int) (pe_op op_fdiv (pe_ix ix_list (pv 0) pe_int (fun _ _ => rfl)) pe_int)) pa_nil)) pe_int))
      (pss_one (ps_ret (pe_op op_mod (pe_callTy call_int1 (by rfl) T.n_int (by decide +kernel) (pa_cons (pv 4) pa_nil)) (pv 1)))))))), ?_⟩
    refine ⟨fun σ H' => ∃ (u : Option V) (i' acc' : Int), σ = [some (.ref p), some (.int m), u, none, none] ∧ H' p = some (.lst [.ref l, .int i', .int acc', .int seed]) ∧ 0 ≤ i' ∧ 0 ≤ acc' ∧ Only p H H', ?_, ?_⟩
    · -- if pot[2] == 0 and pot[1] < len(pot[0])
      refine ⟨_, rfl, p, _, _, _, rfl, rfl, SqL.of h1, at_of (j := 2) rfl rfl, rfl, _, rfl, ?_⟩
      refine ite2 (fun e2 => ?_) (fun e2 => iteF ⟨none, i, acc, rfl, h1, i0, acc0, Only.refl⟩)
      refine ⟨_, rfl, p, _, _, _, rfl, rfl, SqL.of h1, at_of (j := 1) rfl rfl, _, rfl, p, _, _, _, rfl, rfl, SqL.of h1, at_of (j := 0) rfl rfl, l, _, rfl, .inl (SqL.of h2), _, _, rfl, rfl, _, rfl, ?_⟩
      refine ite2 (fun e3 => ?_) (fun e3 => ⟨none, i, acc, rfl, h1, i0, acc0, Only.refl⟩)
      have i1 : i < (ns.length : Int) := by
        have := of_decide_eq_true e3
        rw [List.length_map] at this
        exact this
      obtain ⟨j, rfl⟩ : ∃ j : Nat, i = (j : Int) := ⟨i.toNat, by omega⟩
      have hj : j < ns.length := by omega
      have hit : (ns.map V.int)[j]? = some (V.int ns[j]) := by rw [List.getElem?_map, List.getElem?_eq_getElem hj]; rfl
      -- cell = abs(int(pot[0][pot[1]])); pot[1] = pot[1] + 1
      refine ⟨_, rfl, p, _, _, _, rfl, rfl, SqL.of h1, at_of (j := 0) rfl rfl, _, rfl, p, _, _, _, rfl, rfl, SqL.of h1, at_of (j := 1) rfl rfl, l, _, _, _, rfl, rfl, SqL.of h2, at_of (j := j) rfl hit, .inl ⟨_, rfl, _, rfl, ?_⟩⟩
      have abs0 : 0 ≤ (if ns[j] < 0 then -ns[j] else ns[j]) := by split <;> omega
      generalize (if ns[j] < 0 then -ns[j] else ns[j]) = c at abs0 ⊢
      refine ⟨_, rfl, p, _, _, _, rfl, rfl, SqL.of h1, at_of (j := 1) rfl rfl, _, _, rfl, rfl, _, rfl, p, _, _, 1, rfl, rfl, h1, rfl, ?_⟩
      have g1 : upd H p (.lst (List.set [V.ref l, V.int (j : Int), V.int acc, V.int seed] 1 (V.int ((j : Int) + 1)))) p = some (.lst [.ref l, .int ((j : Int) + 1), .int acc, .int seed]) := upd_same
      -- if cell < 10 ** 18: return int(cell) % limit
      refine ⟨_, rfl, _, _, rfl, rfl, ⟨by decide, by decide, by decide⟩, _, _, rfl, rfl, _, rfl, ?_⟩
      refine ite2 (fun e4 => ?_) (fun e4 => ?_)
      · refine ⟨_, rfl, .inl ⟨_, rfl, _, rfl, _, _, rfl, rfl, m0, ?_⟩⟩
        exact k _ _ (mod0 _) (mod1 _) ⟨ns, _, _, _, g1, by rw [upd_ne nlp]; exact h2, by omega, acc0, s0, s1⟩ Only.upd
      · -- pot[2] = cell
        refine ⟨_, rfl, _, rfl, p, _, _, 2, rfl, rfl, g1, rfl, ?_⟩
        exact ⟨_, (j : Int) + 1, c, rfl, upd_same, by omega, abs0, Only.upd.trans Only.upd⟩
    · rintro σ H' ⟨u, i', acc', rfl, g1, i0', acc0', oH⟩
      have g2 : H' l = some (.lst (ns.map V.int)) := by rw [oH _ nlp]; exact h2
      -- if pot[2] > 0
      refine ⟨_, rfl, p, _, _, _, rfl, rfl, SqL.of g1, at_of (j := 2) rfl rfl, _, _, rfl, rfl, _, rfl, ?_⟩
      refine ite2 (fun e2 => ?_) (fun e2 => ?_)
      · refine ⟨_, rfl, p, _, _, _, rfl, rfl, SqL.of g1, at_of (j := 2) rfl rfl, .inl ⟨_, rfl, _, rfl, _, _, rfl, rfl, m0, ?_⟩⟩
        refine ⟨_, rfl, p, _, _, _, rfl, rfl, SqL.of g1, at_of (j := 2) rfl rfl, _, rfl, _, _, rfl, rfl, ⟨m0, m1⟩, _, rfl, p, _, _, 2, rfl, rfl, g1, rfl, ?_⟩
        refine ⟨_, rfl, ?_⟩
        exact k _ _ (mod0 _) (mod1 _) ⟨ns, i', acc' / m, seed, upd_same, by rw [upd_ne nlp]; exact g2, i0', Int.ediv_nonneg acc0' (by omega), s0, s1⟩ (oH.trans Only.upd)
      · -- pot[3] = int(pot[3] * 48271 + 12345) % 2147483647
        refine ⟨_, rfl, p, _, _, _, rfl, rfl, SqL.of g1, at_of (j := 3) rfl rfl, _, _, rfl, rfl, .inl ⟨by omega, by omega⟩, _, _, rfl, rfl, .inl ⟨_, rfl, _, _, rfl, rfl, (by show (0 : Int) < 2147483647; decide), ?_⟩⟩
        have t0 := Int.emod_nonneg (seed * 48271 + 12345) (show (2147483647 : Int) ≠ 0 by decide)
        have t1 := Int.emod_lt_of_pos (seed * 48271 + 12345) (show (0 : Int) < 2147483647 by decide)
        refine ⟨_, rfl, p, _, _, 3, rfl, rfl, g1, rfl, ?_⟩
        have g3 : upd H' p (.lst (List.set [V.ref l, V.int i', V.int acc', V.int seed] 3 (V.int ((seed * 48271 + 12345) % 2147483647)))) p = some (.lst [.ref l, .int i', .int acc', .int ((seed * 48271 + 12345) % 2147483647)]) := upd_same
        refine ⟨_, rfl, p, _, _, _, rfl, rfl, SqL.of g3, at_of (j := 3) rfl rfl, _, _, rfl, rfl, .inl ⟨by omega, by omega⟩, _, rfl, p, _, _, _, rfl, rfl, SqL.of g3, at_of (j := 3) rfl rfl, _, _, rfl, rfl, ⟨by decide, by decide⟩, _, _, rfl, rfl, .inl ⟨_, rfl, _, _, rfl, rfl, (by show (0 : Int) < 2147483629; decide), ?_⟩⟩
        refine ⟨_, rfl, .inl ⟨_, rfl, _, rfl, _, _, rfl, rfl, m0, ?_⟩⟩
        exact k _ _ (mod0 _) (mod1 _) ⟨ns, _, _, _, g3, by rw [upd_ne nlp]; exact g2, i0', acc0', t0, t1⟩ (oH.trans Only.upd)
theorem sc_law_horner : FnScope ["numbers", "x", "total", "k"] ["numbers", "x"] (defScope s_law_horner) := ⟨rfl, rfl, rfl, by decide +kernel, rfl, by decide +kernel, by decide +kernel⟩
theorem ok_law_horner (T : Txt K mg a) : FnOk P w K mg base CX0 1 a.f_law_horner a.d_law_horner ["numbers", "x"] (sp_law_horner K a) := by
  refine T.F_law_horner.ok sc_law_horner (fun vs H Q E h => ?len) (fun cdv A outer s H vs Q E hr h => ?body)
  case len =>
    exact sp_law_horner_len h
  case body =>
    obtain ⟨d, ns, x, rfl, hN, hl, k⟩ := h
    refine ⟨_, (pss_cons (ps_set (i := 2) sc_law_horner.nd rfl (Or.inl rfl) pe_int)
      (pss_cons (ps_for PassesOwn.never rfl (pi_range1 (by rfl) T.n_range (pa_cons (pe_callB call_len_seq (by rfl) T.n_len PySem.boot_len (pa_cons (pv 0) pa_nil)) pa_nil)) (pg_name (i := 3) sc_law_horner.nd rfl (Or.inl rfl))
      (pss_one (ps_set (i := 2) sc_law_horner.nd rfl (Or.inl rfl) (pe_op op_mod (pe_callTy call_int1 (by rfl) T.n_int (by decide +kernel) (pa_cons (pe_op op_add (pe_op op_mul (pv 2) (pv 1)) (pe_ix ix_list (pv 0) (pe_op op_sub (pe_op op_sub (pe_callB call_len_seq (by rfl) T.n_len PySem.boot_len (pa_cons (pv 0) pa_nil)) pe_int) (pv 3)) (fun _ _ => rfl))) pa_nil)) pe_int))))
      (pss_one (ps_ret (pv 2))))), ?_⟩
    refine ⟨_, rfl, d, _, rfl, .inl hN, _, rfl, by omega, by rw [List.length_map]; omega, ?_⟩
    rw [Int.toNat_natCast, List.length_map]
    refine for_range (lo := 0) (n := ns.length) (fun i σ H' => ∃ v : Option V, σ = [some (.ref d), some (.int x), some (.int (horn (ns.drop (ns.length - i)) x)), v] ∧ H' = H)
      ⟨none, by rw [Nat.sub_zero, List.drop_length]; rfl, rfl⟩ ?_ ?_
    · rintro i σ H' hi ⟨v, rfl, rfl⟩
      have hc : ns[ns.length - (i + 1)]? = some ns[ns.length - (i + 1)] := List.getElem?_eq_getElem (by omega)
      have w := horn_word (ns.drop (ns.length - i)) x
      refine ⟨_, rfl, _, rfl, _, _, rfl, rfl, .inl ⟨by omega, by omega⟩, _, rfl, _, rfl, d, _, rfl, .inl hN, _, _, rfl, rfl, _, rfl, _, _, rfl, rfl, d, _, _, _, rfl, rfl, hN, at_of (j := ns.length - (i + 1)) (by rw [List.length_map]; omega) (by rw [List.getElem?_map, hc]; rfl), _, _, rfl, rfl, .inl ⟨_, rfl, _, _, rfl, rfl, (by show (0 : Int) < 65521; decide), ?_⟩⟩
      refine ⟨some (.int (0 + (i : Nat))), ?_, rfl⟩
      have e := horn_drop (x := x) hc
      rw [show ns.length - (i + 1) + 1 = ns.length - i by omega] at e
      rw [e]
      rfl
    · rintro σ H' ⟨v, rfl, rfl⟩
      rw [Nat.sub_self, List.drop_zero]
      exact ⟨_, rfl, k⟩
theorem sc_law_is_int : FnScope ["value"] ["value"] (defScope s_law_is_int) := ⟨rfl, rfl, rfl, by decide +kernel, rfl, by decide +kernel, by decide +kernel⟩
theorem ok_law_is_int (T : Txt K mg a) : FnOk P w K mg base CX0 1 a.f_law_is_int a.d_law_is_int ["value"] (sp_law_is_int K a) := by
  refine T.F_law_is_int.ok sc_law_is_int (fun vs H Q E h => ?len) (fun cdv A outer s H vs Q E hr h => ?body)
  case len =>
    exact sp_law_is_int_len h
  case body =>
    obtain ⟨x, rfl, k⟩ := h
    refine ⟨_, (pss_one (ps_ret (pe_and (pe_callB call_isi (by rfl) T.n_isinstance (by decide +kernel) (pa_cons (pv 0) (pa_cons (pe_bltn (v := .ty "int") (by rfl) T.n_int (by decide +kernel) rfl) pa_nil))) (pe_one (pe_not (pe_callB call_isi (by rfl) T.n_isinstance (by decide +kernel) (pa_cons (pv 0) (pa_cons (pe_bltn (v := .ty "bool") (by rfl) T.n_bool (by decide +kernel) rfl) pa_nil)))))))), ?_⟩
    refine ⟨_, rfl, _, _, _, _, true, rfl, .ty "int", .base (.int x), kit_ty (by decide +kernel), _, rfl, ?_⟩
    refine iteT ?_
    exact ⟨_, rfl, _, _, _, _, false, rfl, .ty "bool", .base (.int x), kit_ty (by decide +kernel), _, rfl, k⟩
theorem sc_law_value : FnScope ["places", "values", "x", "total", "i", "above", "below", "j", "power", "bit"] ["places", "values", "x"] (defScope s_law_value) := ⟨rfl, rfl, rfl, by decide +kernel, rfl, by decide +kernel, by decide +kernel⟩
theorem ok_law_value (T : Txt K mg a) : FnOk P w K mg base CX0 1 a.f_law_value a.d_law_value ["places", "values", "x"] (sp_law_value K a) := by
  refine T.F_law_value.ok sc_law_value (fun vs H Q E h => ?len) (fun cdv A outer s H vs Q E hr h => ?body)
  case len =>
    exact sp_law_value_len h
  case body =>
    obtain ⟨W, Y, ws, ys, x, rfl, hW, hY, hp, h7, ly, hx, hw, k⟩ := h
    refine ⟨_, (pss_cons (ps_set (i := 3) sc_law_value.nd rfl (Or.inl rfl) pe_int)
      (pss_cons (ps_for PassesOwn.never rfl (pi_range1 (by rfl) T.n_range (pa_cons (pe_callB call_len_seq (by rfl) T.n_len PySem.boot_len (pa_cons (pv 0) pa_nil)) pa_nil)) (pg_name (i := 4) sc_law_value.nd rfl (Or.inl rfl))
      (pss_cons (ps_set (i := 5) sc_law_value.nd rfl (Or.inl rfl) pe_int)
      (pss_cons (ps_set (i := 6) sc_law_value.nd rfl (Or.inl rfl) pe_int)
      (pss_cons (ps_for PassesOwn.never rfl (pi_range1 (by rfl) T.n_range (pa_cons (pe_callB call_len_seq (by rfl) T.n_len PySem.boot_len (pa_cons (pv 0) pa_nil)) pa_nil)) (pg_name (i := 7) sc_law_value.nd rfl (Or.inl rfl))
      (pss_one (ps_if (pt_cmpR op_ne (pv 4) (pv 7) (nomark _))
      (pss_cons (ps_set (i := 5) sc_law_value.nd rfl (Or.inl rfl) (pe_op op_mod (pe_callTy call_int1 (by rfl) T.n_int (by decide +kernel) (pa_cons (pe_op op_mul (pv 5) (pe_op op_sub (pv 2) (pe_ix ix_list (pv 0) (pv 7) (fun _ _ => rfl)))) pa_nil)) pe_int))
      (pss_one (ps_set (i := 6) sc_law_value.nd rfl (Or.inl rfl) (pe_op op_mod (pe_callTy call_int1 (by rfl) T.n_int (by decide +kernel) (pa_cons (pe_op op_mul (pv 6) (pe_op op_sub (pe_ix ix_list (pv 0) (pv 4) (fun _ _ => rfl)) (pe_ix ix_list (pv 0) (pv 7) (fun _ _ => rfl)))) pa_nil)) pe_int))))
      pss_nil)))
      (pss_cons (ps_set (i := 8) sc_law_value.nd rfl (Or.inl rfl) pe_int)
      (pss_cons (ps_for PassesOwn.never rfl (pi_list (pe_lst (pa_cons pe_int (pa_cons pe_int (pa_cons pe_int (pa_cons pe_int (pa_cons pe_int (pa_cons pe_int (pa_cons pe_int (pa_cons pe_int (pa_cons pe_int (pa_cons pe_int (pa_cons pe_int (pa_cons pe_int (pa_cons pe_int (pa_cons pe_int (pa_cons pe_int (pa_cons pe_int pa_nil)))))))))))))))))) (pg_name (i := 9) sc_law_value.nd rfl (Or.inl rfl))
      (pss_cons (ps_set (i := 8) sc_law_value.nd rfl (Or.inl rfl) (pe_op op_mod (pe_callTy call_int1 (by rfl) T.n_int (by decide +kernel) (pa_cons (pe_op op_mul (pv 8) (pv 8)) pa_nil)) pe_int))
      (pss_one (ps_if (pt_cmpR op_eq (pv 9) pe_int (nomark _))
      (pss_one (ps_set (i := 8) sc_law_value.nd rfl (Or.inl rfl) (pe_op op_mod (pe_callTy call_int1 (by rfl) T.n_int (by decide +kernel) (pa_cons (pe_op op_mul (pv 8) (pv 6)) pa_nil)) pe_int)))
      pss_nil))))
      (pss_one (ps_set (i := 3) sc_law_value.nd rfl (Or.inl rfl) (pe_op op_mod (pe_callTy call_int1 (by rfl) T.n_int (by decide +kernel) (pa_cons (pe_op op_add (pv 3) (pe_op op_mul (pe_op op_mul (pe_ix ix_list (pv 1) (pv 4) (fun _ _ => rfl)) (pv 5)) (pv 8))) pa_nil)) pe_int)))))))))
      (pss_one (ps_ret (pv 3))))), ?_⟩
    have wl : ((intsN ws).map V.int).length = ws.length := by rw [List.length_map, intsN_len]
    have l7 : ws.length ≤ 7 := by
      have := (sub_range hp h7).length_le
      rwa [List.length_range] at this
    have il : (intsN ws).length = ws.length := intsN_len ws
    refine ⟨_, rfl, W, _, rfl, .inl hW, _, rfl, by omega, by omega, ?_⟩
    rw [wl, Int.toNat_natCast]
    refine for_range (lo := 0) (n := ws.length) (fun i σ H' => ∃ (v4 v5 v6 v7 v8 v9 : Option V), σ = [some (.ref W), some (.ref Y), some (.int (x : Int)), some (.int (valQ (intsN ws) ys (x : Int) i)), v4, v5, v6, v7, v8, v9] ∧ Same H H') ⟨none, none, none, none, none, none, rfl, Same.refl _⟩ ?_ ?_
    · rintro i σ H' hi ⟨v4, v5, v6, v7, v8, v9, rfl, s1⟩
      have gi : ∀ m, m < ws.length → (intsN ws)[m]? = some ((intsN ws).getD m 0) := fun m hm => by rw [List.getD_eq_getElem?_getD, List.getElem?_eq_getElem (by rw [il]; exact hm)]; rfl
      refine ⟨_, rfl, W, _, rfl, .inl (s1.seq hW), _, rfl, by omega, by omega, ?_⟩
      rw [wl, Int.toNat_natCast]
      refine for_range (lo := 0) (n := ws.length) (fun j σ H2 => ∃ (v7 : Option V), σ = [some (.ref W), some (.ref Y), some (.int (x : Int)), some (.int (valQ (intsN ws) ys (x : Int) i)), some (.int (0 + (i : Nat))), some (.int (facB (intsN ws) i (x : Int) j)), some (.int (facB (intsN ws) i ((intsN ws).getD i 0) j)), v7, v8, v9] ∧ H2 = H') ⟨v7, rfl, rfl⟩ ?_ ?_
      · rintro j σ H2 hj ⟨v7, rfl, rfl⟩
        have gj := gi j hj
        have ga := facB_word (intsN ws) i (x : Int) j
        have gb := facB_word (intsN ws) i ((intsN ws).getD i 0) j
        refine ⟨_, rfl, _, rfl, rfl, _, rfl, ite2 (fun q => ?_) (fun q => ?_)⟩
        · have ne : i ≠ j := fun z => by
            subst z
            simp at q
          refine ⟨_, rfl, _, rfl, _, rfl, _, rfl, W, _, _, _, rfl, rfl, s1.seq hW, at_of (j := j) (by omega) (by rw [List.getElem?_map, gj]; rfl), _, _, rfl, rfl, _, _, rfl, rfl, .inl ⟨by omega, by omega⟩, .inl ⟨_, rfl, _, _, rfl, rfl, (by show (0 : Int) < 65521; decide), ?_⟩⟩
          refine ⟨_, rfl, _, rfl, _, rfl, W, _, _, _, rfl, rfl, s1.seq hW, at_of (j := i) (by omega) (by rw [List.getElem?_map, gi i hi]; rfl), _, rfl, _, rfl, W, _, _, _, rfl, rfl, s1.seq hW, at_of (j := j) (by omega) (by rw [List.getElem?_map, gj]; rfl), _, _, rfl, rfl, _, _, rfl, rfl, .inl ⟨by omega, by omega⟩, .inl ⟨_, rfl, _, _, rfl, rfl, (by show (0 : Int) < 65521; decide), ?_⟩⟩
          refine ⟨some (.int (0 + (j : Nat))), ?_, rfl⟩
          rw [facB_succ, facB_succ, if_neg ne, if_neg ne]
          rfl
        · have ne : i = j := by
            refine Classical.byContradiction fun z => q ?_
            simp
            omega
          refine ⟨some (.int (0 + (j : Nat))), ?_, rfl⟩
          rw [facB_succ, facB_succ, if_pos ne, if_pos ne]
          rfl
      rintro σ H2 ⟨v7, rfl, rfl⟩
      generalize hB : facB (intsN ws) i ((intsN ws).getD i 0) ws.length = B
      -- power
      refine ⟨(by show 16 ≤ sizeLine; decide), fun q nq => ⟨q, rfl, ⟨_, SqL.of upd_same⟩, for_list (K := K) (a := q) (xs := bitsM.map V.int) (fun k σ H3 => ∃ (v9 : Option V), σ = [some (.ref W), some (.ref Y), some (.int (x : Int)), some (.int (valQ (intsN ws) ys (x : Int) i)), some (.int (0 + (i : Nat))), some (.int (facB (intsN ws) i (x : Int) ws.length)), some (.int B), v7, some (.int ((bitsM.take k).foldl (powS B) 1)), v9] ∧ H3 = upd H2 q (.lst (bitsM.map V.int)))
        ⟨v9, rfl, rfl⟩ (fun k σ H3 _ ⟨_, _, e⟩ => by rw [e]; exact SqL.of upd_same) ?_ ?_⟩⟩
      · rintro k' y σ H3 hk' ⟨v9, rfl, rfl⟩
        obtain ⟨c, hc, rfl⟩ := int_item hk'
        rw [take_snoc hc, List.foldl_append]
        have hb : 0 ≤ (bitsM.take k').foldl (powS B) 1 ∧ (bitsM.take k').foldl (powS B) 1 < 65521 := powF_word B _
        generalize (bitsM.take k').foldl (powS B) 1 = P at hb ⊢
        have hb2 : 0 ≤ P * P % 65521 ∧ P * P % 65521 < 65521 := ⟨Int.emod_nonneg _ (by decide), Int.emod_lt_of_pos _ (by decide)⟩
        refine ⟨_, rfl, _, rfl, _, _, rfl, rfl, .inl ⟨by omega, by omega⟩, .inl ⟨_, rfl, _, _, rfl, rfl, (by show (0 : Int) < 65521; decide), ?_⟩⟩
        refine ⟨_, rfl, rfl, _, rfl, ite2 (fun q => ?_) (fun q => ?_)⟩
        · have q := of_decide_eq_true q
          cases q
          refine ⟨_, rfl, _, rfl, _, _, rfl, rfl, .inl ⟨by omega, by omega⟩, .inl ⟨_, rfl, _, _, rfl, rfl, (by show (0 : Int) < 65521; decide), ?_⟩⟩
          exact ⟨_, rfl, rfl⟩
        · refine ⟨some (.int c), ?_, rfl⟩
          have e : powS B P c = P * P % 65521 := by
            unfold powS
            rw [if_neg fun z => q (decide_eq_true (by rw [z]))]
          show _ = [_, _, _, _, _, _, _, _, some (V.int (powS B P c)), _]
          rw [e]
          rfl
      rintro σ H3 ⟨v9, rfl, rfl⟩
      have ga := facB_word (intsN ws) i (x : Int) ws.length
      have gp : 0 ≤ List.foldl (powS B) 1 (List.take (List.map V.int bitsM).length bitsM) ∧ List.foldl (powS B) 1 (List.take (List.map V.int bitsM).length bitsM) < 65521 := powF_word B _
      have s3 : Same H (upd H2 q (.lst (bitsM.map V.int))) := s1.trans (Same.new nq)
      have hyi : ys[i]? = some (ys.getD i 0) := by rw [List.getD_eq_getElem?_getD, List.getElem?_eq_getElem (by omega)]; rfl
      have wy := hw _ (List.mem_of_getElem? hyi)
      refine ⟨_, rfl, _, rfl, _, rfl, Y, _, _, _, rfl, rfl, s3.seq hY, at_of (j := i) (by omega) (by rw [List.getElem?_map, hyi]; rfl), _, rfl, _, _, rfl, rfl, .inl ⟨by omega, by omega⟩, _, rfl, _, _, rfl, rfl, .inr ⟨by omega, by omega⟩, _, _, rfl, rfl, .inl ⟨_, rfl, _, _, rfl, rfl, (by show (0 : Int) < 65521; decide), ?_⟩⟩
      refine ⟨some (.int (0 + (i : Nat))), some (.int (facB (intsN ws) i (x : Int) ws.length)), some (.int B), v7, some (.int (powM B)), v9, ?_, s3⟩
      rw [valQ_succ, il, hB]
      rfl
    rintro σ H' ⟨v4, v5, v6, v7, v8, v9, rfl, s1⟩
    refine ⟨_, rfl, ?_⟩
    rw [valQ_is hp h7 hx]
    exact k _ s1
theorem sc_weight : FnScope ["place", "others", "x", "above", "below", "other"] ["place", "others", "x"] (defScope s_weight) := ⟨rfl, rfl, rfl, by decide +kernel, rfl, by decide +kernel, by decide +kernel⟩
theorem ok_weight (T : Txt K mg a) : FnOk P w K mg base CX0 2 a.f_weight a.d_weight ["place", "others", "x"] (sp_weight K a) := by
  refine T.F_weight.ok sc_weight (fun vs H Q E h => ?len) (fun cdv A outer s H vs Q E hr h => ?body)
  case len =>
    exact sp_weight_len h
  case body =>
    obtain ⟨p, o, os, x, rfl, hO, hne, k⟩ := h
    refine ⟨_, (pss_cons (ps_asg (pe_tup (pa_cons pe_int (pa_cons pe_int pa_nil))) (pg_tup rfl (pgs_cons (pg_name (i := 3) sc_weight.nd rfl (Or.inl rfl)) (pgs_cons (pg_name (i := 4) sc_weight.nd rfl (Or.inl rfl)) pgs_nil))))
      (pss_cons (ps_for PassesOwn.never rfl (pi_list (pv 1)) (pg_name (i := 5) sc_weight.nd rfl (Or.inl rfl))
      (pss_cons (ps_set (i := 3) sc_weight.nd rfl (Or.inl rfl) (pe_op op_mod (pe_op op_mul (pv 3) (pe_op op_sub (pv 2) (pv 5))) (pe_const T.g_PRIME)))
      (pss_one (ps_set (i := 4) sc_weight.nd rfl (Or.inl rfl) (pe_op op_mod (pe_op op_mul (pv 4) (pe_op op_sub (pv 0) (pv 5))) (pe_const T.g_PRIME))))))
      (pss_one (ps_ret (pe_op op_mod (pe_op op_mul (pv 3) (pe_call (ok_inverse T) (hr.mono (by decide)) rfl T.g_inverse T.F_inverse.kp T.d_inverse .nil passL (pa_cons (pv 4) pa_nil))) (pe_const T.g_PRIME)))))), ?_⟩
    refine ⟨by show 2 ≤ sizeLine; decide, fun t ht => ?_⟩
    have sm : Same H (upd H t (.tup [V.int 1, V.int 1])) := Same.new ht
    refine ⟨t, _, rfl, SqT.of upd_same, rfl, _, _, rfl, _, _, rfl, rfl, ?_⟩
    refine ⟨_, rfl, o, rfl, ⟨_, sm.seq hO⟩, for_list (K := K) (a := o) (xs := os.map V.int) (fun i σ H' => ∃ v : Option V, σ = [some (.int p), some (.ref o), some (.int x), some (.int (prodM (os.take i) x 1)), some (.int (prodM (os.take i) p 1)), v] ∧ Same H H')
      ⟨none, rfl, sm⟩ (fun i σ H' _ ⟨_, _, s⟩ => s.seq hO) ?_ ?_⟩
    · rintro i y σ H' hi ⟨v, rfl, s'⟩
      obtain ⟨c, hc, rfl⟩ := int_item hi
      have b1 := prodM_word (os.take i) x 1 (by decide) (by decide)
      have b2 := prodM_word (os.take i) p 1 (by decide) (by decide)
      refine ⟨_, rfl, _, rfl, _, rfl, _, _, rfl, rfl, _, _, rfl, rfl, .inl ⟨by omega, by omega⟩, _, _, rfl, rfl, (by show (0 : Int) < 65521; decide), ?_⟩
      refine ⟨_, rfl, _, rfl, _, rfl, _, _, rfl, rfl, _, _, rfl, rfl, .inl ⟨by omega, by omega⟩, _, _, rfl, rfl, (by show (0 : Int) < 65521; decide), ?_⟩
      refine ⟨some (V.int c), ?_, s'⟩
      rw [take_snoc hc, prodM_snoc, prodM_snoc]
      rfl
    · rintro σ H' ⟨v, rfl, s'⟩
      have ea : os.take (os.map V.int).length = os := by rw [List.length_map, List.take_length]
      rw [ea]
      have b1 := prodM_word os x 1 (by decide) (by decide)
      refine ⟨_, rfl, _, rfl, _, rfl, fun z => absurd z hne, fun _ H2 s2 => ?_⟩
      refine ⟨_, _, rfl, rfl, .inl ⟨by omega, by omega⟩, _, _, rfl, rfl, (by show (0 : Int) < 65521; decide), ?_⟩
      exact k _ (s'.trans s2)
theorem sc_present_numbers : FnScope ["pieces", "data", "present", "number", "piece"] ["pieces", "data"] (defScope s_present_numbers) := ⟨rfl, rfl, rfl, by decide +kernel, rfl, by decide +kernel, by decide +kernel⟩
theorem ok_present_numbers (T : Txt K mg a) : FnOk P w K mg base (L2.CX P w) 2 a.f_present_numbers a.d_present_numbers ["pieces", "data"] (sp_present_numbers K a) := by
  refine T.F_present_numbers.okX sc_present_numbers (fun vs H Q E h => ?len) (fun cdv A outer s H vs Q E hr h => ?body)
  case len =>
    exact sp_present_numbers_len h
  case body =>
    obtain ⟨R, F, data, rfl, hR, h50, kB, kF, kQ⟩ := h
    have hml : (refsO F).length = F.length := List.length_map _
    refine ⟨_, (pss_cons (ps_if (pt_cmpR op_gt (pe_callB call_len_seq (by rfl) T.n_len PySem.boot_len (pa_cons (pv 0) pa_nil)) (pe_const T.g_MAX_PIECES) (nomark _))
      (pss_one (ps_raise rfl (takes_of rfl rfl rfl rfl) (pmk_own PySem.F.excBase_ValueError T.x_InvalidArgument T.g_InvalidArgument T.k_InvalidArgument (raises_own T.b_InvalidArgument T.t_InvalidArgument) (by exact rfl))))
      pss_nil)
      (pss_cons (ps_if (PW.pt (pw_or (pt_cmpR op_lt (pv 1) pe_int (nomark _)) (pw_or1 (pt_cmpR op_gt (pv 1) (pe_callB call_len_seq (by rfl) T.n_len PySem.boot_len (pa_cons (pv 0) pa_nil)) (nomark _)))))
      (pss_one (ps_raise rfl (takes_of rfl rfl rfl rfl) (pmk_own PySem.F.excBase_ValueError T.x_InvalidArgument T.g_InvalidArgument T.k_InvalidArgument (raises_own T.b_InvalidArgument T.t_InvalidArgument) (by exact rfl))))
      pss_nil)
      (pss_cons (ps_setLc (i := 2) (own := [("number", 3), ("piece", 4)]) (g := (gTup K 2 (gCons (gName 3) (gCons (gName 4) gNil)))) (by rfl) sc_present_numbers.nd rfl rfl (sw_true rfl rfl rfl (by decide +kernel)) (pi_enum (by rfl) T.n_enumerate (pa_cons (pv 0) pa_nil)) (blkOk_by (own := [("number", 3), ("piece", 4)]) (N := ["pieces", "data", "present", "number", "piece"]) (sc := defScope s_present_numbers) (by decide +kernel))
      (fun _ _ _ _ _ => (pg_tup rfl (pgs_cons (pg_name (i := 3) sc_present_numbers.nd rfl (Or.inl rfl)) (pgs_cons (pg_name (i := 4) sc_present_numbers.nd rfl (Or.inl rfl)) pgs_nil)))) (fun _ _ _ _ _ => (pts_one (pt_cmpR op_notN (pv 4) pe_non (nomark _)))) (fun _ _ _ _ _ => (pv 3)))
      (pss_cons (ps_expr (pe_call (ok_check_lengths T) (hr.mono (by decide)) rfl T.g_check_lengths T.F_check_lengths.kp T.d_check_lengths .nil (passes_call (takes_of rfl rfl rfl rfl) (fun _ _ _ _ z => z)) (pa_cons (pe_lc (own := [("number", 3)]) (g := (gName 3)) (by rfl) sc_present_numbers.nd (pi_list (pv 2)) (blkOk_by (own := [("number", 3)]) (N := ["pieces", "data", "present", "number", "piece"]) (sc := defScope s_present_numbers) (by decide +kernel))
      (fun _ _ _ _ _ => (pg_name (i := 3) sc_present_numbers.nd rfl (Or.inl rfl))) (fun _ _ _ _ _ => pts_nil) (fun _ _ _ _ _ => (pe_ix (by exact ix_list : IxR _ (rIxL K)) (pv 0) (pv 3) (fun _ _ => rfl)))) pa_nil)))
      (pss_cons (ps_if (pt_cmpR op_lt (pe_callB call_len_seq (by rfl) T.n_len PySem.boot_len (pa_cons (pv 2) pa_nil)) (pv 1) (nomark _))
      (pss_one (ps_raise rfl (takes_of rfl rfl rfl rfl) (pmk_own PySem.F.excBase_ValueError T.x_NotEnoughPieces T.g_NotEnoughPieces T.k_NotEnoughPieces (raises_own T.b_NotEnoughPieces T.t_NotEnoughPieces) (by exact rfl))))
      pss_nil)
      (pss_one (ps_ret (pv 2)))))))), ?_⟩
    refine ⟨_, rfl, R, _, rfl, .inl hR.1, _, _, rfl, rfl, _, rfl, ite2 (fun z => kB (.inl (by have := of_decide_eq_true z; omega)) _ (Same.refl _)) (fun z1 => ?_)⟩
    refine ⟨_, rfl, _, _, rfl, rfl, _, rfl, ite2 (fun z => kB (.inr (.inl (by have := of_decide_eq_true z; omega))) _ (Same.refl _)) (fun z2 => ?_)⟩
    refine ⟨_, rfl, _, rfl, R, _, rfl, .inl hR.1, _, _, rfl, rfl, _, rfl, ite2 (fun z => kB (.inr (.inr (.inl (by have := of_decide_eq_true z; omega)))) _ (Same.refl _)) (fun z3 => ?_)⟩
    have a1 : F.length ≤ 8 := Classical.byContradiction fun q => z1 (decide_eq_true (by omega))
    have a2 : 1 ≤ data := Classical.byContradiction fun q => z2 (decide_eq_true (by omega))
    have a3 : data ≤ F.length := Classical.byContradiction fun q => z3 (decide_eq_true (by omega))
    -- present = [number for number, piece in enumerate(pieces) if piece is not None]
    refine ⟨_, rfl, R, _, rfl, hR.1, fun D new => lc_it walk_enum (fun i H' => Same H H' ∧ H' D = some (.lst ((intsN ((List.range i).filter fun j => (F.getD j none).isSome)).map V.int))) ⟨Same.new new, upd_same⟩ (fun i H' _ q => q.1.seq hR.1) ?_ ?_⟩
    · rintro i y H1 H2 hi ⟨s1, hD⟩ ⟨t, u, v, rfl, ht, rfl, hu, hv⟩
      cases hu
      obtain ⟨o, ho, rfl⟩ := refsO_item hv
      have s2 : Same H1 (upd H1 t (.tup [V.int (i : Nat), refO o])) := Same.new ht
      refine ⟨t, _, rfl, SqT.of upd_same, rfl, _, _, rfl, _, _, rfl, rfl, ?_⟩
      have fs : (List.range (i + 1)).filter (fun j => (F.getD j none).isSome) = ((List.range i).filter fun j => (F.getD j none).isSome) ++ if (F.getD i none).isSome then [i] else [] := by
        rw [List.range_succ, List.filter_append]
        congr 1
        simp only [List.filter_cons, List.filter_nil]
      have gi := getD_item (d := none) ho
      have le : ((List.range i).filter fun j => (F.getD j none).isSome).length ≤ i := Nat.le_trans (List.length_filter_le _ _) (by rw [List.length_range]; exact Nat.le_refl _)
      refine ⟨rfl, _, rfl, rfl, _, rfl, ?_⟩
      cases o with
      | none =>
        refine iteF ⟨s1.trans s2, ?_⟩
        rw [fs, gi]
        show _ = some (HO.lst ((intsN (_ ++ [])).map V.int))
        rw [List.append_nil]
        exact s2 _ _ hD
      | some e =>
        refine iteT ⟨_, rfl, _, s2 _ _ hD, small _ (by rw [List.length_map]; unfold intsN; rw [List.length_map]; omega), same_put (s1.trans s2) new, ?_⟩
        rw [fs, gi]
        show _ = some (HO.lst ((intsN (_ ++ [i])).map V.int))
        rw [upd_same]
        unfold intsN
        rw [List.map_append, List.map_append]
        rfl
    rintro H1 ⟨s1, hD⟩
    rw [hml] at hD
    replace hD : H1 D = some (.lst ((intsN (presM F)).map V.int)) := hD
    have pl := presM_len F
    have hR1 := hR.same s1
    -- check_lengths([pieces[number] for number in present])
    refine ⟨_, rfl, D, rfl, ⟨_, SqL.of hD⟩, fun C nC => lc_list (K := K) (a := D) (xs := (intsN (presM F)).map V.int) (fun i H' => Same H1 H' ∧ H' C = some (.lst (refs ((rowsP F).take i)))) ⟨Same.new nC, upd_same⟩ (fun i H' _ q => q.1.seq (SqL.of hD)) ?_ ?_⟩
    · rintro i y H2 hi ⟨s2, hC⟩
      obtain ⟨c, hc, rfl⟩ := int_item hi
      obtain ⟨m, hm, rfl⟩ : ∃ m : Nat, (presM F)[i]? = some m ∧ c = (m : Int) := by
        unfold intsN at hc
        rw [List.getElem?_map] at hc
        cases q : (presM F)[i]? with
        | none => rw [q] at hc; cases hc
        | some m => rw [q] at hc; exact ⟨m, rfl, (Option.some.inj hc).symm⟩
      have hg := (presM_lt (List.mem_of_getElem? hm)).2
      have g : (rowsP F)[i]? = some (rowAt F m) := by rw [List.getElem?_map, hm]; rfl
      refine ⟨rfl, _, rfl, _, rfl, R, _, _, _, rfl, rfl, s2.seq hR1.1, at_of (j := m) rfl (refsO_get hg), _, hC, small _ (by simp [refs]; omega), same_put s2 nC, ?_⟩
      rw [upd_same, take_snoc g]
      unfold refs
      rw [List.map_append]
      rfl
    rintro H2 ⟨s2, hC⟩
    rw [List.take_of_length_le (by simp [intsN])] at hC
    have RLC : RL K H2 C (rowsP F) := ⟨SqL.of hC, fun e me => by
      obtain ⟨i, mi, rfl⟩ := List.mem_map.mp me
      exact (hR1.same s2).rows i mi⟩
    refine ⟨C, rowsP F, rfl, RLC, fun b H3 s3 => kB (.inr (.inr (.inr b))) _ ((s1.trans s2).trans s3), fun nb H3 s3 => ?_⟩
    have sA := (s1.trans s2).trans s3
    have nB : ¬ BadP F data := by
      rintro (q | q | q | q)
      · omega
      · omega
      · omega
      · exact nb q
    refine ⟨_, rfl, D, _, rfl, .inl (SqL.of ((s2.trans s3) _ _ hD)), _, rfl, _, _, rfl, rfl, _, rfl, ?_⟩
    rw [show ((intsN (presM F)).map V.int).length = (presM F).length by simp [intsN]]
    refine ite2 (fun z => kF nB (of_decide_eq_true (p := ((presM F).length : Int) < data) z) _ sA) (fun z => ?_)
    exact ⟨_, rfl, kQ nB (fun q => z (decide_eq_true (show ((presM F).length : Int) < data from q))) D _ sA new ((s2.trans s3) _ _ hD)⟩
theorem sc_law_word : FnScope ["pot", "kind"] ["pot"] (defScope s_law_word) := ⟨rfl, rfl, rfl, by decide +kernel, rfl, by decide +kernel, by decide +kernel⟩
theorem ok_law_word (T : Txt K mg a) : FnOk P w K mg base CX0 2 a.f_law_word a.d_law_word ["pot"] (sp_law_word K a) := by
  refine T.F_law_word.ok sc_law_word (fun vs H Q E h => ?len) (fun cdv A outer s H vs Q E hr h => ?body)
  case len =>
    exact sp_law_word_len h
  case body =>
    obtain ⟨p, l, rfl, hP, k⟩ := h
    refine ⟨_, (pss_cons (ps_set (i := 1) sc_law_word.nd rfl (Or.inl rfl) (pe_call (ok_law_next T) (hr.mono (by decide)) rfl T.g_law_next T.F_law_next.kp T.d_law_next .nil pass0 (pa_cons (pv 0) (pa_cons pe_int pa_nil))))
      (pss_cons (ps_if (pt_cmpR op_eq (pv 1) pe_int (nomark _))
      (pss_one (ps_ret pe_int))
      pss_nil)
      (pss_cons (ps_if (pt_cmpR op_eq (pv 1) pe_int (nomark _))
      (pss_one (ps_ret (pe_op op_sub pe_int (pe_call (ok_law_next T) (hr.mono (by decide)) rfl T.g_law_next T.F_law_next.kp T.d_law_next .nil pass0 (pa_cons (pv 0) (pa_cons pe_int pa_nil))))))
      pss_nil)
      (pss_cons (ps_if (pt_cmpR op_lt (pv 1) pe_int (nomark _))
      (pss_one (ps_ret (pe_call (ok_law_next T) (hr.mono (by decide)) rfl T.g_law_next T.F_law_next.kp T.d_law_next .nil pass0 (pa_cons (pv 0) (pa_cons pe_int pa_nil)))))
      pss_nil)
      (pss_one (ps_ret (pe_call (ok_law_next T) (hr.mono (by decide)) rfl T.g_law_next T.F_law_next.kp T.d_law_next .nil pass0 (pa_cons (pv 0) (pa_cons pe_int pa_nil))))))))), ?_⟩
    refine ⟨_, rfl, p, l, 8, rfl, hP, by decide, by decide, fun c H1 c0 c1 P1 o1 => ?_⟩
    refine ⟨_, rfl, rfl, _, rfl, ?_⟩
    refine ite2 (fun _ => k _ _ ⟨by decide, by decide⟩ P1 o1) (fun _ => ?_)
    refine ⟨_, rfl, rfl, _, rfl, ?_⟩
    refine ite2 (fun _ => ?_) (fun _ => ?_)
    · exact ⟨_, rfl, p, l, 3, rfl, P1, by decide, by decide, fun v H2 v0 v1 P2 o2 => ⟨_, _, rfl, rfl, k _ _ ⟨by omega, by omega⟩ P2 (o1.trans o2)⟩⟩
    · refine ⟨_, rfl, _, _, rfl, rfl, _, rfl, ?_⟩
      refine ite2 (fun _ => ?_) (fun _ => ?_)
      · exact ⟨_, rfl, p, l, 9, rfl, P1, by decide, by decide, fun v H2 v0 v1 P2 o2 => k _ _ ⟨by omega, by omega⟩ P2 (o1.trans o2)⟩
      · exact ⟨_, rfl, p, l, 65521, rfl, P1, by decide, by decide, fun v H2 v0 v1 P2 o2 => k _ _ ⟨by omega, by omega⟩ P2 (o1.trans o2)⟩
theorem sc_law_fits : FnScope ["pieces", "numbers", "data", "length", "i", "values", "k"] ["pieces", "numbers", "data", "length"] (defScope s_law_fits) := ⟨rfl, rfl, rfl, by decide +kernel, rfl, by decide +kernel, by decide +kernel⟩
theorem ok_law_fits (T : Txt K mg a) : FnOk P w K mg base CX0 2 a.f_law_fits a.d_law_fits ["pieces", "numbers", "data", "length"] (sp_law_fits K a) := by
  refine T.F_law_fits.ok sc_law_fits (fun vs H Q E h => ?len) (fun cdv A outer s H vs Q E hr h => ?body)
  case len =>
    exact sp_law_fits_len h
  case body =>
    obtain ⟨R, N, F, is, d, n, rfl, hR, hF, l7, h500, hN, hp, hin, d1, dl, kT, kN⟩ := h
    refine ⟨_, (pss_cons (ps_for PassesOwn.never rfl (pi_range1 (by rfl) T.n_range (pa_cons (pv 3) pa_nil)) (pg_name (i := 4) sc_law_fits.nd rfl (Or.inr rfl))
      (pss_cons (ps_setLc (i := 5) (own := [("k", 6)]) (g := (gName 6)) (by rfl) sc_law_fits.nd rfl rfl (sw_true rfl rfl rfl (by decide +kernel)) (pi_list (pe_slice sl_list (pv 1) po_none (po_some (pv 2)))) (blkOk_by (own := [("k", 6)]) (N := ["pieces", "numbers", "data", "length", "i", "values", "k"]) (sc := defScope s_law_fits) (by decide +kernel))
      (fun _ _ _ _ _ => (pg_name (i := 6) sc_law_fits.nd rfl (Or.inl rfl))) (fun _ _ _ _ _ => pts_nil) (fun _ _ _ _ _ => (pe_ix (by exact ix_list : IxR _ (rIxL K)) (pe_ix (by exact ix_list : IxR _ (rIxL K)) (pv 0) (pv 6) (fun _ _ => rfl)) (pv 4) (fun _ _ => rfl))))
      (pss_one (ps_for PassesOwn.never rfl (pi_list (pe_slice sl_list (pv 1) (po_some (pv 2)) po_none)) (pg_name (i := 6) sc_law_fits.nd rfl (Or.inl rfl))
      (pss_one (ps_if (pt_cmpR op_ne (pe_call (ok_law_value T) (hr.mono (by decide)) rfl T.g_law_value T.F_law_value.kp T.d_law_value .nil pass0 (pa_cons (pe_slice sl_list (pv 1) po_none (po_some (pv 2))) (pa_cons (pv 5) (pa_cons (pv 6) pa_nil)))) (pe_ix ix_list (pe_ix ix_list (pv 0) (pv 6) (fun _ _ => rfl)) (pv 4) (fun _ _ => rfl)) (nomark _))
      (pss_one (ps_ret pe_bl))
      pss_nil))))))
      (pss_one (ps_ret pe_bl))), ?_⟩
    refine ⟨_, rfl, _, rfl, by omega, by omega, ?_⟩
    rw [Int.toNat_natCast]
    have ec : cutV ((intsN is).map V.int) none (some (d : Int)) = (intsN (is.take d)).map V.int := by
      rw [cut_take]
      unfold intsN
      rw [List.map_take, List.map_take]
    have ed : cutV ((intsN is).map V.int) (some (d : Int)) none = (intsN (is.drop d)).map V.int := by
      rw [cut_drop]
      unfold intsN
      rw [List.map_drop, List.map_drop]
    have tl : (is.take d).length = d := by rw [List.length_take]; omega
    have lis : is.length ≤ 8 := by
      have h1 := presM_len F
      have nd : is.Nodup := hp.imp fun h => Nat.ne_of_lt h
      have := List.Nodup.length_le_of_subset nd (fun x m => hin x m)
      omega
    have hl7 : ∀ i ∈ is, i < 7 := fun i m => by have := (presM_lt (hin i m)).1; omega
    -- the i-th column of the first
    let col : Nat → List Int := fun t => (snds ((is.take d).map (rowAt F))).map fun r => r.getD t 0
    refine for_range (lo := 0) (n := n) (fun t σ H' => ∃ (v4 v5 v6 : Option V), σ = [some (.ref R), some (.ref N), some (.int (d : Int)), some (.int (n : Int)), v4, v5, v6] ∧ Same H H' ∧ ∀ t', t' < t → ∀ m ∈ is.drop d, valM (intsN (is.take d)) (col t') ((m : Nat) : Int) = (rowAt F m).2.getD t' 0) ⟨none, none, none, rfl, Same.refl _, fun t' h => absurd h (by omega)⟩ ?_ ?_
    · rintro t σ H1 ht ⟨v4, v5, v6, rfl, s1, hq⟩
      refine ⟨_, rfl, _, rfl, _, rfl, N, _, rfl, s1.seq hN, fun Pl nPl => ?_⟩
      rw [ec]
      have sP := Same.new (o := .lst ((intsN (is.take d)).map V.int)) nPl
      have dP : upd H1 Pl (.lst ((intsN (is.take d)).map V.int)) Pl = some (.lst ((intsN (is.take d)).map V.int)) := upd_same
      generalize upd H1 Pl (.lst ((intsN (is.take d)).map V.int)) = H2 at sP dP ⊢
      have s2 := s1.trans sP
      have hR2 := hR.same s2
      have hcol : ∀ (i m : Nat), (is.take d)[i]? = some m → (col t)[i]? = some ((rowAt F m).2.getD t 0) := fun i m hm => by
        show ((snds ((is.take d).map (rowAt F))).map fun r => r.getD t 0)[i]? = _
        rw [List.getElem?_map, List.getElem?_map, List.getElem?_map, hm]
        rfl
      have cl : (col t).length = d := by
        show ((snds ((is.take d).map (rowAt F))).map fun r => r.getD t 0).length = d
        rw [List.length_map, snds_len, List.length_map, tl]
      have hget : ∀ m, m ∈ is → (rowAt F m).2[t]? = some ((rowAt F m).2.getD t 0) := fun m mm => by
        have := (hF.2 m (hin m mm)).1
        rw [List.getD_eq_getElem?_getD, List.getElem?_eq_getElem (by omega)]
        rfl
      have hwd : ∀ m, m ∈ is → 0 ≤ (rowAt F m).2.getD t 0 ∧ (rowAt F m).2.getD t 0 < 65521 := fun m mm => (hF.2 m (hin m mm)).2 _ (List.mem_of_getElem? (hget m mm))
      -- values
      refine ⟨Pl, rfl, ⟨_, SqL.of dP⟩, fun Vs nVs => lc_list (K := K) (a := Pl) (xs := (intsN (is.take d)).map V.int) (fun i H' => Same H2 H' ∧ H' Vs = some (.lst (((col t).take i).map V.int))) ⟨Same.new nVs, upd_same⟩ (fun i H' _ q => q.1.seq (SqL.of dP)) ?_ ?_⟩
      · rintro i y H3 hy ⟨s3, hV⟩
        obtain ⟨m, hm, rfl⟩ := intsN_item hy
        have mis := List.mem_of_mem_take (List.mem_of_getElem? hm)
        have hg := presM_lt (hin m mis)
        refine ⟨rfl, _, rfl, _, rfl, R, _, _, _, rfl, rfl, (hR2.same s3).1, at_of (j := m) rfl (refsO_get hg.2), _, rfl, (rowAt F m).1, _, _, _, rfl, rfl, (hR2.same s3).rows m (hin m mis), at_of (j := t) (by omega) (by rw [List.getElem?_map, hget m mis]; rfl), _, hV, small _ (by rw [List.length_map, List.length_take]; omega), same_put s3 nVs, ?_⟩
        rw [upd_same, take_snoc (hcol i m hm), List.map_append]
        rfl
      rintro H3 ⟨s3, hV⟩
      rw [List.take_of_length_le (by rw [cl, List.length_map, intsN_len, tl]; exact Nat.le_refl _)] at hV
      have s13 := s2.trans s3
      -- for k in numbers[data:]
      refine ⟨_, rfl, _, rfl, _, rfl, N, _, rfl, s13.seq hN, fun Dr nDr => ?_⟩
      rw [ed]
      have sD := Same.new (o := .lst ((intsN (is.drop d)).map V.int)) nDr
      have dD : upd H3 Dr (.lst ((intsN (is.drop d)).map V.int)) Dr = some (.lst ((intsN (is.drop d)).map V.int)) := upd_same
      generalize upd H3 Dr (.lst ((intsN (is.drop d)).map V.int)) = H5 at sD dD ⊢
      have s15 := s13.trans sD
      refine ⟨Dr, rfl, ⟨_, SqL.of dD⟩, for_list (K := K) (a := Dr) (xs := (intsN (is.drop d)).map V.int) (fun j σ H' => ∃ (v6 : Option V), σ = [some (.ref R), some (.ref N), some (.int (d : Int)), some (.int (n : Int)), some (.int (0 + (t : Nat))), some (.ref Vs), v6] ∧ Same H5 H' ∧ ∀ (j' m : Nat), j' < j → (is.drop d)[j']? = some m → valM (intsN (is.take d)) (col t) ((m : Nat) : Int) = (rowAt F m).2.getD t 0)
        ⟨_, rfl, Same.refl _, fun j' m h => absurd h (by omega)⟩ (fun j σ H' _ ⟨_, _, s', _⟩ => s'.seq (SqL.of dD)) ?_ ?_⟩
      · rintro j y σ H6 hy ⟨v6, rfl, s6, hq6⟩
        obtain ⟨m, hm, rfl⟩ := intsN_item hy
        have mis := List.mem_of_mem_drop (List.mem_of_getElem? hm)
        have hg := presM_lt (hin m mis)
        have s16 := s15.trans s6
        refine ⟨_, rfl, _, rfl, _, rfl, N, _, rfl, s16.seq hN, fun P2 nP2 => ?_⟩
        rw [ec]
        have sP2 := Same.new (o := .lst ((intsN (is.take d)).map V.int)) nP2
        have dP2 : upd H6 P2 (.lst ((intsN (is.take d)).map V.int)) P2 = some (.lst ((intsN (is.take d)).map V.int)) := upd_same
        generalize upd H6 P2 (.lst ((intsN (is.take d)).map V.int)) = H7 at sP2 dP2 ⊢
        refine ⟨_, rfl, _, rfl, P2, Vs, is.take d, col t, m, rfl, SqL.of dP2, SqL.of (sP2 _ _ (s6 _ _ (sD _ _ hV))), hp.sublist (List.take_sublist d _), fun i mi => hl7 i (List.mem_of_mem_take mi), by rw [cl, tl], hl7 m mis, fun y my => ?_, fun H8 s8 => ?_⟩
        · obtain ⟨i, hi⟩ := List.mem_iff_getElem?.mp my
          have li := item_lt hi
          rw [cl] at li
          have hm' : (is.take d)[i]? = some ((is.take d)[i]'(by omega)) := List.getElem?_eq_getElem (by omega)
          generalize (is.take d)[i]'(by omega) = m' at hm'
          rw [hcol i m' hm'] at hi
          rw [← Option.some.inj hi]
          exact hwd m' (List.mem_of_mem_take (List.mem_of_getElem? hm'))
        have s18 := s16.trans (sP2.trans s8)
        refine ⟨_, rfl, _, rfl, R, _, _, _, rfl, rfl, (hR.same s18).1, at_of (j := m) rfl (refsO_get hg.2), _, rfl, (rowAt F m).1, _, _, _, rfl, rfl, (hR.same s18).rows m (hin m mis), at_of (j := t) (by omega) (by rw [List.getElem?_map, hget m mis]; rfl), rfl, _, rfl, ite2 (fun q => ?_) (fun q => ?_)⟩
        · refine kN (fun ag => ?_) _ s18
          have ne : valM (intsN (is.take d)) (col t) ((m : Nat) : Int) ≠ (rowAt F m).2.getD t 0 := fun e => by
            rw [e] at q
            simp at q
          have e := ag m (List.mem_of_getElem? hm)
          refine ne ?_
          rw [← e, pieceM_get ht]
        · have e : valM (intsN (is.take d)) (col t) ((m : Nat) : Int) = (rowAt F m).2.getD t 0 := Classical.byContradiction fun z => q (by first | exact decide_eq_true (fun y => z (V.int.inj y)) | (rw [decide_eq_false fun y => z (V.int.inj y)]; rfl))
          refine ⟨_, rfl, s6.trans (sP2.trans s8), fun j' m' hj' hm' => ?_⟩
          by_cases z : j' = j
          · subst z
            rw [hm] at hm'
            rw [← Option.some.inj hm']
            exact e
          · exact hq6 j' m' (by omega) hm'
      rintro σ H6 ⟨v6, rfl, s6, hq6⟩
      refine ⟨_, _, _, rfl, s15.trans s6, fun t' ht' m mm => ?_⟩
      by_cases z : t' = t
      · subst z
        obtain ⟨j, hj⟩ := List.mem_iff_getElem?.mp mm
        refine hq6 j m ?_ hj
        have := item_lt hj
        rwa [List.length_map, intsN_len]
      · exact hq t' (by omega) m mm
    rintro σ H1 ⟨v4, v5, v6, rfl, s1, hq⟩
    refine kT (fun i mi => ?_) _ s1
    have mis := List.mem_of_mem_drop mi
    obtain ⟨rl, rw'⟩ := hF.2 i (hin i mis)
    refine List.ext_getElem (by rw [rl]; simp [pieceM]) fun t h1 h2 => ?_
    have ht : t < n := by rw [rl] at h2; exact h2
    have e1 : (pieceM (intsN (is.take d)) (snds ((is.take d).map (rowAt F))) ((i : Nat) : Int) n)[t] = valM (intsN (is.take d)) (col t) ((i : Nat) : Int) := by simp [pieceM, col]
    rw [e1, hq t ht i mi]
    exact getD_item (List.getElem?_eq_getElem h2)
theorem sc_weights : FnScope ["places", "x", "at", "place"] ["places", "x"] (defScope s_weights) := ⟨rfl, rfl, rfl, by decide +kernel, rfl, by decide +kernel, by decide +kernel⟩
theorem ok_weights (T : Txt K mg a) : FnOk P w K mg base CX0 3 a.f_weights a.d_weights ["places", "x"] (sp_weights K a) := by
  refine T.F_weights.ok sc_weights (fun vs H Q E h => ?len) (fun cdv A outer s H vs Q E hr h => ?body)
  case len =>
    exact sp_weights_len h
  case body =>
    obtain ⟨l, ws, x, rfl, hW, hap, hlen, k⟩ := h
    refine ⟨_, (pss_one (ps_ret (pe_lc (own := [("at", 2), ("place", 3)]) (g := (gTup K 2 (gCons (gName 2) (gCons (gName 3) gNil)))) (by rfl) sc_weights.nd (pi_enum (by rfl) T.n_enumerate (pa_cons (pv 0) pa_nil)) (blkOk_by (own := [("at", 2), ("place", 3)]) (N := ["places", "x", "at", "place"]) (sc := defScope s_weights) (by decide +kernel))
      (fun _ _ _ _ _ => (pg_tup rfl (pgs_cons (pg_name (i := 2) sc_weights.nd rfl (Or.inl rfl)) (pgs_cons (pg_name (i := 3) sc_weights.nd rfl (Or.inl rfl)) pgs_nil)))) (fun _ _ _ _ _ => pts_nil) (fun _ _ _ _ _ => (pe_call (ok_weight T) (hr.mono (by decide)) rfl T.g_weight T.F_weight.kp T.d_weight .nil pass0 (pa_cons (pv 3) (pa_cons (pe_op op_cat (pe_slice (by exact sl_list : SlR _ (rSlL K)) (pv 0) po_none (po_some (pv 2))) (pe_slice (by exact sl_list : SlR _ (rSlL K)) (pv 0) (po_some (pe_op op_add (pv 2) pe_int)) po_none)) (pa_cons (pv 1) pa_nil)))))))), ?_⟩
    have hS : SqL K H l (ws.map V.int) := SqL.of hW
    refine ⟨_, rfl, l, _, rfl, hS, fun D new => lc_it walk_enum (fun i H' => Same H H' ∧ H' D = some (.lst (((weightsM ws x).take i).map V.int))) ⟨Same.new new, upd_same⟩ (fun i H' _ q => q.1.seq hS) ?_ ?_⟩
    · rintro i y H1 H2 hi ⟨s1, hD⟩ ⟨t, u, v, rfl, ht, rfl, hu, hv⟩
      cases hu
      obtain ⟨c, hc, rfl⟩ := int_item hv
      have s2 : Same H1 (upd H1 t (.tup [V.int (i : Nat), V.int c])) := Same.new ht
      have s3 := s1.trans s2
      have w3 := s3 _ _ hW
      refine ⟨t, _, rfl, SqT.of upd_same, rfl, _, _, rfl, _, _, rfl, rfl, ?_⟩
      refine ⟨rfl, _, rfl, _, rfl, _, rfl, _, rfl, l, _, rfl, SqL.of w3, fun p1 n1 => ?_⟩
      have s4 := Same.new (o := .lst (cutV (ws.map V.int) none (some ((i : Nat) : Int)))) n1
      refine ⟨_, rfl, _, rfl, _, _, rfl, rfl, _, rfl, l, _, rfl, SqL.of (s4 _ _ w3), fun p2 n2 => ?_⟩
      have s5 := Same.new (o := .lst (cutV (ws.map V.int) (some (((i : Nat) : Int) + 1)) none)) n2
      have q1 := s5 _ _ (upd_same (H := upd H1 t (.tup [V.int (i : Nat), V.int c])) (a := p1) (o := .lst (cutV (ws.map V.int) none (some ((i : Nat) : Int)))))
      refine ⟨p1, p2, _, _, rfl, rfl, q1, upd_same, ?_, fun p3 n3 => ?_⟩
      · have a1 := cutV_length (ws.map V.int) none (some ((i : Nat) : Int))
        have a2 := cutV_length (ws.map V.int) (some (((i : Nat) : Int) + 1)) none
        rw [List.length_map] at a1 a2
        exact Nat.le_of_lt (small _ (by omega))
      · have eo : cutV (ws.map V.int) none (some ((i : Nat) : Int)) ++ cutV (ws.map V.int) (some (((i : Nat) : Int) + 1)) none = (others ws i).map V.int := by
          rw [cut_take, show (((i : Nat) : Int) + 1) = ((i + 1 : Nat) : Int) from rfl, cut_drop]
          simp [others, List.map_append, List.map_take, List.map_drop]
        rw [eo]
        have s6 := Same.new (o := .lst ((others ws i).map V.int)) n3
        have hi' : i < ws.length := by simpa using hi
        have gc : ws.getD i 0 = c := getD_item hc
        have ok := wgt_ok (others_apart hap hi')
        rw [gc] at ok
        refine ⟨_, rfl, c, p3, others ws i, x, rfl, SqL.of upd_same, ok, fun H7 s7 => ?_⟩
        have s8 := (((s3.trans s4).trans s5).trans s6).trans s7
        have d8 := s7 _ _ (s6 _ _ (s5 _ _ (s4 _ _ (s2 _ _ hD))))
        refine ⟨_, d8, small _ (by simp; omega), fun b o e => ?_, ?_⟩
        · rw [upd_ne (ne_of_none e new)]
          exact s8 b o e
        · rw [upd_same, take_snoc (weightsM_get hi'), List.map_append, gc]
          rfl
    · rintro H' ⟨s', hD⟩
      rw [List.take_of_length_le (by rw [weightsM_length]; simp)] at hD
      exact k D H' s' new hD
theorem sc_law_words : FnScope ["pot", "count", "k"] ["pot", "count"] (defScope s_law_words) := ⟨rfl, rfl, rfl, by decide +kernel, rfl, by decide +kernel, by decide +kernel⟩
theorem ok_law_words (T : Txt K mg a) : FnOk P w K mg base CX0 3 a.f_law_words a.d_law_words ["pot", "count"] (sp_law_words K a) := by
  refine T.F_law_words.ok sc_law_words (fun vs H Q E h => ?len) (fun cdv A outer s H vs Q E hr h => ?body)
  case len =>
    exact sp_law_words_len h
  case body =>
    obtain ⟨p, l, n, rfl, hP, n0, n5, k⟩ := h
    refine ⟨_, (pss_one (ps_ret (pe_lc (own := [("k", 2)]) (g := (gName 2)) (by rfl) sc_law_words.nd (pi_range1 (by rfl) T.n_range (pa_cons (pv 1) pa_nil)) (blkOk_by (own := [("k", 2)]) (N := ["pot", "count", "k"]) (sc := defScope s_law_words) (by decide +kernel))
      (fun _ _ _ _ _ => (pg_name (i := 2) sc_law_words.nd rfl (Or.inl rfl))) (fun _ _ _ _ _ => pts_nil) (fun _ _ _ _ _ => (pe_call (ok_law_word T) (hr.mono (by decide)) rfl T.g_law_word T.F_law_word.kp T.d_law_word .nil pass0 (pa_cons (pv 0) pa_nil)))))), ?_⟩
    refine ⟨_, rfl, n, rfl, by omega, by omega, fun D new => lc_it walk_range (fun i H' => ∃ ws : List Int, But p H H' ∧ Pot H' p l ∧ H' D = some (.lst (ws.map V.int)) ∧ ws.length = i ∧ ∀ w ∈ ws, Wd w)
      ⟨[], (Same.new new).but, hP.new new, upd_same, rfl, fun _ m => nomatch m⟩ (fun _ _ _ _ => True.intro) ?_ ?_⟩
    · rintro i y H1 H2 hi ⟨ws, b1, P1, d1, hl, hw⟩ ⟨rfl, rfl⟩
      have off := hP.off new
      refine ⟨rfl, _, rfl, p, l, rfl, P1, fun v H3 wv P3 o3 => ?_⟩
      refine ⟨_, by rw [o3 _ off.1.symm]; exact d1, small _ (by simp; omega), ws ++ [v], ?_, P3.only Only.upd off.1 off.2, ?_, by simp [hl], ?_⟩
      · intro b o e nb
        rw [upd_ne (ne_of_none e new), o3 _ nb]
        exact b1 b o e nb
      · rw [upd_same, List.map_append]
        rfl
      · intro w m
        rcases List.mem_append.mp m with m | m
        · exact hw w m
        · have : w = v := by simpa using m
          rw [this]
          exact wv
    · rintro H' ⟨ws, b1, P1, d1, hl, hw⟩
      exact k D ws H' hl hw new d1 b1 P1
theorem sc_law_due : FnScope ["pieces", "left", "data", "length", "best", "mask", "chosen", "rest", "k"] ["pieces", "left", "data", "length"] (defScope s_law_due) := ⟨rfl, rfl, rfl, by decide +kernel, rfl, by decide +kernel, by decide +kernel⟩
theorem ok_law_due (T : Txt K mg a) : FnOk P w K mg base CX0 3 a.f_law_due a.d_law_due ["pieces", "left", "data", "length"] (sp_law_due K a) := by
  refine T.F_law_due.ok sc_law_due (fun vs H Q E h => ?len) (fun cdv A outer s H vs Q E hr h => ?body)
  case len =>
    exact sp_law_due_len h
  case body =>
    obtain ⟨R, L, F, d, n, rfl, hR, hF, l7, h500, hL, d1, dl, kQ⟩ := h
    refine ⟨_, (pss_cons (ps_set (i := 4) sc_law_due.nd rfl (Or.inl rfl) pe_non)
      (pss_cons (ps_for PassesOwn.never rfl (pi_range1 (by rfl) T.n_range (pa_cons (pe_op op_pow pe_int pe_int) pa_nil)) (pg_name (i := 5) sc_law_due.nd rfl (Or.inr rfl))
      (pss_cons (ps_set (i := 6) sc_law_due.nd rfl (Or.inr rfl) (pe_lc (own := [("k", 8)]) (g := (gName 8)) (by rfl) sc_law_due.nd (pi_range1 (by rfl) T.n_range (pa_cons (pe_callB call_len_seq (by rfl) T.n_len PySem.boot_len (pa_cons (pv 1) pa_nil)) pa_nil)) (blkOk_by (own := [("k", 8)]) (N := ["pieces", "left", "data", "length", "best", "mask", "chosen", "rest", "k"]) (sc := defScope s_law_due) (by decide +kernel))
      (fun _ _ _ _ _ => (pg_name (i := 8) sc_law_due.nd rfl (Or.inl rfl))) (fun _ _ _ _ _ => (pts_one (pt_cmpR op_eq (pe_op op_mod (pe_callTy call_int1 (by rfl) T.n_int (by decide +kernel) (pa_cons (pe_op op_fdiv (pv 5) (pe_ix (by exact ix_list : IxR _ (rIxL K)) (pe_lst (pa_cons pe_int (pa_cons pe_int (pa_cons pe_int (pa_cons pe_int (pa_cons pe_int (pa_cons pe_int (pa_cons pe_int pa_nil)))))))) (pv 8) (fun _ _ => rfl))) pa_nil)) pe_int) pe_int (nomark _)))) (fun _ _ _ _ _ => (pe_ix (by exact ix_list : IxR _ (rIxL K)) (pv 1) (pv 8) (fun _ _ => rfl)))))
      (pss_one (ps_if (PW.pt (pw_and (pt_cmpR op_lt (pv 5) (pe_ix ix_list (pe_lst (pa_cons pe_int (pa_cons pe_int (pa_cons pe_int (pa_cons pe_int (pa_cons pe_int (pa_cons pe_int (pa_cons pe_int (pa_cons pe_int pa_nil))))))))) (pe_callB call_len_seq (by rfl) T.n_len PySem.boot_len (pa_cons (pv 1) pa_nil)) (fun _ _ => rfl)) (nomark _)) (pw_and1 (pt_cmpR op_le (pe_op op_mul pe_int (pe_callB call_len_seq (by rfl) T.n_len PySem.boot_len (pa_cons (pv 6) pa_nil))) (pe_op op_sub (pe_callB call_len_seq (by rfl) T.n_len PySem.boot_len (pa_cons (pv 1) pa_nil)) (pv 2)) (nomark _)))))
      (pss_cons (ps_setLc (i := 7) (own := [("k", 8)]) (g := (gName 8)) (by rfl) sc_law_due.nd rfl rfl (sw_true rfl rfl rfl (by decide +kernel)) (pi_list (pv 1)) (blkOk_by (own := [("k", 8)]) (N := ["pieces", "left", "data", "length", "best", "mask", "chosen", "rest", "k"]) (sc := defScope s_law_due) (by decide +kernel))
      (fun _ _ _ _ _ => (pg_name (i := 8) sc_law_due.nd rfl (Or.inl rfl))) (fun _ _ _ _ _ => (pts_one (pt_cmpR (by exact op_notIn_seq : OpR _ _ (rIn K true)) (pv 8) (pv 6) (by rfl)))) (fun _ _ _ _ _ => (pv 8)))
      (pss_one (ps_if (PW.pt (pw_and (PW.pt (pw_or (pt_cmpR op_isN (pv 4) pe_non (nomark _)) (pw_or1 (pt_cmpR op_lt (pe_callB call_len_seq (by rfl) T.n_len PySem.boot_len (pa_cons (pv 6) pa_nil)) (pe_callB call_len_seq (by rfl) T.n_len PySem.boot_len (pa_cons (pv 4) pa_nil)) (nomark _))))) (pw_and1 (pt_val (pe_call (ok_law_fits T) (hr.mono (by decide)) rfl T.g_law_fits T.F_law_fits.kp T.d_law_fits .nil pass0 (pa_cons (pv 0) (pa_cons (pv 7) (pa_cons (pv 2) (pa_cons (pv 3) pa_nil)))))))))
      (pss_one (ps_set (i := 4) sc_law_due.nd rfl (Or.inl rfl) (pv 6)))
      pss_nil)))
      pss_nil))))
      (pss_one (ps_ret (pv 4))))), ?_⟩
    have pl := presM_len F
    have xl : ((intsN (presM F)).map V.int).length = (presM F).length := by rw [List.length_map, intsN_len]
    refine ⟨_, _, rfl, rfl, ⟨by decide, by decide⟩, _, rfl, by decide, by decide, ?_⟩
    rw [show ((2 : Int) ^ (7 : Int).toNat).toNat = 128 from by decide]
    refine for_range (lo := 0) (n := 128) (fun m σ H' => ∃ (b : V) (v5 v6 v7 v8 : Option V), σ = [some (.ref R), some (.ref L), some (.int (d : Int)), some (.int (n : Int)), some b, v5, v6, v7, v8] ∧ Same H H' ∧ BestM F d n H H' m b) ⟨.non, none, none, none, none, rfl, Same.refl _, .inl ⟨rfl, fun m' h => absurd h (by omega)⟩⟩ ?_ ?_
    · rintro m σ H1 hm ⟨b, v5, v6, v7, v8, rfl, s1, hb⟩
      -- chosen
      refine ⟨_, rfl, L, _, rfl, .inl (s1.seq hL), _, rfl, by omega, by omega, ?_⟩
      rw [xl, Int.toNat_natCast]
      refine fun Ch nCh => lc_it walk_range (fun k H' => Same H1 H' ∧ H' Ch = some (.lst ((intsN (selM ((presM F).take k) m)).map V.int))) ⟨Same.new nCh, upd_same⟩ (fun _ _ _ _ => True.intro) ?_ ?_
      · rintro k y H2 H3 hk ⟨s2, hC⟩ ⟨rfl, rfl⟩
        have hx : (presM F)[k]? = some ((presM F)[k]) := List.getElem?_eq_getElem hk
        generalize (presM F)[k] = c at hx
        have ls : (selM ((presM F).take k) m).length ≤ k := Nat.le_trans (selM_sub _ _).length_le (by rw [List.length_take]; omega)
        have es : selM ((presM F).take (k + 1)) m = selM ((presM F).take k) m ++ if m / 2 ^ k % 2 = 1 then [c] else [] := by
          rw [take_snoc hx, selM_snoc, List.length_take, Nat.min_eq_left (by omega)]
        refine ⟨rfl, _, rfl, (by show 7 ≤ sizeLine; decide), fun q nq => ?_⟩
        have sq := Same.new (o := .lst [V.int 1, V.int 2, V.int 4, V.int 8, V.int 16, V.int 32, V.int 64]) nq
        refine ⟨_, rfl, q, (pows 7).map V.int, _, _, rfl, rfl, SqL.of upd_same, at_of (j := k) (by omega) (pows_get (by omega)), ?_⟩
        have hp : ∀ k : Fin 7, 0 < (2 : Int) ^ k.val ∧ (2 : Int) ^ k.val < 1073741824 := by decide
        have hpk := hp ⟨k, by omega⟩
        generalize upd H3 q (.lst [V.int 1, V.int 2, V.int 4, V.int 8, V.int 16, V.int 32, V.int 64]) = H4 at sq ⊢
        have s4 := s2.trans sq
        have hC4 := sq _ _ hC
        refine ⟨_, _, rfl, rfl, hpk, .inl ⟨_, rfl, _, _, rfl, rfl, (by show (0 : Int) < 2; decide), rfl, _, rfl, ite2 (fun z => ?_) (fun z => ?_)⟩⟩
        · have hz : m / 2 ^ k % 2 = 1 := (bit_eq m k).1 (by have := V.int.inj (of_decide_eq_true z); rw [Int.zero_add] at this; exact this)
          rw [es, if_pos hz]
          refine ⟨_, rfl, _, rfl, L, _, _, _, rfl, rfl, (s1.trans s4).seq hL, at_of (j := k) (by omega) (by unfold intsN; rw [List.getElem?_map, List.getElem?_map, hx]; rfl), _, hC4, small _ (by rw [List.length_map, intsN_len]; omega), same_put s4 nCh, ?_⟩
          rw [upd_same]
          unfold intsN
          rw [List.map_append, List.map_append]
          rfl
        · have hz : ¬ m / 2 ^ k % 2 = 1 := fun y => z (decide_eq_true (congrArg V.int (by show (0 + (m : Int)) / _ % 2 = 1; rw [Int.zero_add]; exact (bit_eq m k).2 y)))
          rw [es, if_neg hz, List.append_nil]
          exact ⟨s4, hC4⟩
      rintro H2 ⟨s2, hC⟩
      rw [List.take_of_length_le (Nat.le_refl _)] at hC
      have s12 := s1.trans s2
      have hsub := selM_sub (presM F) m
      have lsm := hsub.length_le
      refine ⟨_, rfl, (by show 8 ≤ sizeLine; decide), fun q nq => ?_⟩
      have sq := Same.new (o := .lst [V.int 1, V.int 2, V.int 4, V.int 8, V.int 16, V.int 32, V.int 64, V.int 128]) nq
      refine ⟨_, rfl, L, _, rfl, .inl (sq.seq (s12.seq hL)), q, (pows 8).map V.int, _, _, rfl, rfl, SqL.of upd_same, at_of (j := (presM F).length) (by rw [xl]) (pows_get (by omega)), ?_⟩
      generalize upd H2 q (.lst [V.int 1, V.int 2, V.int 4, V.int 8, V.int 16, V.int 32, V.int 64, V.int 128]) = H4 at sq ⊢
      have s4 := s12.trans sq
      have hC4 := sq _ _ hC
      have hb4 := (hb.same s2).same sq
      have nCh0 : H Ch = none := by
        cases e : H Ch with
        | none => rfl
        | some o => rw [s1 _ _ e] at nCh; cases nCh
      refine ⟨_, _, rfl, rfl, _, rfl, ite2 (fun z1 => ?_) (fun z1 => iteF ⟨b, _, _, _, _, rfl, s4, hb4.keep fun l _ => ?_⟩)⟩
      rotate_left
      · refine absurd (decide_eq_true ?_) z1
        show (0 : Int) + (m : Int) < (2 : Int) ^ (presM F).length
        have e : ((2 ^ (presM F).length : Nat) : Int) = (2 : Int) ^ (presM F).length := by rw [Int.natCast_pow]; rfl
        omega
      refine ⟨_, rfl, Ch, _, rfl, .inl (SqL.of hC4), _, _, rfl, rfl, .inl ⟨by decide, by decide⟩, _, rfl, L, _, rfl, .inl (s4.seq hL), _, rfl, _, _, rfl, rfl, _, _, rfl, rfl, _, rfl, ite2 (fun z2 => ?_) (fun z2 => ⟨b, _, _, _, _, rfl, s4, hb4.keep fun _ c => ?_⟩)⟩
      rotate_left
      · have h2 := c.2.1
        refine absurd (decide_eq_true ?_) z2
        rw [xl, List.length_map, intsN_len]
        show (2 : Int) * _ ≤ _
        omega
      have hl2 : 2 * (selM (presM F) m).length + d ≤ (presM F).length := by
        have := of_decide_eq_true z2
        rw [xl, List.length_map, intsN_len] at this
        have this : (2 : Int) * ((selM (presM F) m).length : Int) ≤ ((presM F).length : Int) - (d : Int) := this
        omega
      have k1 := less_len (selM (presM F) m) (presM_nodup F)
      -- rest
      refine ⟨_, rfl, L, rfl, ⟨_, s4.seq hL⟩, fun Re nRe => lc_list (K := K) (a := L) (xs := (intsN (presM F)).map V.int) (fun i' H' => Same H4 H' ∧ H' Re = some (.lst ((intsN (lessM ((presM F).take i') (selM (presM F) m))).map V.int))) ⟨Same.new nRe, upd_same⟩ (fun i' H' _ q => (s4.trans q.1).seq hL) ?_ ?_⟩
      · rintro i' y H6 hy ⟨s6, hR6⟩
        obtain ⟨c, hc, rfl⟩ := intsN_item hy
        have hi' := item_lt hc
        have le : (lessM ((presM F).take i') (selM (presM F) m)).length ≤ i' := Nat.le_trans (List.length_filter_le _ _) (by rw [List.length_take]; omega)
        refine ⟨rfl, _, rfl, _, rfl, Ch, _, rfl, .inl (SqL.of (s6 _ _ hC4)), rfl, flat_intsN _, _, rfl, ?_⟩
        rw [inV_less]
        rw [less_take hc]
        by_cases q : c ∈ selM (presM F) m
        · have e1 : (if c ∉ selM (presM F) m then [c] else []) = ([] : List Nat) := if_neg fun z => z q
          rw [e1, decide_eq_false (fun z => z q : ¬ (c ∉ selM (presM F) m)), List.append_nil]
          exact iteF ⟨s6, hR6⟩
        · have e1 : (if c ∉ selM (presM F) m then [c] else []) = [c] := if_pos q
          rw [e1, decide_eq_true q]
          refine iteT ⟨_, rfl, _, hR6, small _ (by rw [List.length_map, intsN_len]; omega), same_put s6 nRe, ?_⟩
          rw [upd_same]
          unfold intsN
          rw [List.map_append, List.map_append]
          rfl
      rintro H6 ⟨s46, hRe⟩
      rw [List.take_of_length_le (by rw [xl]; exact Nat.le_refl _)] at hRe
      have s6 := s4.trans s46
      have hb6 := hb4.same s46
      rcases id hb6 with ⟨rfl, h2⟩ | ⟨B, S, rfl, nB, hB, hS, hmin⟩
      · refine ⟨_, rfl, rfl, _, rfl, ite2 (fun _ => iteT ?_) (fun z => absurd (decide_eq_true rfl) z)⟩
        have fit : True := True.intro
        refine ⟨_, rfl, _, rfl, _, rfl, _, rfl, R, Re, F, lessM (presM F) (selM (presM F) m), d, n, rfl, hR.same s6, hF, l7, h500, SqL.of hRe, less_pair (presM_pair F), fun i mi => (less_mem.mp mi).1, d1, by omega, fun ag H7 s7 => ?_, fun ag H7 s7 => ?_⟩
        · refine ⟨_, rfl, iteT ⟨_, rfl, .ref Ch, _, _, _, _, rfl, s6.trans s7, .inr ⟨Ch, selM (presM F) m, rfl, nCh0, s7 _ _ (s46 _ _ hC4), ⟨hsub, hl2, ag⟩, fun m' l1 l2 c => ?_⟩⟩⟩
          by_cases qm : m' = m
          · subst qm
            exact Nat.le_refl _
          · exact absurd c (h2 m' (by omega) l2)
        · exact ⟨_, rfl, iteF ⟨.non, _, _, _, _, rfl, s6.trans s7, (hb6.same s7).keep fun _ c => absurd c.2.2 ag⟩⟩
      · refine ⟨_, rfl, rfl, _, rfl, ite2 (fun z => nomatch (of_decide_eq_true z)) (fun _ => ?_)⟩
        refine ⟨_, rfl, Ch, _, rfl, .inl (SqL.of (s46 _ _ hC4)), _, rfl, B, _, rfl, .inl (SqL.of hB), _, _, rfl, rfl, _, rfl, ite2 (fun z3 => ?_) (fun z3 => iteF ⟨.ref B, _, _, _, _, rfl, s6, hb6.keep fun _ c => ⟨B, S, rfl, hB, ?_⟩⟩)⟩
        rotate_left
        · refine Classical.byContradiction fun y => z3 (decide_eq_true ?_)
          rw [List.length_map, intsN_len, List.length_map, intsN_len]
          omega
        have lt3 : (selM (presM F) m).length < S.length := by
          have := of_decide_eq_true z3
          rw [List.length_map, intsN_len, List.length_map, intsN_len] at this
          omega
        have fit : True := True.intro
        refine ⟨_, rfl, _, rfl, _, rfl, _, rfl, R, Re, F, lessM (presM F) (selM (presM F) m), d, n, rfl, hR.same s6, hF, l7, h500, SqL.of hRe, less_pair (presM_pair F), fun i mi => (less_mem.mp mi).1, d1, by omega, fun ag H7 s7 => ?_, fun ag H7 s7 => ?_⟩
        · refine ⟨_, rfl, iteT ⟨_, rfl, .ref Ch, _, _, _, _, rfl, s6.trans s7, .inr ⟨Ch, selM (presM F) m, rfl, nCh0, s7 _ _ (s46 _ _ hC4), ⟨hsub, hl2, ag⟩, fun m' l1 l2 c => ?_⟩⟩⟩
          by_cases qm : m' = m
          · subst qm
            exact Nat.le_refl _
          · exact Nat.le_trans (Nat.le_of_lt lt3) (hmin m' (by omega) l2 c)
        · exact ⟨_, rfl, iteF ⟨.ref B, _, _, _, _, rfl, s6.trans s7, (hb6.same s7).keep fun _ c => absurd c.2.2 ag⟩⟩
    rintro σ H1 ⟨b, v5, v6, v7, v8, rfl, s1, hb⟩
    have lim : (2 : Nat) ^ (presM F).length ≤ 128 := Nat.pow_le_pow_right (n := 2) (by decide) (show (presM F).length ≤ 7 by omega)
    refine ⟨_, rfl, ?_⟩
    rcases hb with ⟨rfl, h2⟩ | ⟨B, S, rfl, nB, hB, hS, hmin⟩
    · refine kQ .non _ s1 (.inl ⟨rfl, fun S c => ?_⟩)
      obtain ⟨m, hm, e⟩ := sub_selM c.1
      exact h2 m (by omega) hm (by rw [e]; exact c)
    · refine kQ (.ref B) _ s1 (.inr ⟨S, B, rfl, ⟨hS, fun S' c' => ?_⟩, hB⟩)
      obtain ⟨m, hm, e⟩ := sub_selM c'.1
      have := hmin m (by omega) hm (by rw [e]; exact c')
      rwa [e] at this
theorem sc_piece_at : FnScope ["known", "places", "number", "factors", "column", "factor", "word"] ["known", "places", "number"] (defScope s_piece_at) := ⟨rfl, rfl, rfl, by decide +kernel, rfl, by decide +kernel, by decide +kernel⟩
theorem ok_piece_at (T : Txt K mg a) : FnOk P w K mg base CX0 4 a.f_piece_at a.d_piece_at ["known", "places", "number"] (sp_piece_at K a) := by
  refine T.F_piece_at.ok sc_piece_at (fun vs H Q E h => ?len) (fun cdv A outer s H vs Q E hr h => ?body)
  case len =>
    exact sp_piece_at_len h
  case body =>
    obtain ⟨R, P, F, ws, x, n, rfl, hR, hP, hap, hlen, hne, h8, hn, hrow, k⟩ := h
    refine ⟨_, (pss_cons (ps_set (i := 3) sc_piece_at.nd rfl (Or.inr rfl) (pe_call (ok_weights T) (hr.mono (by decide)) rfl T.g_weights T.F_weights.kp T.d_weights .nil pass0 (pa_cons (pv 1) (pa_cons (pv 2) pa_nil))))
      (pss_one (ps_ret (pe_lc (own := [("column", 4)]) (g := (gName 4)) (by rfl) sc_piece_at.nd (pi_zipS (by rfl) T.n_zip (pv 0)) (blkOk_by (own := [("column", 4)]) (N := ["known", "places", "number", "factors", "column", "factor", "word"]) (sc := defScope s_piece_at) (by decide +kernel))
      (fun _ _ _ _ _ => (pg_name (i := 4) sc_piece_at.nd rfl (Or.inl rfl))) (fun _ _ _ _ _ => pts_nil) (fun _ _ _ _ _ => (pe_op op_mod (pe_callB (by exact cr_sum rfl : CallR _ _ (rSum K)) (by rfl) T.n_sum (by decide +kernel) (pa_cons (pe_lc (own := [("factor", 5), ("word", 6)]) (g := (gTup K 2 (gCons (gName 5) (gCons (gName 6) gNil)))) (by rfl) sc_piece_at.nd (by exact pi_zipM (by rfl) T.n_zip (pa_cons (pv 3) (pa_cons (pv 4) pa_nil)) : PI _ _ _ (iZipM K _)) (blkOk_by (own := [("factor", 5), ("word", 6)]) (N := ["known", "places", "number", "factors", "column", "factor", "word"]) (by kernel_rfl))
      (fun _ _ _ _ _ => (pg_tup rfl (pgs_cons (pg_name (i := 5) sc_piece_at.nd rfl (Or.inl rfl)) (pgs_cons (pg_name (i := 6) sc_piece_at.nd rfl (Or.inl rfl)) pgs_nil)))) (fun _ _ _ _ _ => pts_nil) (fun _ _ _ _ _ => (pe_op op_mul (pv 5) (pv 6)))) pa_nil)) (pe_const T.g_PRIME))))))), ?_⟩
    refine ⟨_, rfl, _, rfl, P, ws, x, rfl, hP, hap, by omega, fun D1 H1 s1 n1 h1 => ?_⟩
    have R1 := hR.same s1
    have wl : (weightsM ws x).length = F.length := by rw [weightsM_length, hlen]
    have hr : (F.map (·.1)).map V.ref = refs F := by simp [refs]
    refine ⟨_, rfl, R, F.map (·.1), rfl, by rw [hr]; exact R1.1, by simpa using hne, by simpa using h8, fun l hl => ?_, ?_⟩
    · obtain ⟨e, me, rfl⟩ := List.mem_map.1 hl
      exact ⟨_, R1.2 e me⟩
    refine fun D new => lc_it (walk_cols hne hrow) (fun i H' => Same H1 H' ∧ H' D = some (.lst (((pieceM ws (snds F) x n).take i).map V.int))) ⟨Same.new new, upd_same⟩ (fun i H' _ q e m => q.1.seq (R1.2 e m)) ?_ ?_
    · rintro i y Ha Hb hi ⟨s2, hD⟩ ⟨T, rfl, hT, rfl⟩
      refine ⟨rfl, ?_⟩
      have s3 : Same Ha (upd Ha T (.tup (((snds F).map fun r => r.getD i 0).map V.int))) := Same.new hT
      have d1 := s3 _ _ (s2 _ _ h1)
      have cl : ((snds F).map fun r => r.getD i 0).length = F.length := by simp [snds]
      refine ⟨_, rfl, _, rfl, D1, T, _, _, rfl, SqL.of d1, SqT.of upd_same, fun G nG => lc_it (walk_zipM (n := F.length) (by rw [List.length_map]; exact wl) (by rw [List.length_map]; exact cl)) (fun j H' => Same (upd Ha T (.tup (((snds F).map fun r => r.getD i 0).map V.int))) H' ∧ H' G = some (.lst (((List.range j).map fun j => (weightsM ws x).getD j 0 * ((snds F).map fun r => r.getD i 0).getD j 0).map V.int)))
        ⟨Same.new nG, upd_same⟩ (fun i H' _ q => ⟨q.1.seq (SqL.of d1), q.1.tup (SqT.of upd_same)⟩) ?_ ?_⟩
      · rintro j y Hc Hd hj ⟨s4, hG⟩ ⟨t, u, v, rfl, ht, rfl, hu, hv⟩
        obtain ⟨c, hc, rfl⟩ := int_item hu
        obtain ⟨d, hd, rfl⟩ := int_item hv
        have s5 : Same Hc (upd Hc t (.tup [V.int c, V.int d])) := Same.new ht
        refine ⟨t, _, rfl, SqT.of upd_same, rfl, _, _, rfl, _, _, rfl, rfl, ?_⟩
        have wc : 0 ≤ c ∧ c < 65521 := by
          have e1 := weightsM_get (x := x) (ws := ws) (i := j) (by omega)
          rw [hc] at e1
          rw [Option.some.inj e1]
          exact wgt_word _ _ _
        refine ⟨rfl, _, rfl, _, rfl, _, _, rfl, rfl, .inl ⟨by omega, by omega⟩, _, s5 _ _ hG, small _ (by simp; omega), fun b o e => ?_, ?_⟩
        · rw [upd_ne (ne_of_none e nG)]
          exact s5 _ _ (s4 b o e)
        · rw [upd_same, List.range_succ, List.map_append, List.map_append]
          have e1 : (weightsM ws x).getD j 0 = c := getD_item hc
          have e2 : ((snds F).map fun r => r.getD i 0).getD j 0 = d := getD_item hd
          show some (HO.lst (_ ++ [V.int (c * d)])) = some (HO.lst (_ ++ [V.int ((weightsM ws x).getD j 0 * ((snds F).map fun r => r.getD i 0).getD j 0)]))
          rw [e1, e2]
      · rintro H3 ⟨s4, hG⟩
        refine ⟨G, _, rfl, SqL.of hG, _, _, rfl, rfl, (by show (0 : Int) < 65521; decide), ?_⟩
        have e : ((List.range F.length).map fun j => (weightsM ws x).getD j 0 * ((snds F).map fun r => r.getD i 0).getD j 0).sum % 65521 = valM ws ((snds F).map fun r => r.getD i 0) x := by
          unfold valM dotR
          rw [wl]
        have g : (pieceM ws (snds F) x n)[i]? = some (valM ws ((snds F).map fun r => r.getD i 0) x) := by simp [pieceM, hi]
        refine ⟨_, s4 _ _ (s3 _ _ hD), small _ (by simp [pieceM]; omega), fun b o e' => ?_, ?_⟩
        · rw [upd_ne (ne_of_none e' new)]
          exact s4 _ _ (s3 _ _ (s2 b o e'))
        · rw [upd_same, take_snoc g, List.map_append]
          show some (HO.lst (_ ++ [V.int (((List.range F.length).map fun j => (weightsM ws x).getD j 0 * ((snds F).map fun r => r.getD i 0).getD j 0).sum % 65521)])) = _
          rw [e]
          rfl
    · rintro H' ⟨s2, hD⟩
      have e : (pieceM ws (snds F) x n).take n = pieceM ws (snds F) x n := List.take_of_length_le (by simp [pieceM])
      rw [e] at hD
      exact k D H' (s1.trans s2) (Classical.byContradiction fun q => by cases q' : H D with | none => exact q q' | some o => exact absurd (s1 _ _ q') (by rw [new]; exact fun z => nomatch z)) hD
theorem sc_law_stripe : FnScope ["pot", "data", "count", "length", "pieces", "i", "numbers", "k"] ["pot", "data", "count", "length"] (defScope s_law_stripe) := ⟨rfl, rfl, rfl, by decide +kernel, rfl, by decide +kernel, by decide +kernel⟩
theorem ok_law_stripe (T : Txt K mg a) : FnOk P w K mg base CX0 4 a.f_law_stripe a.d_law_stripe ["pot", "data", "count", "length"] (sp_law_stripe K a) := by
  refine T.F_law_stripe.ok sc_law_stripe (fun vs H Q E h => ?len) (fun cdv A outer s H vs Q E hr h => ?body)
  case len =>
    exact sp_law_stripe_len h
  case body =>
    obtain ⟨p, l, d, c, n, rfl, hP, hd, hc, hn, k⟩ := h
    refine ⟨_, (pss_cons (ps_setLc (i := 4) (own := [("k", 7)]) (g := (gName 7)) (by rfl) sc_law_stripe.nd rfl rfl (sw_true rfl rfl rfl (by decide +kernel)) (pi_range1 (by rfl) T.n_range (pa_cons (pv 2) pa_nil)) (blkOk_by (own := [("k", 7)]) (N := ["pot", "data", "count", "length", "pieces", "i", "numbers", "k"]) (sc := defScope s_law_stripe) (by decide +kernel))
      (fun _ _ _ _ _ => (pg_name (i := 7) sc_law_stripe.nd rfl (Or.inl rfl))) (fun _ _ _ _ _ => pts_nil) (fun _ _ _ _ _ => (pe_lst pa_nil)))
      (pss_cons (ps_for PassesOwn.never rfl (pi_range1 (by rfl) T.n_range (pa_cons (pv 3) pa_nil)) (pg_name (i := 5) sc_law_stripe.nd rfl (Or.inl rfl))
      (pss_cons (ps_set (i := 6) sc_law_stripe.nd rfl (Or.inl rfl) (pe_call (ok_law_words T) (hr.mono (by decide)) rfl T.g_law_words T.F_law_words.kp T.d_law_words .nil pass0 (pa_cons (pv 0) (pa_cons (pv 1) pa_nil))))
      (pss_one (ps_for PassesOwn.never rfl (pi_range1 (by rfl) T.n_range (pa_cons (pv 2) pa_nil)) (pg_name (i := 7) sc_law_stripe.nd rfl (Or.inl rfl))
      (pss_one (ps_expr (pe_bm PySem.F.plainAttrs_list PySem.F.slot_list_append PySem.F.type_list_append mt_append (pe_ix ix_list (pv 4) (pv 7) (fun _ _ => rfl)) (pa_cons (pe_call (ok_law_horner T) (hr.mono (by decide)) rfl T.g_law_horner T.F_law_horner.kp T.d_law_horner .nil pass0 (pa_cons (pv 6) (pa_cons (pv 7) pa_nil))) pa_nil))))))))
      (pss_one (ps_ret (pv 4))))), ?_⟩
    refine ⟨_, rfl, _, rfl, by omega, by omega, ?_⟩
    rw [Int.toNat_natCast]
    refine fun D nD => lc_it walk_range (fun i H' => ∃ F : List (Addr × List Int), Same H H' ∧ LA H' D F ∧ F.length = i ∧ (F.map (·.1)).Nodup ∧ ∀ e ∈ F, e.2 = [] ∧ H e.1 = none) ⟨[], Same.new nD, ⟨upd_same, fun _ m => nomatch m⟩, rfl, List.nodup_nil, fun _ m => nomatch m⟩ (fun _ _ _ _ => True.intro) ?_ ?_
    · rintro i y H1 H2 hi ⟨F, s1, L1, lF, nd, hF⟩ ⟨rfl, rfl⟩
      refine ⟨rfl, Nat.zero_le _, fun E nE => ?_⟩
      have L2 := L1.same (Same.new (o := .lst []) nE)
      have nED : E ≠ D := (ne_of_none L1.1 nE).symm
      refine ⟨_, L2.1, small _ (by rw [refs_len]; omega), ?_⟩
      rw [show refs F ++ [V.ref E] = refs (F ++ [(E, [])]) from by unfold refs; rw [List.map_append]; rfl]
      refine ⟨_, fun b o e' => ?_, LA.put fun e' me => ?_, by simp [lF], ?_, fun e' me => ?_⟩
      · rw [upd_ne (ne_of_none e' nD)]
        exact Same.new nE _ _ (s1 b o e')
      · rcases List.mem_append.mp me with me | me
        · exact L2.2 e' me
        · have : e' = (E, []) := by simpa using me
          subst this
          exact ⟨upd_same, nED⟩
      · rw [List.map_append, List.nodup_append]
        refine ⟨nd, by simp, fun a ha b hb => ?_⟩
        obtain ⟨e, me, rfl⟩ := List.mem_map.1 ha
        have : b = E := by simpa using hb
        rw [this]
        exact ne_of_none (L1.2 e me).1 nE
      · rcases List.mem_append.mp me with me | me
        · exact hF e' me
        · have : e' = (E, []) := by simpa using me
          subst this
          exact ⟨rfl, same_none s1 nE⟩
    · rintro H1 ⟨F, s1, L1, lF, nd, hF⟩
      refine ⟨_, rfl, _, rfl, by omega, by omega, ?_⟩
      rw [Int.toNat_natCast]
      have P1 := hP.same s1
      have offD := hP.off nD
      refine for_range (lo := 0) (n := n) (fun i σ H' => ∃ (v5 v6 v7 : Option V) (F : List (Addr × List Int)) (ps : List (List Int)), σ = [some (.ref p), some (.int (d : Int)), some (.int (c : Int)), some (.int (n : Int)), some (.ref D), v5, v6, v7] ∧ Pot H' p l ∧ But p H H' ∧ LA H' D F ∧ F.length = c ∧ (F.map (·.1)).Nodup ∧ (∀ e ∈ F, H e.1 = none ∧ p ≠ e.1 ∧ l ≠ e.1) ∧ ps.length = i ∧ (∀ ws ∈ ps, ws.length = d ∧ ∀ w ∈ ws, Wd w) ∧ ∀ k < c, (snds F).getD k [] = ps.map fun ws => horn ws (k : Int))
        ⟨none, none, none, F, [], rfl, P1, s1.but, L1, lF, nd, fun e m => ⟨(hF e m).2, hP.off (hF e m).2⟩, rfl, fun _ m => (nomatch m), fun k hk => ?_⟩ ?_ ?_
      · have lk : k < F.length := by omega
        have hk' : F[k]? = some F[k] := List.getElem?_eq_getElem lk
        rw [snds_get hk', (hF _ (List.mem_of_getElem? hk')).1]
        rfl
      · rintro i σ H2 hi ⟨v5, v6, v7, F, ps, rfl, P2, b2, L2, lF, nd, hF, lps, hps, hk⟩
        refine ⟨_, rfl, _, rfl, p, l, (d : Int), rfl, P2, by omega, by omega, fun W ws H3 lw ww nW dW b3 P3 => ?_⟩
        rw [Int.toNat_natCast] at lw
        have nWp : W ≠ p := (P2.off nW).1.symm
        have L3 := L2.but P2 offD.1.symm b3
        refine ⟨_, rfl, _, rfl, by omega, by omega, ?_⟩
        rw [Int.toNat_natCast]
        refine for_range (lo := 0) (n := c) (fun j σ H' => ∃ (v7 : Option V) (F : List (Addr × List Int)), σ = [some (.ref p), some (.int (d : Int)), some (.int (c : Int)), some (.int (n : Int)), some (.ref D), some (.int (0 + (i : Nat))), some (.ref W), v7] ∧ Pot H' p l ∧ But p H H' ∧ LA H' D F ∧ F.length = c ∧ (F.map (·.1)).Nodup ∧ (∀ e ∈ F, H e.1 = none ∧ p ≠ e.1 ∧ l ≠ e.1 ∧ W ≠ e.1) ∧ H' W = some (.lst (ws.map V.int)) ∧ ∀ k < c, (snds F).getD k [] = (if k < j then ps ++ [ws] else ps).map fun ws => horn ws (k : Int))
          ⟨_, F, rfl, P3, b2.trans b3, L3, lF, nd, fun e m => ⟨(hF e m).1, (hF e m).2.1, (hF e m).2.2, (ne_of_none (L2.2 e m).1 nW).symm⟩, dW, fun k hk' => by rw [hk k hk']; rfl⟩ ?_ ?_
        · rintro j σ H4 hj ⟨v7, F, rfl, P4, b4, L4, lF, nd, hF, dW4, hk⟩
          have lj : j < F.length := by omega
          have hFj : F[j]? = some F[j] := List.getElem?_eq_getElem lj
          have mj := List.mem_of_getElem? hFj
          have hmj := (hF _ mj)
          have aD : D ≠ F[j].1 := (L4.2 _ mj).2.symm
          have sj : (snds F).getD j [] = F[j].2 := snds_get hFj
          have ej : F[j].2 = ps.map fun ws => horn ws (j : Int) := by
            rw [← sj, hk j hj, if_neg (Nat.lt_irrefl j)]
          refine ⟨_, rfl, _, rfl, D, _, _, _, rfl, rfl, SqL.of L4.1, at_of (j := j) (by omega) (refs_get hFj), .inl ⟨rfl, _, SqL.of (L4.2 _ mj).1⟩, ?_⟩
          refine ⟨_, rfl, _, rfl, W, ws, 0 + (j : Int), rfl, SqL.of dW4, by omega, F[j].1, _, _, rfl, rfl, (L4.2 _ mj).1, small _ (by rw [ej]; simp; omega), ?_⟩
          have ev : F[j].2.map V.int ++ [V.int (horn ws (0 + (j : Int)))] = (F[j].2 ++ [horn ws (j : Int)]).map V.int := by rw [List.map_append, Int.zero_add]; rfl
          rw [ev]
          have fm : (F.set j (F[j].1, F[j].2 ++ [horn ws (j : Int)])).map (·.1) = F.map (·.1) := by
            refine List.ext_getElem? fun m => ?_
            rw [List.getElem?_map, List.getElem?_map, List.getElem?_set]
            split
            · next q => subst q; rw [hFj]; rfl
            · rfl
          have rf : refs (F.set j (F[j].1, F[j].2 ++ [horn ws (j : Int)])) = refs F := by
            have e1 : ∀ G : List (Addr × List Int), refs G = (G.map (·.1)).map V.ref := fun G => by simp [refs]
            rw [e1, e1, fm]
          refine ⟨_, F.set j (F[j].1, F[j].2 ++ [horn ws (j : Int)]), rfl, P4.only Only.upd hmj.2.1 hmj.2.2.1, fun b o e' nb => ?_, ⟨?_, fun e' me => ?_⟩, by simp [lF], by rw [fm]; exact nd, fun e' me => ?_, ?_, fun k hk' => ?_⟩
          · rw [upd_ne (ne_of_none e' hmj.1)]
            exact b4 b o e' nb
          · rw [upd_ne aD, rf]
            exact L4.1
          · obtain ⟨m, hm⟩ := List.mem_iff_getElem?.mp me
            rcases item_set hm with ⟨q1, q2, _⟩ | ⟨q1, q2⟩
            · subst q2
              exact ⟨upd_same, aD.symm⟩
            · have mm := List.mem_of_getElem? q2
              refine ⟨?_, (L4.2 _ mm).2⟩
              rw [upd_ne (fun z => q1 ?_)]
              · exact (L4.2 _ mm).1
              · have i1 : (F.map (·.1))[j]? = some F[j].1 := by rw [List.getElem?_map, hFj]; rfl
                have i2 : (F.map (·.1))[m]? = some F[j].1 := by rw [List.getElem?_map, q2, ← z]; rfl
                exact (List.getElem?_inj (by rw [List.length_map]; exact lj) nd).mp (i1.trans i2.symm)
          · obtain ⟨m, hm⟩ := List.mem_iff_getElem?.mp me
            rcases item_set hm with ⟨q1, q2, _⟩ | ⟨q1, q2⟩
            · subst q2
              exact hmj
            · exact hF _ (List.mem_of_getElem? q2)
          · rw [upd_ne hmj.2.2.2]
            exact dW4
          · by_cases q : k = j
            · subst q
              have g1 : (F.set k (F[k].1, F[k].2 ++ [horn ws (k : Int)]))[k]? = some (F[k].1, F[k].2 ++ [horn ws (k : Int)]) := by rw [List.getElem?_set, if_pos rfl, if_pos lj]
              rw [snds_get g1, if_pos (Nat.lt_succ_self k), List.map_append, ej]
              rfl
            · have g1 : (F.set j (F[j].1, F[j].2 ++ [horn ws (j : Int)]))[k]? = F[k]? := by rw [List.getElem?_set, if_neg (fun z => q z.symm)]
              have g2 : (snds (F.set j (F[j].1, F[j].2 ++ [horn ws (j : Int)]))).getD k [] = (snds F).getD k [] := by
                rw [List.getD_eq_getElem?_getD, List.getD_eq_getElem?_getD, List.getElem?_map, List.getElem?_map, g1]
              rw [g2, hk k hk']
              by_cases q2 : k < j
              · rw [if_pos q2, if_pos (by omega)]
              · rw [if_neg q2, if_neg (by omega)]
        · rintro σ H4 ⟨v7, F, rfl, P4, b4, L4, lF, nd, hF, dW4, hk⟩
          refine ⟨_, _, _, F, ps ++ [ws], rfl, P4, b4, L4, lF, nd, fun e m => ⟨(hF e m).1, (hF e m).2.1, (hF e m).2.2.1⟩, by simp [lps], fun w m => ?_, fun k hk' => by rw [hk k hk', if_pos hk']⟩
          rcases List.mem_append.mp m with m | m
          · exact hps w m
          · have : w = ws := by simpa using m
            subst this
            exact ⟨lw, ww⟩
      · rintro σ H2 ⟨v5, v6, v7, F, ps, rfl, P2, b2, L2, lF, nd, hF, lps, hps, hk⟩
        exact ⟨_, rfl, k D F ps H2 b2 P2 nD L2 lF lps hps hk⟩
theorem sc_agree : FnScope ["pieces", "numbers", "data", "places", "known", "number", "place"] ["pieces", "numbers", "data"] (defScope s_agree) := ⟨rfl, rfl, rfl, by decide +kernel, rfl, by decide +kernel, by decide +kernel⟩
theorem ok_agree (T : Txt K mg a) : FnOk P w K mg base CX0 5 a.f_agree a.d_agree ["pieces", "numbers", "data"] (sp_agree K a) := by
  refine T.F_agree.ok sc_agree (fun vs H Q E h => ?len) (fun cdv A outer s H vs Q E hr h => ?body)
  case len =>
    exact sp_agree_len h
  case body =>
    obtain ⟨R, N, F, is, d, n, rfl, hR, hN, hp, hin, h8, d1, dl, hrow, h500, kT, kF⟩ := h
    refine ⟨_, (pss_cons (ps_set (i := 3) sc_agree.nd rfl (Or.inl rfl) (pe_slice sl_list (pv 1) po_none (po_some (pv 2))))
      (pss_cons (ps_setLc (i := 4) (own := [("place", 6)]) (g := (gName 6)) (by rfl) sc_agree.nd rfl rfl (sw_true rfl rfl rfl (by decide +kernel)) (pi_list (pv 3)) (blkOk_by (own := [("place", 6)]) (N := ["pieces", "numbers", "data", "places", "known", "number", "place"]) (sc := defScope s_agree) (by decide +kernel))
      (fun _ _ _ _ _ => (pg_name (i := 6) sc_agree.nd rfl (Or.inl rfl))) (fun _ _ _ _ _ => pts_nil) (fun _ _ _ _ _ => (pe_ix (by exact ix_list : IxR _ (rIxL K)) (pv 0) (pv 6) (fun _ _ => rfl))))
      (pss_cons (ps_for PassesOwn.never rfl (pi_list (pe_slice sl_list (pv 1) (po_some (pv 2)) po_none)) (pg_name (i := 5) sc_agree.nd rfl (Or.inl rfl))
      (pss_one (ps_if (pt_cmpR (op_neD hr.units) (pe_call (ok_piece_at T) (hr.mono (by decide)) rfl T.g_piece_at T.F_piece_at.kp T.d_piece_at .nil pass0 (pa_cons (pv 4) (pa_cons (pv 3) (pa_cons (pv 5) pa_nil)))) (pe_ix ix_list (pv 0) (pv 5) (fun _ _ => rfl)) (nomark _))
      (pss_one (ps_ret pe_bl))
      pss_nil)))
      (pss_one (ps_ret pe_bl))))), ?_⟩
    refine ⟨_, rfl, _, rfl, _, rfl, N, _, rfl, hN, fun Pl nPl => ?_⟩
    have ec : cutV ((intsN is).map V.int) none (some (d : Int)) = (intsN (is.take d)).map V.int := by
      rw [cut_take]
      unfold intsN
      rw [List.map_take, List.map_take]
    have ed : cutV ((intsN is).map V.int) (some (d : Int)) none = (intsN (is.drop d)).map V.int := by
      rw [cut_drop]
      unfold intsN
      rw [List.map_drop, List.map_drop]
    rw [ec]
    have s2 := Same.new (o := .lst ((intsN (is.take d)).map V.int)) nPl
    have dPl : upd H Pl (.lst ((intsN (is.take d)).map V.int)) Pl = some (.lst ((intsN (is.take d)).map V.int)) := upd_same
    generalize upd H Pl (.lst ((intsN (is.take d)).map V.int)) = H2 at s2 dPl ⊢
    have tl : (is.take d).length = d := by rw [List.length_take]; omega
    have il : (intsN (is.take d)).length = d := by unfold intsN; rw [List.length_map, tl]
    have hR2 := hR.same s2
    have lis : is.length ≤ 8 := by
      have h1 := presM_len F
      have nd : is.Nodup := hp.imp fun h => Nat.ne_of_lt h
      have := List.Nodup.length_le_of_subset nd (fun x m => hin x m)
      omega
    -- known = [pieces[place] for place in places]
    refine ⟨_, rfl, Pl, rfl, ⟨_, SqL.of dPl⟩, fun Kn nK => lc_list (K := K) (a := Pl) (xs := (intsN (is.take d)).map V.int) (fun i H' => Same H2 H' ∧ H' Kn = some (.lst (refs (((is.take d).map (rowAt F)).take i)))) ⟨Same.new nK, upd_same⟩ (fun i H' _ q => q.1.seq (SqL.of dPl)) ?_ ?_⟩
    · rintro i y H3 hi ⟨s3, hC⟩
      obtain ⟨c, hc, rfl⟩ := int_item hi
      obtain ⟨m, hm, rfl⟩ : ∃ m : Nat, (is.take d)[i]? = some m ∧ c = (m : Int) := by
        unfold intsN at hc
        rw [List.getElem?_map] at hc
        cases q : (is.take d)[i]? with
        | none => rw [q] at hc; cases hc
        | some m => rw [q] at hc; exact ⟨m, rfl, (Option.some.inj hc).symm⟩
      have hg := (presM_lt (hin _ (List.mem_of_mem_take (List.mem_of_getElem? hm)))).2
      have g : ((is.take d).map (rowAt F))[i]? = some (rowAt F m) := by rw [List.getElem?_map, hm]; rfl
      refine ⟨rfl, _, rfl, _, rfl, R, _, _, _, rfl, rfl, s3.seq hR2.1, at_of (j := m) rfl (refsO_get hg), _, hC, small _ (by simp [refs]; omega), same_put s3 nK, ?_⟩
      rw [upd_same, take_snoc g]
      unfold refs
      rw [List.map_append]
      rfl
    rintro H3 ⟨s3, hC⟩
    rw [List.take_of_length_le (by simp [intsN])] at hC
    have s4 := s2.trans s3
    have hR3 := hR2.same s3
    have dP3 := s3 _ _ dPl
    have RLC : RL K H3 Kn ((is.take d).map (rowAt F)) := ⟨SqL.of hC, fun e me => by
      obtain ⟨i, mi, rfl⟩ := List.mem_map.mp me
      exact hR3.rows i (hin _ (List.mem_of_mem_take mi))⟩
    -- for number in numbers[data:]
    refine ⟨_, rfl, _, rfl, _, rfl, N, _, rfl, s4.seq hN, fun Dr nDr => ?_⟩
    rw [ed]
    have s5 := Same.new (o := .lst ((intsN (is.drop d)).map V.int)) nDr
    have dDr : upd H3 Dr (.lst ((intsN (is.drop d)).map V.int)) Dr = some (.lst ((intsN (is.drop d)).map V.int)) := upd_same
    generalize upd H3 Dr (.lst ((intsN (is.drop d)).map V.int)) = H5 at s5 dDr ⊢
    refine ⟨Dr, rfl, ⟨_, SqL.of dDr⟩, for_list (K := K) (a := Dr) (xs := (intsN (is.drop d)).map V.int) (fun i σ H' => ∃ v5 : Option V, σ = [some (.ref R), some (.ref N), some (.int (d : Int)), some (.ref Pl), some (.ref Kn), v5, none] ∧ Same H5 H' ∧ ∀ (j m : Nat), j < i → (is.drop d)[j]? = some m → pieceM (intsN (is.take d)) (snds ((is.take d).map (rowAt F))) ((m : Nat) : Int) n = (rowAt F m).2)
      ⟨none, rfl, Same.refl _, fun j m hj => absurd hj (by omega)⟩ (fun i σ H' _ ⟨_, _, s', _⟩ => s'.seq (SqL.of dDr)) ?_ ?_⟩
    · rintro i y σ H6 hi ⟨v5, rfl, s6, hq⟩
      obtain ⟨c, hc, rfl⟩ := int_item hi
      obtain ⟨m, hm, rfl⟩ : ∃ m : Nat, (is.drop d)[i]? = some m ∧ c = (m : Int) := by
        unfold intsN at hc
        rw [List.getElem?_map] at hc
        cases q : (is.drop d)[i]? with
        | none => rw [q] at hc; cases hc
        | some m => rw [q] at hc; exact ⟨m, rfl, (Option.some.inj hc).symm⟩
      have mm := List.mem_of_mem_drop (List.mem_of_getElem? hm)
      have hg := presM_lt (hin _ mm)
      have s56 := s5.trans s6
      refine ⟨_, rfl, _, rfl, _, rfl, Kn, Pl, _, intsN (is.take d), ((m : Nat) : Int), n, rfl, RLC.same s56, s56 _ _ dP3, intsN_apart (hp.sublist (List.take_sublist d _)) (fun j q => by have := (presM_lt (hin _ (List.mem_of_mem_take q))).1; omega), by rw [il, List.length_map, tl], ?_, by rw [List.length_map, tl]; omega, h500, fun e me => ?_, fun D H7 s7 nD dD => ?_⟩
      · intro q
        have := congrArg List.length q
        rw [List.length_map, tl] at this
        simp at this
        omega
      · obtain ⟨j, mj, rfl⟩ := List.mem_map.mp me
        exact hrow j (List.mem_of_mem_take mj)
      have hR7 := hR3.same (s56.trans s7)
      refine ⟨_, rfl, _, rfl, R, _, _, _, rfl, rfl, hR7.1, at_of (j := m) rfl (refsO_get hg.2), _, _, dp_ints (SqL.of dD), dp_ints (hR7.rows m (hin _ mm)), shaped_ints _, shaped_ints _, _, rfl, ?_⟩
      rw [eqv_ints]
      refine ite2 (fun z => ?_) (fun z => ?_)
      · refine kF (fun g => ?_) _ (s4.trans (s56.trans s7))
        rw [decide_eq_true (g m (List.mem_of_getElem? hm))] at z
        cases z
      · have e : pieceM (intsN (is.take d)) (snds ((is.take d).map (rowAt F))) ((m : Nat) : Int) n = (rowAt F m).2 := Classical.byContradiction fun q => z (by rw [decide_eq_false q]; rfl)
        refine ⟨_, rfl, s6.trans s7, fun j m' hj hm' => ?_⟩
        by_cases q : j = i
        · subst q
          rw [hm] at hm'
          rw [← Option.some.inj hm']
          exact e
        · exact hq j m' (by omega) hm'
    rintro σ H6 ⟨v5, rfl, s6, hq⟩
    refine kT (fun m mm => ?_) _ (s4.trans (s5.trans s6))
    obtain ⟨j, hj⟩ := List.mem_iff_getElem?.mp mm
    exact hq j m (by have := item_lt hj; simp [intsN] at this ⊢; omega) hj
theorem sc_wrong_pieces : FnScope ["pieces", "data", "present", "most", "many", "culprits", "number"] ["pieces", "data"] (defScope s_wrong_pieces) := ⟨rfl, rfl, rfl, by decide +kernel, rfl, by decide +kernel, by decide +kernel⟩
theorem ok_wrong_pieces (T : Txt K mg a) : FnOk P w K mg base (L2.CX P w) 6 a.f_wrong_pieces a.d_wrong_pieces ["pieces", "data"] (sp_wrong_pieces K a) := by
  refine T.F_wrong_pieces.okX sc_wrong_pieces (fun vs H Q E h => ?len) (fun cdv A outer s H vs Q E hr h => ?body)
  case len =>
    exact sp_wrong_pieces_len h
  case body =>
    obtain ⟨R, F, d, n, rfl, hR, hF, h500, d1, dF, kE, kQ⟩ := h
    have h8 := hF.1
    refine ⟨_, (pss_cons (ps_set (i := 2) sc_wrong_pieces.nd rfl (Or.inl rfl) (pe_call (ok_present_numbers T) (hr.mono (by decide)) rfl T.g_present_numbers T.F_present_numbers.kp T.d_present_numbers .nil (passes_call (takes_of rfl rfl rfl rfl) (fun _ _ _ _ z => z)) (pa_cons (pv 0) (pa_cons (pv 1) pa_nil))))
      (pss_cons (ps_set (i := 3) sc_wrong_pieces.nd rfl (Or.inl rfl) (pe_op op_fdiv (pe_op op_sub (pe_callB call_len_seq (by rfl) T.n_len PySem.boot_len (pa_cons (pv 2) pa_nil)) (pv 1)) pe_int))
      (pss_cons (ps_for (passes_of rfl) rfl (pi_range1 (by rfl) T.n_range (pa_cons (pe_op op_add (pv 3) pe_int) pa_nil)) (pg_name (i := 4) sc_wrong_pieces.nd rfl (Or.inl rfl))
      (pss_one (ps_for (passes_of rfl) rfl (by exact pi_combo (by rfl) T.n_combinations (pa_cons (pv 2) (pa_cons (pv 4) pa_nil)) : PI _ _ _ (iCmb K _)) (pg_name (i := 5) sc_wrong_pieces.nd rfl (Or.inr rfl))
      (pss_one (ps_if (pt_val (pe_call (ok_agree T) (hr.mono (by decide)) rfl T.g_agree T.F_agree.kp T.d_agree .nil pass0 (pa_cons (pv 0) (pa_cons (pe_lc (own := [("number", 6)]) (g := (gName 6)) (by rfl) sc_wrong_pieces.nd (pi_list (pv 2)) (blkOk_by (own := [("number", 6)]) (N := ["pieces", "data", "present", "most", "many", "culprits", "number"]) (sc := defScope s_wrong_pieces) (by decide +kernel))
      (fun _ _ _ _ _ => (pg_name (i := 6) sc_wrong_pieces.nd rfl (Or.inl rfl))) (fun _ _ _ _ _ => (pts_one (pt_cmpR (by exact op_notIn_seq : OpR _ _ (rIn K true)) (pv 6) (pv 5) (by rfl)))) (fun _ _ _ _ _ => (pv 6))) (pa_cons (pv 1) pa_nil)))))
      (pss_one (ps_ret (pe_callTy call_list_of (by rfl) T.n_list (by decide +kernel) (pa_cons (pv 5) pa_nil))))
      pss_nil)))))
      (pss_one (ps_raise rfl (takes_of rfl rfl rfl rfl) (pmk_own PySem.F.excBase_ValueError T.x_NotEnoughPieces T.g_NotEnoughPieces T.k_NotEnoughPieces (raises_own T.b_NotEnoughPieces T.t_NotEnoughPieces) (by exact rfl))))))), ?_⟩
    have nB : ¬ BadP F (d : Int) := good_rows h8 (by omega) (by omega) (rowsW_len hF)
    refine ⟨_, rfl, _, rfl, R, F, (d : Int), rfl, hR, by omega, fun b => absurd b nB, fun _ few H1 s1 => kE (fun S c => ?_) _ s1, fun _ nFew D H1 s1 nD dD => ?_⟩
    · have := c.2.1
      unfold Few at few
      omega
    have dpl : d ≤ (presM F).length := Classical.byContradiction fun q => nFew (by unfold Few; omega)
    have pl := presM_len F
    have xl : ((intsN (presM F)).map V.int).length = (presM F).length := by rw [List.length_map, intsN_len]
    obtain ⟨mo, emo⟩ : ∃ mo : Nat, mo = ((presM F).length - d) / 2 := ⟨_, rfl⟩
    have eq : (((presM F).length : Int) - (d : Int)) / 2 = (mo : Int) := by omega
    refine ⟨_, rfl, D, _, rfl, .inl (SqL.of dD), _, rfl, _, _, rfl, rfl, _, _, rfl, rfl, ⟨by decide, by decide⟩, ?_⟩
    rw [xl]
    dsimp only
    rw [eq]
    refine ⟨_, rfl, _, _, rfl, rfl, _, rfl, by omega, by omega, ?_⟩
    rw [show ((mo : Int) + 1).toNat = mo + 1 by omega]
    refine for_range (lo := 0) (n := mo + 1) (fun i σ H' => ∃ (v4 v5 v6 : Option V), σ = [some (.ref R), some (.int (d : Int)), some (.ref D), some (.int (mo : Int)), v4, v5, v6] ∧ Same H1 H' ∧ ∀ S, Cul F d n S → i ≤ S.length) ⟨none, none, none, rfl, Same.refl _, fun _ _ => Nat.zero_le _⟩ ?_ ?_
    · rintro i σ H2 hi ⟨v4, v5, v6, rfl, s2, hno⟩
      have hi2 : 2 * i + d ≤ (presM F).length := by omega
      refine ⟨_, rfl, _, rfl, D, i, _, (by rw [Int.zero_add]), s2.seq (SqL.of dD), by omega, by omega, by omega, ?_⟩
      rw [xl]
      refine for_it walk_combo (fun j σ H' => ∃ (v5 v6 : Option V), σ = [some (.ref R), some (.int (d : Int)), some (.ref D), some (.int (mo : Int)), some (.int (0 + (i : Nat))), v5, v6] ∧ Same H1 H' ∧ ∀ (j' : Nat) (c : List Nat), j' < j → (CB.cmb 0 (presM F).length i)[j']? = some c → ¬ Cul F d n (c.map fun j => (presM F).getD (j - 0) 0)) ⟨v5, v6, rfl, s2, fun j' c h => absurd h (by omega)⟩ (fun _ _ _ _ _ => True.intro) ?_ ?_
      · rintro j y σ H3 H4 hj ⟨v5, v6, rfl, s3, hq⟩ ⟨T', c, rfl, nT, rfl, hc⟩
        have hcm := List.mem_of_getElem? hc
        obtain ⟨cl, cb⟩ := cmb_len _ _ _ _ hcm
        have hsub := cmb_sub (presM F) 0 i c hcm
        rw [pick_ints (fun k m => by have := cb k m; omega)]
        generalize hS : (c.map fun j => (presM F).getD (j - 0) 0) = S at hsub ⊢
        have lS : S.length = i := by rw [← hS, List.length_map]; exact cl
        have sT := Same.new (o := .tup ((intsN S).map V.int)) nT
        have dT : upd H3 T' (.tup ((intsN S).map V.int)) T' = some (.tup ((intsN S).map V.int)) := upd_same
        generalize upd H3 T' (.tup ((intsN S).map V.int)) = H5 at sT dT ⊢
        have s15 := s3.trans sT
        have k1 := less_len S (presM_nodup F)
        refine ⟨_, rfl, _, rfl, D, rfl, ⟨_, s15.seq (SqL.of dD)⟩, fun Lc nLc => lc_list (K := K) (a := D) (xs := (intsN (presM F)).map V.int) (fun i' H' => Same H5 H' ∧ H' Lc = some (.lst ((intsN (lessM ((presM F).take i') S)).map V.int))) ⟨Same.new nLc, upd_same⟩ (fun i' H' _ q => (s15.trans q.1).seq (SqL.of dD)) ?_ ?_⟩
        · rintro i' y H6 hy ⟨s6, hL⟩
          obtain ⟨m, hm, rfl⟩ := intsN_item hy
          have hi' := item_lt hm
          have le : (lessM ((presM F).take i') S).length ≤ i' := Nat.le_trans (List.length_filter_le _ _) (by rw [List.length_take]; omega)
          refine ⟨rfl, _, rfl, _, rfl, T', _, rfl, .inr (SqT.of (s6 _ _ dT)), rfl, flat_intsN S, _, rfl, ?_⟩
          rw [inV_less]
          rw [less_take hm]
          by_cases q : m ∈ S
          · have e1 : (if m ∉ S then [m] else []) = ([] : List Nat) := if_neg fun z => z q
            rw [e1, decide_eq_false (fun z => z q : ¬ (m ∉ S)), List.append_nil]
            exact iteF ⟨s6, hL⟩
          · have e1 : (if m ∉ S then [m] else []) = [m] := if_pos q
            rw [e1, decide_eq_true q]
            refine iteT ⟨_, rfl, _, hL, small _ (by rw [List.length_map, intsN_len]; omega), same_put s6 nLc, ?_⟩
            rw [upd_same]
            unfold intsN
            rw [List.map_append, List.map_append]
            rfl
        rintro H6 ⟨s6, hL⟩
        rw [List.take_of_length_le (by rw [xl]; exact Nat.le_refl _)] at hL
        have s16 := s15.trans s6
        refine ⟨_, rfl, R, Lc, F, lessM (presM F) S, d, n, rfl, (hR.same s1).same s16, SqL.of hL, less_pair (presM_pair F), fun i m => (less_mem.mp m).1, h8, d1, by omega, fun i m => (hF.2 i (less_mem.mp m).1).1, h500, fun ag H7 s7 => ?_, fun ag H7 s7 => ?_⟩
        · refine ⟨_, rfl, iteT ⟨_, rfl, T', _, rfl, .inr (SqT.of (s7 _ _ (s6 _ _ dT))), fun l nl => kQ S l _ ⟨⟨hsub, by omega, ag⟩, fun S' c' => by rw [lS]; exact hno S' c'⟩ ((s1.trans (s16.trans s7)).trans (Same.new nl)) ?_ upd_same⟩⟩
          cases q : H l with
          | none => rfl
          | some o => rw [(s1.trans (s16.trans s7)) _ _ q] at nl; cases nl
        · refine ⟨_, rfl, iteF ⟨_, _, rfl, s16.trans s7, fun j' c' hj' hc' => ?_⟩⟩
          by_cases q : j' = j
          · subst q
            rw [hc] at hc'
            rw [← Option.some.inj hc', hS]
            exact fun c => ag c.2.2
          · exact hq j' c' (by omega) hc'
      rintro σ H3 ⟨v5, v6, rfl, s3, hq⟩
      refine ⟨_, _, _, rfl, s3, fun S hS => ?_⟩
      have h1 := hno S hS
      refine Nat.lt_of_le_of_ne h1 fun z => ?_
      obtain ⟨c, hc, e⟩ := sub_cmb hS.1 0
      rw [← z] at hc
      obtain ⟨j', hj'⟩ := List.mem_iff_getElem?.mp hc
      refine hq j' c (item_lt hj') hj' ?_
      rw [e]
      exact hS
    rintro σ H2 ⟨v4, v5, v6, rfl, s2, hno⟩
    refine kE (fun S c => ?_) _ (s1.trans s2)
    have h1 := hno S c
    have h2 := c.2.1
    omega
theorem sc_law_answer : FnScope ["pieces", "data", "e"] ["pieces", "data"] (defScope s_law_answer) := ⟨rfl, rfl, rfl, by decide +kernel, rfl, by decide +kernel, by decide +kernel⟩
theorem ok_law_answer (T : Txt K mg a) : FnOk P w K mg base CX0 7 a.f_law_answer a.d_law_answer ["pieces", "data"] (sp_law_answer K a) := by
  refine T.F_law_answer.ok sc_law_answer (fun vs H Q E h => ?len) (fun cdv A outer s H vs Q E hr h => ?body)
  case len =>
    exact sp_law_answer_len h
  case body =>
    obtain ⟨R, F, d, n, rfl, hR, hF, h500, d1, dF, kQ⟩ := h
    refine ⟨_, (pss_cons (ps_try_as (i := 2) rfl rfl sc_law_answer.nd rfl rfl ⟨rfl, by decide, .inl T.g_PoolError⟩ takes0
      (fun W pn xe tk _ => (pss_one (ps_ret (pe_callS (ok_wrong_pieces T) (hr.mono (by decide)) rfl T.g_wrong_pieces T.F_wrong_pieces.kp T.d_wrong_pieces (fun σ => passAt tk σ) (pa_cons (pv 0) (pa_cons (pv 1) pa_nil))))))
      (fun a oe cls d pn hz hf => (pss_one (ps_if (pt_val (pe_callB (call_isE' hz hf) (by rfl) T.n_isinstance (by decide +kernel) (pa_cons (pv 2) (pa_cons (pe_glob (v := .ref _) rfl T.g_NotEnoughPieces rfl) pa_nil))))
      (pss_one (ps_ret pe_non))
      pss_nil))))
      (pss_one (ps_ret pe_bl))), ?_⟩
    refine ⟨_, rfl, _, rfl, R, F, d, n, rfl, hR, hF, h500, d1, dF, fun no H' s' => ?_, fun S D H' hS s' nD dD => kQ (.ref D) H' s' (.inr ⟨S, D, rfl, hS, dD⟩)⟩
    refine ⟨true, T.u_NotEnoughPieces_PoolError, fun _ ad hb => ?_, fun z => Bool.noConfusion z⟩
    refine ⟨_, rfl, _, rfl, rfl, T.E_NotEnoughPieces, _, _, true, rfl, fun _ z => z, T.i_NotEnoughPieces_NotEnoughPieces, true, rfl, iteT (kQ .non _ s' (.inl ⟨rfl, no⟩))⟩
theorem sc_law : FnScope ["script", "pot", "count", "data", "length", "pieces", "other", "k", "left", "changed", "whole", "at", "new", "place", "passed", "found", "due"] ["script"] (defScope s_law) := ⟨rfl, rfl, rfl, by decide +kernel, rfl, by decide +kernel, by decide +kernel⟩
theorem ok_law (T : Txt K mg a) : FnOk P w K mg base CX0 8 a.f_law a.d_law ["script"] (sp_law K a) := by
  refine T.F_law.ok sc_law (fun vs H Q E h => ?len) (fun cdv A outer s H vs Q E hr h => ?body)
  case len =>
    exact sp_law_len h
  case body =>
    obtain ⟨s, ns, rfl, hS, hlen, k⟩ := h
    refine ⟨_, (pss_cons (ps_set (i := 1) sc_law.nd rfl (Or.inl rfl) (pe_call (ok_law_pot T) (hr.mono (by decide)) rfl T.g_law_pot T.F_law_pot.kp T.d_law_pot .nil pass0 (pa_cons (pv 0) pa_nil)))
      (pss_cons (ps_set (i := 2) sc_law.nd rfl (Or.inl rfl) (pe_op op_add pe_int (pe_call (ok_law_next T) (hr.mono (by decide)) rfl T.g_law_next T.F_law_next.kp T.d_law_next .nil pass0 (pa_cons (pv 1) (pa_cons pe_int pa_nil)))))
      (pss_cons (ps_set (i := 3) sc_law.nd rfl (Or.inl rfl) (pe_op op_add pe_int (pe_call (ok_law_next T) (hr.mono (by decide)) rfl T.g_law_next T.F_law_next.kp T.d_law_next .nil pass0 (pa_cons (pv 1) (pa_cons (pv 2) pa_nil)))))
      (pss_cons (ps_set (i := 4) sc_law.nd rfl (Or.inl rfl) (pe_op op_add pe_int (pe_call (ok_law_next T) (hr.mono (by decide)) rfl T.g_law_next T.F_law_next.kp T.d_law_next .nil pass0 (pa_cons (pv 1) (pa_cons pe_int pa_nil)))))
      (pss_cons (ps_set (i := 5) sc_law.nd rfl (Or.inr rfl) (pe_call (ok_law_stripe T) (hr.mono (by decide)) rfl T.g_law_stripe T.F_law_stripe.kp T.d_law_stripe .nil pass0 (pa_cons (pv 1) (pa_cons (pv 3) (pa_cons (pv 2) (pa_cons (pv 4) pa_nil))))))
      (pss_cons (ps_set (i := 6) sc_law.nd rfl (Or.inl rfl) (pe_call (ok_law_stripe T) (hr.mono (by decide)) rfl T.g_law_stripe T.F_law_stripe.kp T.d_law_stripe .nil pass0 (pa_cons (pv 1) (pa_cons (pv 3) (pa_cons (pv 2) (pa_cons (pv 4) pa_nil))))))
      (Evl.pss_cut (ps_if (pt_cmpR op_eq (pe_call (ok_law_next T) (hr.mono (by decide)) rfl T.g_law_next T.F_law_next.kp T.d_law_next .nil pass0 (pa_cons (pv 1) (pa_cons pe_int pa_nil))) pe_int (nomark _))
      (pss_one (ps_for PassesOwn.never rfl (pi_range1 (by rfl) T.n_range (pa_cons (pe_call (ok_law_next T) (hr.mono (by decide)) rfl T.g_law_next T.F_law_next.kp T.d_law_next .nil pass0 (pa_cons (pv 1) (pa_cons (pe_op op_add (pv 2) pe_int) pa_nil))) pa_nil)) (pg_name (i := 7) sc_law.nd rfl (Or.inl rfl))
      (pss_one (ps_asg pe_non (pg_sub (pv 5) (pe_call (ok_law_next T) (hr.mono (by decide)) rfl T.g_law_next T.F_law_next.kp T.d_law_next .nil pass0 (pa_cons (pv 1) (pa_cons (pv 2) pa_nil))) set_list)))))
      pss_nil)
      (pss_cons (ps_setLc (i := 8) (own := [("k", 7)]) (g := (gName 7)) (by rfl) sc_law.nd rfl rfl (sw_true rfl rfl rfl (by decide +kernel)) (pi_range1 (by rfl) T.n_range (pa_cons (pv 2) pa_nil)) (blkOk_by (own := [("k", 7)]) (N := ["script", "pot", "count", "data", "length", "pieces", "other", "k", "left", "changed", "whole", "at", "new", "place", "passed", "found", "due"]) (sc := defScope s_law) (by decide +kernel))
      (fun _ _ _ _ _ => (pg_name (i := 7) sc_law.nd rfl (Or.inl rfl))) (fun _ _ _ _ _ => (pts_one (pt_cmpR op_notN (pe_ix (by exact ix_list : IxR _ (rIxL K)) (pv 5) (pv 7) (fun _ _ => rfl)) pe_non (nomark _)))) (fun _ _ _ _ _ => (pv 7)))
      (pss_cons (ps_set (i := 9) sc_law.nd rfl (Or.inl rfl) (pe_lst pa_nil))
      (pss_cons (ps_set (i := 10) sc_law.nd rfl (Or.inl rfl) (pe_cmpR op_eq (pe_call (ok_law_next T) (hr.mono (by decide)) rfl T.g_law_next T.F_law_next.kp T.d_law_next .nil pass0 (pa_cons (pv 1) (pa_cons pe_int pa_nil))) pe_int (nomark _)))
      (pss_cons (ps_for PassesOwn.never rfl (pi_range1 (by rfl) T.n_range (pa_cons (pe_call (ok_law_next T) (hr.mono (by decide)) rfl T.g_law_next T.F_law_next.kp T.d_law_next .nil pass0 (pa_cons (pv 1) (pa_cons pe_int pa_nil))) pa_nil)) (pg_name (i := 7) sc_law.nd rfl (Or.inl rfl))
      (pss_cons (ps_set (i := 11) sc_law.nd rfl (Or.inl rfl) (pe_call (ok_law_next T) (hr.mono (by decide)) rfl T.g_law_next T.F_law_next.kp T.d_law_next .nil pass0 (pa_cons (pv 1) (pa_cons (pv 2) pa_nil))))
      (pss_one (ps_if (PW.pt (pw_and (pt_cmpR op_in_seq (pv 11) (pv 8) (by rfl)) (pw_and1 (pt_cmpR op_notIn_seq (pv 11) (pv 9) (by rfl)))))
      (pss_cons (ps_set (i := 12) sc_law.nd rfl (Or.inl rfl) (pe_callTy call_list_of (by rfl) T.n_list (by decide +kernel) (pa_cons (pe_ix ix_list (pv 6) (pv 11) (fun _ _ => rfl)) pa_nil)))
      (Evl.pss_cut (ps_if (pt_not (pt_truth (pv 10) (by intro _; rfl)))
      (pss_cons (ps_set (i := 12) sc_law.nd rfl (Or.inl rfl) (pe_callTy call_list_of (by rfl) T.n_list (by decide +kernel) (pa_cons (pe_ix ix_list (pv 5) (pv 11) (fun _ _ => rfl)) pa_nil)))
      (pss_cons (ps_set (i := 13) sc_law.nd rfl (Or.inl rfl) (pe_call (ok_law_next T) (hr.mono (by decide)) rfl T.g_law_next T.F_law_next.kp T.d_law_next .nil pass0 (pa_cons (pv 1) (pa_cons (pv 4) pa_nil))))
      (pss_one (ps_asg (pe_op op_mod (pe_callTy call_int1 (by rfl) T.n_int (by decide +kernel) (pa_cons (pe_op op_add (pe_op op_add (pe_ix ix_list (pv 12) (pv 13) (fun _ _ => rfl)) pe_int) (pe_call (ok_law_next T) (hr.mono (by decide)) rfl T.g_law_next T.F_law_next.kp T.d_law_next .nil pass0 (pa_cons (pv 1) (pa_cons pe_int pa_nil)))) pa_nil)) pe_int) (pg_sub (pv 12) (pv 13) set_list)))))
      pss_nil)
      (pss_cons (ps_if (pt_cmpR (op_neD hr.units) (pv 12) (pe_ix ix_list (pv 5) (pv 11) (fun _ _ => rfl)) (nomark _))
      (pss_one (ps_expr (pe_bm PySem.F.plainAttrs_list PySem.F.slot_list_append PySem.F.type_list_append mt_append (pv 9) (pa_cons (pv 11) pa_nil))))
      pss_nil)
      (pss_one (ps_asg (pv 12) (pg_sub (pv 5) (pv 11) set_list))))))
      pss_nil))))
      (pss_cons (ps_setLc (i := 14) (own := [("k", 7)]) (g := (gName 7)) (by rfl) sc_law.nd rfl rfl (sw_true rfl rfl rfl (by decide +kernel)) (pi_range1 (by rfl) T.n_range (pa_cons (pv 2) pa_nil)) (blkOk_by (own := [("k", 7)]) (N := ["script", "pot", "count", "data", "length", "pieces", "other", "k", "left", "changed", "whole", "at", "new", "place", "passed", "found", "due"]) (sc := defScope s_law) (by decide +kernel))
      (fun _ _ _ _ _ => (pg_name (i := 7) sc_law.nd rfl (Or.inl rfl))) (fun _ _ _ _ _ => pts_nil) (fun _ _ _ _ _ => (pe_ix (by exact ix_list : IxR _ (rIxL K)) (pv 5) (pv 7) (fun _ _ => rfl))))
      (pss_cons (ps_set (i := 15) sc_law.nd rfl (Or.inl rfl) (pe_call (ok_law_answer T) (hr.mono (by decide)) rfl T.g_law_answer T.F_law_answer.kp T.d_law_answer .nil pass0 (pa_cons (pv 14) (pa_cons (pv 3) pa_nil))))
      (Evl.pss_cut (ps_if (pt_cmpR op_lt (pe_callB call_len_seq (by rfl) T.n_len PySem.boot_len (pa_cons (pv 8) pa_nil)) (pv 3) (nomark _))
      (pss_one (ps_ret (pe_cmpR op_isN (pv 15) pe_non (nomark _))))
      pss_nil)
      (pss_cons (ps_set (i := 16) sc_law.nd rfl (Or.inl rfl) (pe_call (ok_law_due T) (hr.mono (by decide)) rfl T.g_law_due T.F_law_due.kp T.d_law_due .nil pass0 (pa_cons (pv 5) (pa_cons (pv 8) (pa_cons (pv 3) (pa_cons (pv 4) pa_nil))))))
      (Evl.pss_cut (ps_if (PW.pt (pw_or (pt_cmpR (op_neD hr.units) (pv 14) (pv 5) (nomark _)) (pw_or1 (PW.pt (pw_and (pt_cmpR op_le (pe_op op_mul pe_int (pe_callB call_len_seq (by rfl) T.n_len PySem.boot_len (pa_cons (pv 9) pa_nil))) (pe_op op_sub (pe_callB call_len_seq (by rfl) T.n_len PySem.boot_len (pa_cons (pv 8) pa_nil)) (pv 3)) (nomark _)) (pw_and1 (pt_cmpR (op_neD hr.units) (pv 16) (pe_callB cr_sorted (by rfl) T.n_sorted (by decide +kernel) (pa_cons (pv 9) pa_nil)) (nomark _))))))))
      (pss_one (ps_ret pe_bl))
      pss_nil)
      (pss_cons (ps_if (pt_cmpR op_isN (pv 16) pe_non (nomark _))
      (pss_one (ps_ret (pe_cmpR op_isN (pv 15) pe_non (nomark _))))
      pss_nil)
      (pss_cons (ps_if (PW.pt (pw_or (pt_not (pt_val (pe_callB call_isi (by rfl) T.n_isinstance (by decide +kernel) (pa_cons (pv 15) (pa_cons (pe_bltn (v := .ty "list") (by rfl) T.n_list (by decide +kernel) rfl) pa_nil))))) (pw_or1 (pt_not (pt_val (pe_callB (cr_all rfl) (by rfl) T.n_all (by decide +kernel) (pa_cons (pe_lc (own := [("k", 7)]) (g := (gName 7)) (by rfl) sc_law.nd (pi_list (pv 15)) (blkOk_by (own := [("k", 7)]) (N := ["script", "pot", "count", "data", "length", "pieces", "other", "k", "left", "changed", "whole", "at", "new", "place", "passed", "found", "due"]) (sc := defScope s_law) (by decide +kernel))
      (fun _ _ _ _ _ => (pg_name (i := 7) sc_law.nd rfl (Or.inl rfl))) (fun _ _ _ _ _ => pts_nil) (fun _ _ _ _ _ => (pe_call (ok_law_is_int T) (hr.mono (by decide)) rfl T.g_law_is_int T.F_law_is_int.kp T.d_law_is_int .nil pass0 (pa_cons (pv 7) pa_nil)))) pa_nil)))))))
      (pss_one (ps_ret pe_bl))
      pss_nil)
      (pss_one (ps_ret (pe_cmpR (op_eqD hr.units) (pv 15) (pv 16) (nomark _)))))))))))))))))))))), ?_⟩
    refine ⟨_, rfl, s, ns, rfl, hS, by omega, fun p l H1 hp hl s1 P1 => ?_⟩
    refine ⟨_, rfl, p, l, 7, rfl, P1, by decide, by decide, fun c H2 c0 c1 P2 o2 => ⟨_, _, rfl, rfl, ?_⟩⟩
    obtain ⟨cn, ec⟩ : ∃ n : Nat, 1 + c = (n : Int) := ⟨(1 + c).toNat, by omega⟩
    dsimp only
    rw [ec]
    refine ⟨_, rfl, _, rfl, p, l, (cn : Int), rfl, P2, by omega, by omega, fun c' H3 c0' c1' P3 o3 => ⟨_, _, rfl, rfl, ?_⟩⟩
    obtain ⟨d, ed⟩ : ∃ n : Nat, 1 + c' = (n : Int) := ⟨(1 + c').toNat, by omega⟩
    dsimp only
    rw [ed]
    refine ⟨_, rfl, p, l, 3, rfl, P3, by decide, by decide, fun n' H4 n0 n1 P4 o4 => ⟨_, _, rfl, rfl, ?_⟩⟩
    obtain ⟨n, en⟩ : ∃ n : Nat, 1 + n' = (n : Int) := ⟨(1 + n').toNat, by omega⟩
    dsimp only
    rw [en]
    have d1 : 1 ≤ d := by omega
    have dc : d ≤ cn := by omega
    have c7 : cn ≤ 7 := by omega
    have n3 : n ≤ 3 := by omega
    have n00 : 1 ≤ n := by omega
    clear c0 c1 c0' c1' n0 n1 ec ed en
    -- pieces, other
    refine ⟨_, rfl, _, rfl, _, rfl, _, rfl, p, l, d, cn, n, rfl, P4, by omega, by omega, by omega, fun R F ps H5 b5 P5 nR L5 lF lps hps hF => ?_⟩
    refine ⟨_, rfl, _, rfl, _, rfl, _, rfl, p, l, d, cn, n, rfl, P5, by omega, by omega, by omega, fun R2 F2 ps2 H6 b6 P6 nR2 L6 lF2 lps2 hps2 hF2 => ?_⟩
    have offR := P4.off nR
    have offR' : p ≠ R ∧ l ≠ R := offR
    have lGi : ∀ (i : Nat) (e : Addr × List Int), F[i]? = some e → e.2 = ps.map fun ws => horn ws (i : Int) := fun i e he => by
      have li := item_lt he
      have := hF i (by omega)
      rw [snds_get he] at this
      exact this
    have rG : ∀ e ∈ F, e.2.length = n := fun e m => by
      obtain ⟨i, hi⟩ := List.mem_iff_getElem?.mp m
      rw [lGi i e hi, List.length_map, lps]
    have rW : ∀ e ∈ F, ∀ w ∈ e.2, 0 ≤ w ∧ w < 65521 := fun e m w mw => by
      obtain ⟨i, hi⟩ := List.mem_iff_getElem?.mp m
      rw [lGi i e hi] at mw
      obtain ⟨x, _, rfl⟩ := List.mem_map.mp mw
      exact horn_word x _
    have lGi2 : ∀ (i : Nat) (e : Addr × List Int), F2[i]? = some e → e.2 = ps2.map fun ws => horn ws (i : Int) := fun i e he => by
      have li := item_lt he
      have := hF2 i (by omega)
      rw [snds_get he] at this
      exact this
    have rG2 : ∀ e ∈ F2, e.2.length = n ∧ ∀ w ∈ e.2, 0 ≤ w ∧ w < 65521 := fun e m => by
      obtain ⟨i, hi⟩ := List.mem_iff_getElem?.mp m
      rw [lGi2 i e hi, List.length_map, lps2]
      refine ⟨rfl, fun w mw => ?_⟩
      obtain ⟨x, _, rfl⟩ := List.mem_map.mp mw
      exact horn_word x _
    have dF5 : ∀ e ∈ F, H5 e.1 = some (.lst (e.2.map V.int)) := fun e m => (L5.2 e m).1
    have dR5 : H5 R = some (.lst (refsO (F.map some))) := by
      rw [L5.1]
      simp [refsO, refs, refO]
    have i6 : In p l R (fun _ => False) H6 H6 (F.map some) := ⟨P6, offR.1, offR.2, fun b o e _ _ _ => e, b6 _ _ dR5 offR.1.symm, fun e m => by
      obtain ⟨e', m', z⟩ := List.mem_map.mp m
      cases z
      exact ⟨b6 _ _ (dF5 e m') (P5.noList (dF5 e m') fun _ _ _ => ints_pot), (L5.2 e m').2, fun z => z⟩⟩
    have n2p : R2 ≠ p := (P5.off nR2).1.symm
    have n2R : R2 ≠ R := (ne_of_none dR5 nR2).symm
    have dR26 : H6 R2 = some (.lst (refs F2)) := L6.1
    have dF26 : ∀ e ∈ F2, H6 e.1 = some (.lst (e.2.map V.int)) ∧ e.1 ≠ p ∧ e.1 ≠ R := fun e m => by
      have q := (L6.2 e m).1
      refine ⟨q, P6.noList q fun _ _ _ => ints_pot, fun z => ?_⟩
      have q2 := b6 _ _ dR5 offR.1.symm
      rw [← z, q] at q2
      have q3 : e.2.map V.int = refsO (F.map some) := HO.lst.inj (Option.some.inj q2)
      have l0 := congrArg List.length q3
      rw [List.length_map, List.length_map, List.length_map] at l0
      have ln := (rG2 e m).1
      have h0 : (e.2.map V.int)[0]? = (refsO (F.map some))[0]? := by rw [q3]
      rw [List.getElem?_map, List.getElem?_map, List.getElem?_map, List.getElem?_eq_getElem (by omega), List.getElem?_eq_getElem (by omega)] at h0
      cases h0
    -- some are lost
    refine ⟨fun σ H' => ∃ (v7 : Option V) (FO : List ORow), σ = [some (.ref s), some (.ref p), some (.int (cn : Int)), some (.int (d : Int)), some (.int (n : Int)), some (.ref R), some (.ref R2), v7, none, none, none, none, none, none, none, none, none] ∧ In p l R (fun _ => False) H6 H' FO ∧ FO.length = cn ∧ ∀ (i : Nat) (e : Addr × List Int), FO[i]? = some (some e) → F[i]? = some e, ?_, ?_⟩
    · have base : ∀ (i : Nat) (e : Addr × List Int), (F.map some)[i]? = some (some e) → F[i]? = some e := fun i e h => by
        rw [List.getElem?_map] at h
        cases q : F[i]? with
        | none => rw [q] at h; cases h
        | some x => rw [q] at h; exact Option.some.inj h
      refine ⟨_, rfl, p, l, 3, rfl, P6, by decide, by decide, fun u H7 u0 u1 P7 o7 => ⟨rfl, _, rfl, ?_⟩⟩
      have i7 := i6.draw P7 o7
      refine ite2 (fun _ => ?_) (fun _ => ⟨none, F.map some, rfl, i7, by rw [List.length_map]; exact lF, base⟩)
      refine ⟨_, rfl, _, rfl, _, _, rfl, rfl, p, l, _, rfl, P7, by omega, by omega, fun m0 H8 m00 m01 P8 o8 => ?_⟩
      obtain ⟨m, rfl⟩ : ∃ n : Nat, m0 = (n : Int) := ⟨m0.toNat, by omega⟩
      refine ⟨_, rfl, by omega, by omega, ?_⟩
      rw [Int.toNat_natCast]
      refine for_range (lo := 0) (n := m) (fun i σ H' => ∃ (v7 : Option V) (FO : List ORow), σ = [some (.ref s), some (.ref p), some (.int (cn : Int)), some (.int (d : Int)), some (.int (n : Int)), some (.ref R), some (.ref R2), v7, none, none, none, none, none, none, none, none, none] ∧ In p l R (fun _ => False) H6 H' FO ∧ FO.length = cn ∧ ∀ (i : Nat) (e : Addr × List Int), FO[i]? = some (some e) → F[i]? = some e)
        ⟨none, F.map some, rfl, i7.draw P8 o8, by rw [List.length_map]; exact lF, base⟩ ?_ ?_
      · rintro i σ H9 hi ⟨v7, FO, rfl, i9, lFO, hFO⟩
        refine ⟨_, rfl, _, rfl, _, rfl, p, l, (cn : Int), rfl, i9.pot, by omega, by omega, fun a1 H10 a10 a11 P10 o10 => ?_⟩
        obtain ⟨a', rfl⟩ : ∃ n : Nat, a1 = (n : Int) := ⟨a1.toNat, by omega⟩
        have i10 := i9.draw P10 o10
        refine ⟨R, _, _, a', rfl, rfl, i10.dR, ixN_nat (by rw [List.length_map]; omega), ?_⟩
        have es : (refsO FO).set a' V.non = refsO (FO.set a' none) := by simp [refsO, List.map_set, refO]
        rw [es]
        refine ⟨_, FO.set a' none, rfl, i10.setR fun e m => ?_, by rw [List.length_set]; exact lFO, fun j e h => ?_⟩
        · rcases List.mem_or_eq_of_mem_set m with q | q
          · exact i10.rows e q
          · cases q
        · rcases item_set h with ⟨_, q, _⟩ | ⟨_, q⟩
          · cases q
          · exact hFO j e q
      · rintro σ H9 h
        exact h
    rintro σ H8 ⟨v7, FO, rfl, i8, lFO, hFO⟩
    have foF : ∀ e, some e ∈ FO → e ∈ F := fun e m => by
      obtain ⟨i, hi⟩ := List.mem_iff_getElem?.mp m
      exact List.mem_of_getElem? (hFO i e hi)
    obtain ⟨P0, eP⟩ : ∃ P0, P0 = presM FO := ⟨_, rfl⟩
    have m0 : Rm cn n ps P0 [] FO := ⟨lFO, eP.symm, fun i mi => by
      have := foF _ (List.mem_of_getElem? (presM_lt (eP ▸ mi)).2)
      exact ⟨rG _ this, rW _ this⟩, fun i mi _ => lGi i _ (hFO i _ (presM_lt (eP ▸ mi)).2), List.nodup_nil, fun i h => nomatch h⟩
    -- left
    refine ⟨_, rfl, _, rfl, by omega, by omega, ?_⟩
    rw [Int.toNat_natCast]
    refine fun Le nLe => lc_it walk_range (fun i H' => Same H8 H' ∧ H' Le = some (.lst ((intsN ((List.range i).filter fun j => (FO.getD j none).isSome)).map V.int))) ⟨Same.new nLe, upd_same⟩ (fun _ _ _ _ => True.intro) ?_ ?_
    · rintro i y H9 H10 hi ⟨s9, hD⟩ ⟨rfl, rfl⟩
      have ho : FO[i]? = some FO[i] := List.getElem?_eq_getElem (by omega)
      have gi := getD_item (d := none) ho
      refine ⟨rfl, _, rfl, _, rfl, R, _, _, _, rfl, rfl, SqL.of (s9 _ _ i8.dR), at_of (j := i) (by omega) (refsO_get ho), rfl, _, rfl, ?_⟩
      have fs : (List.range (i + 1)).filter (fun j => (FO.getD j none).isSome) = ((List.range i).filter fun j => (FO.getD j none).isSome) ++ if (FO.getD i none).isSome then [i] else [] := by
        rw [List.range_succ, List.filter_append]
        congr 1
        simp only [List.filter_cons, List.filter_nil]
      have le : ((List.range i).filter fun j => (FO.getD j none).isSome).length ≤ i := Nat.le_trans (List.length_filter_le _ _) (by rw [List.length_range]; exact Nat.le_refl _)
      generalize FO[i] = o at ho gi ⊢
      cases o with
      | none =>
        refine iteF ⟨s9, ?_⟩
        rw [fs, gi]
        show _ = some (HO.lst ((intsN (_ ++ [])).map V.int))
        rw [List.append_nil]
        exact hD
      | some e =>
        refine iteT ⟨_, rfl, _, hD, small _ (by rw [List.length_map]; unfold intsN; rw [List.length_map]; omega), same_put s9 nLe, ?_⟩
        rw [fs, gi]
        show _ = some (HO.lst ((intsN (_ ++ [i])).map V.int))
        rw [upd_same]
        dsimp only
        rw [Int.zero_add]
        unfold intsN
        rw [List.map_append, List.map_append]
        rfl
    rintro H9 ⟨s9, dLe⟩
    rw [← lFO] at dLe
    replace dLe : H9 Le = some (.lst ((intsN P0).map V.int)) := by rw [eP]; exact dLe
    have offLe := i8.pot.off nLe
    have i9 := i8.same s9
    have nLR : Le ≠ R := (ne_of_none i8.dR nLe).symm
    -- changed = []
    refine ⟨Nat.zero_le _, fun Cd nCd => ?_⟩
    have offCd := i9.pot.off nCd
    have nCR : Cd ≠ R := (ne_of_none i9.dR nCd).symm
    have nCL : Cd ≠ Le := (ne_of_none dLe nCd).symm
    have sC := Same.new (o := .lst []) nCd
    have dC : upd H9 Cd (.lst []) Cd = some (.lst ((intsN []).map V.int)) := upd_same
    have k10 : ∀ b o, H6 b = some o → b ≠ p → b ≠ R → upd H9 Cd (.lst []) b = some o ∧ b ≠ Cd := fun b o e n1 n2 => by
      have q := i9.keep b o e n1 n2 (fun z => z)
      exact ⟨sC _ _ q, ne_of_none q nCd⟩
    have i10 := i9.same sC
    have r10 : ∀ e, some e ∈ FO → e.1 ≠ Cd := fun e m => ne_of_none (i9.rows e m).1 nCd
    have dLe10 := sC _ _ dLe
    generalize upd H9 Cd (.lst []) = B at sC dC k10 i10 dLe10 ⊢
    have j10 : In p l R (fun b => b = Cd) B B FO := ⟨i10.pot, offR.1, offR.2, fun b o e _ _ _ => e, i10.dR, fun e m => ⟨(i10.rows e m).1, (i10.rows e m).2.1, r10 e m⟩⟩
    have dR2B := k10 _ _ dR26 n2p n2R
    have dF2B : ∀ e ∈ F2, (B e.1 = some (.lst (e.2.map V.int)) ∧ e.1 ≠ Cd) ∧ e.1 ≠ p ∧ e.1 ≠ R := fun e m => ⟨k10 _ _ (dF26 e m).1 (dF26 e m).2.1 (dF26 e m).2.2, (dF26 e m).2⟩
    -- whole
    refine ⟨_, rfl, p, l, 3, rfl, i10.pot, by decide, by decide, fun w0 H11 w00 w01 P11 o11 => ⟨rfl, ?_⟩⟩
    generalize decide (V.int w0 = V.int 2) = wh
    have i11 := j10.draw P11 o11
    have dC11 : H11 Cd = some (.lst ((intsN []).map V.int)) := by rw [o11 _ offCd.1.symm]; exact dC
    refine ⟨_, rfl, p, l, 4, rfl, P11, by decide, by decide, fun m1 H12 m10 m11 P12 o12 => ?_⟩
    obtain ⟨m, rfl⟩ : ∃ n : Nat, m1 = (n : Int) := ⟨m1.toNat, by omega⟩
    refine ⟨_, rfl, by omega, by omega, ?_⟩
    rw [Int.toNat_natCast]
    have i12 := i11.draw P12 o12
    have dC12 : H12 Cd = some (.lst ((intsN []).map V.int)) := by rw [o12 _ offCd.1.symm]; exact dC11
    refine for_range (lo := 0) (n := m) (fun _ σ H' => ∃ (v7 v11 v12 v13 : Option V) (FO : List ORow) (C : List Nat), σ = [some (.ref s), some (.ref p), some (.int (cn : Int)), some (.int (d : Int)), some (.int (n : Int)), some (.ref R), some (.ref R2), v7, some (.ref Le), some (.ref Cd), some (.bl wh), v11, v12, v13, none, none, none] ∧ In p l R (fun b => b = Cd) B H' FO ∧ H' Cd = some (.lst ((intsN C).map V.int)) ∧ Rm cn n ps P0 C FO)
      ⟨_, none, none, none, FO, [], rfl, i12, dC12, m0⟩ ?_ ?_
    · rintro i σ H13 hi ⟨v7, v11, v12, v13, FO, C, rfl, i13, dC13, m13⟩
      refine ⟨_, rfl, _, rfl, p, l, (cn : Int), rfl, i13.pot, by omega, by omega, fun a1 H14 a10 a11 P14 o14 => ?_⟩
      obtain ⟨a', rfl⟩ : ∃ n : Nat, a1 = (n : Int) := ⟨a1.toNat, by omega⟩
      have i14 := i13.draw P14 o14
      have dC14 : H14 Cd = some (.lst ((intsN C).map V.int)) := by rw [o14 _ offCd.1.symm]; exact dC13
      have dLe14 : H14 Le = some (.lst ((intsN P0).map V.int)) := i14.keep _ _ dLe10 offLe.1.symm nLR nCL.symm
      have dR214 : H14 R2 = some (.lst (refs F2)) := i14.keep _ _ dR2B.1 n2p n2R dR2B.2
      have dF214 : ∀ e ∈ F2, H14 e.1 = some (.lst (e.2.map V.int)) := fun e m => i14.keep _ _ (dF2B e m).1.1 (dF2B e m).2.1 (dF2B e m).2.2 (dF2B e m).1.2
      refine ⟨_, rfl, _, rfl, Le, _, rfl, .inl (SqL.of dLe14), rfl, flat_intsN _, _, rfl, ?_⟩
      rw [inV_in]
      refine ite2 (fun z1 => ?_) (fun _ => iteF ⟨_, _, _, _, FO, C, rfl, i14, dC14, m13⟩)
      refine ⟨_, rfl, _, rfl, Cd, _, rfl, .inl (SqL.of dC14), rfl, flat_intsN _, _, rfl, ?_⟩
      rw [inV_less]
      refine ite2 (fun z2 => ?_) (fun _ => ⟨_, _, _, _, FO, C, rfl, i14, dC14, m13⟩)
      have hP : a' ∈ P0 := of_decide_eq_true z1
      have hC : a' ∉ C := of_decide_eq_true z2
      have hAt := presM_lt (F := FO) (m13.pres.symm ▸ hP)
      have lFO := m13.len
      have he2 : F2[a']? = some (F2[a']'(by omega)) := List.getElem?_eq_getElem (by omega)
      have me2 : (F2[a']'(by omega)) ∈ F2 := List.getElem_mem _
      generalize (F2[a']'(by omega)) = e2 at he2 me2
      obtain ⟨e2l, e2w⟩ := rG2 e2 me2
      refine ⟨_, rfl, _, rfl, R2, _, _, _, rfl, rfl, SqL.of dR214, at_of (j := a') rfl (refs_get he2), e2.1, _, rfl, .inl (SqL.of (dF214 e2 me2)), fun Nw nNw => ?_⟩
      have s15 := Same.new (o := .lst (e2.2.map V.int)) nNw
      have dN15 : upd H14 Nw (.lst (e2.2.map V.int)) Nw = some (.lst (e2.2.map V.int)) := upd_same
      have nNR : Nw ≠ R := (ne_of_none i14.dR nNw).symm
      have nNC : Nw ≠ Cd := (ne_of_none dC14 nNw).symm
      generalize upd H14 Nw (.lst (e2.2.map V.int)) = H15 at s15 dN15 ⊢
      have i15 := i14.same s15
      have dC15 := s15 _ _ dC14
      obtain ⟨rl, rw0⟩ := m13.row a' hP
      refine ⟨fun σ H' => ∃ (v7 v13 : Option V) (Nw : Addr) (r : List Int), σ = [some (.ref s), some (.ref p), some (.int (cn : Int)), some (.int (d : Int)), some (.int (n : Int)), some (.ref R), some (.ref R2), v7, some (.ref Le), some (.ref Cd), some (.bl wh), some (.int (a' : Int)), some (.ref Nw), v13, none, none, none] ∧ In p l R (fun b => b = Cd) B H' FO ∧ H' Cd = some (.lst ((intsN C).map V.int)) ∧ H' Nw = some (.lst (r.map V.int)) ∧ Nw ≠ R ∧ Nw ≠ Cd ∧ r.length = n ∧ ∀ w ∈ r, 0 ≤ w ∧ w < 65521, ?_, ?_⟩
      · refine ⟨_, rfl, wh, rfl, ite2 (fun _ => ?_) (fun _ => ⟨_, _, Nw, e2.2, rfl, i15, dC15, dN15, nNR, nNC, e2l, e2w⟩)⟩
        refine ⟨_, rfl, _, rfl, R, _, _, _, rfl, rfl, SqL.of i15.dR, at_of (j := a') rfl (refsO_get hAt.2), (rowAt FO a').1, _, rfl, .inl (SqL.of (i15.rows _ (List.mem_of_getElem? hAt.2)).1), fun N2 nN2 => ?_⟩
        have s16 := Same.new (o := .lst ((rowAt FO a').2.map V.int)) nN2
        have dN16 : upd H15 N2 (.lst ((rowAt FO a').2.map V.int)) N2 = some (.lst ((rowAt FO a').2.map V.int)) := upd_same
        have n2R' : N2 ≠ R := (ne_of_none i15.dR nN2).symm
        have n2C' : N2 ≠ Cd := (ne_of_none dC15 nN2).symm
        have off2 := i15.pot.off nN2
        have hB2 := i15.none nN2 n2C'
        have hr2 : ∀ e, some e ∈ FO → e.1 ≠ N2 := fun e m => ne_of_none (i15.rows e m).1 nN2
        generalize upd H15 N2 (.lst ((rowAt FO a').2.map V.int)) = H16 at s16 dN16 ⊢
        have i16 := i15.same s16
        have dC16 := s16 _ _ dC15
        refine ⟨_, rfl, _, rfl, p, l, (n : Int), rfl, i16.pot, by omega, by omega, fun y H17 y0 y1 P17 o17 => ?_⟩
        obtain ⟨pc, rfl⟩ : ∃ n : Nat, y = (n : Int) := ⟨y.toNat, by omega⟩
        have i17 := i16.draw P17 o17
        have dN17 : H17 N2 = some (.lst ((rowAt FO a').2.map V.int)) := by rw [o17 _ off2.1.symm]; exact dN16
        have dC17 : H17 Cd = some (.lst ((intsN C).map V.int)) := by rw [o17 _ offCd.1.symm]; exact dC16
        have hpc : (rowAt FO a').2[pc]? = some ((rowAt FO a').2[pc]'(by omega)) := List.getElem?_eq_getElem (by omega)
        refine ⟨_, rfl, _, rfl, N2, _, _, _, rfl, rfl, SqL.of dN17, at_of (j := pc) rfl (by rw [List.getElem?_map, hpc]; rfl), _, _, rfl, rfl, _, rfl, p, l, 65520, rfl, P17, by decide, by decide, fun w H18 w0 w1 P18 o18 => ⟨_, _, rfl, rfl, .inl ⟨_, rfl, _, _, rfl, rfl, (by show (0 : Int) < 65521; decide), ?_⟩⟩⟩
        have i18 := i17.draw P18 o18
        have dN18 : H18 N2 = some (.lst ((rowAt FO a').2.map V.int)) := by rw [o18 _ off2.1.symm]; exact dN17
        have dC18 : H18 Cd = some (.lst ((intsN C).map V.int)) := by rw [o18 _ offCd.1.symm]; exact dC17
        refine ⟨_, rfl, _, rfl, N2, _, _, pc, rfl, rfl, dN18, ixN_nat (by rw [List.length_map]; omega), ?_⟩
        rw [← List.map_set]
        have hv : 0 ≤ ((rowAt FO a').2[pc]'(by omega) + 1 + w) % 65521 ∧ ((rowAt FO a').2[pc]'(by omega) + 1 + w) % 65521 < 65521 := ⟨Int.emod_nonneg _ (by decide), Int.emod_lt_of_pos _ (by decide)⟩
        generalize ((rowAt FO a').2[pc]'(by omega) + 1 + w) % 65521 = v at hv ⊢
        refine ⟨_, _, N2, (rowAt FO a').2.set pc v, rfl, i18.putN hB2 hr2 off2.1 off2.2 n2R'.symm, by rw [upd_ne n2C'.symm]; exact dC18, upd_same, n2R', n2C', by rw [List.length_set]; exact rl, fun w mw => ?_⟩
        rcases List.mem_or_eq_of_mem_set mw with q | q
        · exact rw0 w q
        · rw [q]; exact hv
      rintro σ H19 ⟨v7, v13, Nw, r, rfl, i19, dC19, dN19, nNR, nNC, lr, wr⟩
      have hrow19 := (i19.rows _ (List.mem_of_getElem? hAt.2)).1
      have lC : C.length ≤ 7 := by
        have h1 := List.Nodup.length_le_of_subset m13.nd (fun x m => (m13.bad x m).1)
        have h2 := presM_len FO
        rw [m13.pres] at h2
        omega
      have es : (refsO FO).set a' (V.ref Nw) = refsO (FO.set a' (some (Nw, r))) := by simp [refsO, List.map_set, refO]
      have rows' : ∀ {H : Hp}, In p l R (fun b => b = Cd) B H FO → H Nw = some (.lst (r.map V.int)) → ∀ e, some e ∈ FO.set a' (some (Nw, r)) → H e.1 = some (.lst (e.2.map V.int)) ∧ e.1 ≠ R ∧ ¬ e.1 = Cd := fun i h e m => by
        rcases List.mem_or_eq_of_mem_set m with q | q
        · exact i.rows e q
        · cases q
          exact ⟨h, nNR, nNC⟩
      refine ⟨_, rfl, _, rfl, _, rfl, R, _, _, _, rfl, rfl, SqL.of i19.dR, at_of (j := a') rfl (refsO_get hAt.2), _, _, dp_ints (SqL.of dN19), dp_ints (SqL.of hrow19), shaped_ints _, shaped_ints _, _, rfl, ?_⟩
      rw [eqv_ints]
      refine ite2 (fun z => ?_) (fun z => ?_)
      · have ne : r ≠ (rowAt FO a').2 := fun e => by
          rw [decide_eq_true e] at z
          cases z
        refine ⟨_, rfl, .inl ⟨rfl, _, SqL.of dC19⟩, _, rfl, Cd, _, _, rfl, rfl, dC19, small _ (by rw [List.length_map, intsN_len]; omega), ?_⟩
        have ec : (intsN C).map V.int ++ [V.int (a' : Int)] = (intsN (C ++ [a'])).map V.int := by
          unfold intsN
          rw [List.map_append, List.map_append]
          rfl
        rw [ec]
        have i20 := i19.putX (c := Cd) (o := .lst ((intsN (C ++ [a'])).map V.int)) rfl offCd.1 offCd.2 nCR.symm
        have dN20 : upd H19 Cd (.lst ((intsN (C ++ [a'])).map V.int)) Nw = some (.lst (r.map V.int)) := by rw [upd_ne nNC]; exact dN19
        have dC20 : upd H19 Cd (.lst ((intsN (C ++ [a'])).map V.int)) Cd = some (.lst ((intsN (C ++ [a'])).map V.int)) := upd_same
        generalize upd H19 Cd (.lst ((intsN (C ++ [a'])).map V.int)) = H20 at i20 dN20 dC20 ⊢
        refine ⟨_, rfl, _, rfl, _, rfl, R, _, _, a', rfl, rfl, i20.dR, ixN_nat (by rw [List.length_map]; omega), ?_⟩
        rw [es]
        exact ⟨_, _, _, _, FO.set a' (some (Nw, r)), C ++ [a'], rfl, i20.setR (rows' i20 dN20), by rw [upd_ne nCR]; exact dC20, m13.set hP hC lr wr (by rw [if_neg ne])⟩
      · have eq : r = (rowAt FO a').2 := Classical.byContradiction fun y => z (by rw [decide_eq_false y]; rfl)
        refine ⟨_, rfl, _, rfl, _, rfl, R, _, _, a', rfl, rfl, i19.dR, ixN_nat (by rw [List.length_map]; omega), ?_⟩
        rw [es]
        exact ⟨_, _, _, _, FO.set a' (some (Nw, r)), C, rfl, i19.setR (rows' i19 dN19), by rw [upd_ne nCR]; exact dC19, m13.set hP hC lr wr (by rw [if_pos eq])⟩
    rintro σ H13 ⟨v7, v11, v12, v13, FO, C, rfl, i13, dC13, m13⟩
    have lFO := m13.len
    have hF13 : RowsW FO n := ⟨by omega, fun i mi => m13.row i (m13.pres ▸ mi)⟩
    have dLe13 : H13 Le = some (.lst ((intsN P0).map V.int)) := i13.keep _ _ dLe10 offLe.1.symm nLR nCL.symm
    have lC : C.length ≤ 7 := by
      have h1 := List.Nodup.length_le_of_subset m13.nd (fun x m => (m13.bad x m).1)
      have h2 := presM_len FO
      rw [m13.pres] at h2
      omega
    -- passed
    refine ⟨_, rfl, _, rfl, by omega, by omega, ?_⟩
    rw [Int.toNat_natCast]
    refine fun Ps nPs => lc_it walk_range (fun i H' => Same H13 H' ∧ H' Ps = some (.lst ((refsO FO).take i))) ⟨Same.new nPs, upd_same⟩ (fun _ _ _ _ => True.intro) ?_ ?_
    · rintro i y H14 H15 hi ⟨s14, hD⟩ ⟨rfl, rfl⟩
      have ho : FO[i]? = some FO[i] := List.getElem?_eq_getElem (by omega)
      refine ⟨rfl, _, rfl, _, rfl, R, _, _, _, rfl, rfl, SqL.of (s14 _ _ i13.dR), at_of (j := i) (by omega) (refsO_get ho), _, hD, small _ (by simp; omega), same_put s14 nPs, ?_⟩
      rw [upd_same, take_snoc (refsO_get ho)]
    rintro H14 ⟨s14, dPs⟩
    rw [List.take_of_length_le (by rw [List.length_map]; omega)] at dPs
    have roP : RO K H14 Ps FO := ⟨SqL.of dPs, fun e m => SqL.of (s14 _ _ (i13.rows e m).1)⟩
    -- found
    refine ⟨_, rfl, _, rfl, Ps, FO, d, n, rfl, roP, hF13, by omega, d1, by omega, fun found H15 s15 hf15 => ?_⟩
    have hps' : ∀ w ∈ ps, w.length ≤ d := fun w m => by rw [(hps w m).1]; exact Nat.le_refl _
    refine ⟨fun σ H' => σ = [some (.ref s), some (.ref p), some (.int (cn : Int)), some (.int (d : Int)), some (.int (n : Int)), some (.ref R), some (.ref R2), v7, some (.ref Le), some (.ref Cd), some (.bl wh), v11, v12, v13, some (.ref Ps), some found, none] ∧ H' = H15 ∧ d ≤ P0.length, ?_, ?_⟩
    · refine ⟨_, rfl, Le, _, rfl, .inl (SqL.of (s15 _ _ (s14 _ _ dLe13))), _, rfl, _, _, rfl, rfl, _, rfl, ite2 (fun z => ⟨_, rfl, rfl, ?_⟩) (fun z => ⟨rfl, rfl, ?_⟩)⟩
      · have z := of_decide_eq_true z
        rw [List.length_map, intsN_len] at z
        rcases hf15 with ⟨rfl, _⟩ | ⟨S, D, rfl, hS, _⟩
        · have : Q (V.bl (decide (V.non = V.non))) H15 := by
            rw [decide_eq_true rfl]
            exact k _
          exact this
        · have := hS.1.2.1
          rw [m13.pres] at this
          omega
      · refine Classical.byContradiction fun y => z (decide_eq_true ?_)
        rw [List.length_map, intsN_len]
        omega
    rintro σ H16 ⟨rfl, rfl, dP⟩
    have s6 := s14.trans s15
    have i16 := i13.same s6
    have dC16 := s6 _ _ dC13
    have dLe16 := s6 _ _ dLe13
    have dPs16 := s15 _ _ dPs
    have ro16 : RO K H16 R FO := ⟨SqL.of i16.dR, fun e m => SqL.of (i16.rows e m).1⟩
    refine ⟨_, rfl, _, rfl, _, rfl, _, rfl, R, Le, FO, d, n, rfl, ro16, hF13, by omega, by omega, by rw [m13.pres]; exact SqL.of dLe16, d1, by rw [m13.pres]; exact dP, fun due H17 s17 hd17 => ?_⟩
    have roP17 : RO K H17 Ps FO := ⟨SqL.of (s17 _ _ dPs16), fun e m => SqL.of (s17 _ _ (i16.rows e m).1)⟩
    have ro17 := ro16.same s17
    have dC17 := s17 _ _ dC16
    have dLe17 := s17 _ _ dLe16
    have hf17 := hf15.same s17
    refine ⟨fun σ H' => σ = [some (.ref s), some (.ref p), some (.int (cn : Int)), some (.int (d : Int)), some (.int (n : Int)), some (.ref R), some (.ref R2), v7, some (.ref Le), some (.ref Cd), some (.bl wh), v11, v12, v13, some (.ref Ps), some found, some due] ∧ Same H17 H', ?_, ?_⟩
    · refine ⟨_, rfl, _, rfl, _, _, dp_opts roP17, dp_opts ro17, opts_shaped _, opts_shaped _, _, rfl, ?_⟩
      rw [opts_eqv]
      refine iteF ⟨_, rfl, Cd, _, rfl, .inl (SqL.of dC17), _, _, rfl, rfl, .inl ⟨by decide, by decide⟩, _, rfl, Le, _, rfl, .inl (SqL.of dLe17), _, rfl, _, _, rfl, rfl, _, _, rfl, rfl, _, rfl, ?_⟩
      refine ite2 (fun z => ?_) (fun z => iteF ⟨rfl, Same.refl _⟩)
      have z := of_decide_eq_true z
      rw [List.length_map, intsN_len, List.length_map, intsN_len] at z
      have z : (2 : Int) * (C.length : Int) ≤ (P0.length : Int) - (d : Int) := z
      have h2 : 2 * C.length + d ≤ (presM FO).length := by rw [m13.pres]; omega
      have hFl : RowsW FO ps.length := by rw [lps]; exact hF13
      have hgood : ∀ i ∈ presM FO, i ∉ C → (rowAt FO i).2 = ps.map fun w => horn w ((i : Nat) : Int) := fun i mi ni => m13.good i (m13.pres ▸ mi) ni
      have cc := changed_cul (C := C) (ps := ps) (d := d) hFl hps' m13.nd h2 hgood
      rw [lps] at cc
      rcases hd17 with ⟨rfl, no⟩ | ⟨S, D, rfl, hS, dD⟩
      · exact absurd cc (no _)
      refine ⟨_, rfl, _, rfl, Cd, intsN C, rfl, SqL.of dC17, by rw [intsN_len]; omega, fun ns' q perm pw nq => ?_⟩
      have sq := Same.new (o := .lst (ns'.map V.int)) nq
      have es := changed_least (d := d) hFl hps' m13.nd h2 hgood (fun i mi => (m13.bad i mi).2) (by rw [lps]; exact hS)
      have en := changed_sorted es m13.nd (fun x mx => by rw [m13.pres]; exact (m13.bad x mx).1) perm pw
      refine ⟨_, _, dp_ints (SqL.of (sq _ _ dD)), dp_ints (SqL.of upd_same), shaped_ints _, shaped_ints _, _, rfl, ?_⟩
      rw [eqv_ints, en, decide_eq_true rfl]
      exact iteF ⟨rfl, sq⟩
    rintro σ H18 ⟨rfl, s18⟩
    have hf18 := hf17.same s18
    have hd18 := hd17.same s18
    rcases hd18 with ⟨rfl, no⟩ | ⟨S, D, rfl, hS, dD⟩
    · refine ⟨_, rfl, rfl, _, rfl, ite2 (fun _ => ⟨_, rfl, rfl, ?_⟩) (fun y => absurd (decide_eq_true rfl) y)⟩
      rcases hf18 with ⟨rfl, _⟩ | ⟨S, D, rfl, hS, _⟩
      · have : Q (V.bl (decide (V.non = V.non))) H18 := by
          rw [decide_eq_true rfl]
          exact k _
        exact this
      · exact absurd hS.1 (no S)
    rcases hf18 with ⟨rfl, no⟩ | ⟨S', Df, rfl, hS', dDf⟩
    · exact absurd hS.1 (no S)
    rw [least_one hF13 hS' hS] at dDf
    refine ⟨_, rfl, rfl, _, rfl, ite2 (fun y => nomatch (of_decide_eq_true y)) (fun _ => ?_)⟩
    have lS7 : S.length ≤ 7 := by
      have h1 := hS.1.1.length_le
      have h2 := presM_len FO
      omega
    refine ⟨_, rfl, _, _, _, _, true, rfl, .ty "list", .base (.lst dDf), kit_ty (by decide +kernel), true, rfl, iteF ?_⟩
    refine ⟨_, rfl, Df, rfl, ⟨_, SqL.of dDf⟩, fun Al nAl => lc_list (K := K) (a := Df) (xs := (intsN S).map V.int) (fun i H' => Same H18 H' ∧ H' Al = some (.lst ((List.replicate i true).map V.bl))) ⟨Same.new nAl, upd_same⟩ (fun i H' _ q => SqL.of (q.1 _ _ dDf)) ?_ ?_⟩
    · rintro i y H19 hy ⟨s19, hA⟩
      obtain ⟨m, hm, rfl⟩ := intsN_item hy
      have li := item_lt hm
      refine ⟨rfl, _, rfl, _, rfl, _, hA, small _ (by rw [List.length_map, List.length_replicate]; omega), same_put s19 nAl, ?_⟩
      rw [upd_same, List.replicate_succ', List.map_append]
      rfl
    rintro H19 ⟨s19, hA⟩
    refine ⟨Al, _, rfl, SqL.of hA, _, rfl, ?_⟩
    have e1 : (List.replicate ((intsN S).map V.int).length true).all id = true := by simp
    rw [e1]
    refine iteF ⟨_, rfl, _, rfl, _, _, dp_ints (SqL.of (s19 _ _ dDf)), dp_ints (SqL.of (s19 _ _ dD)), shaped_ints _, shaped_ints _, ?_⟩
    rw [eqv_ints, decide_eq_true rfl]
    exact k _
end
theorem all_mk {l : PySem.W.OpenLaw} {w : World} {K : PySem.W.Frag} {h : Heap} {mg : Str → Option Value} {fa : Addr} (X : K.In h) (G : h.Ns mainGlobals mg) (hfa : mg "law" = some (.ref fa))
    {f_inverse : Addr} {oc_inverse kV_inverse dc_inverse pm_inverse cd_inverse ct_inverse : Value} {od_inverse an_inverse : Option Addr} {sl_inverse : Array (Option Value)}
    {f_weight : Addr} {oc_weight kV_weight dc_weight pm_weight cd_weight ct_weight : Value} {od_weight an_weight : Option Addr} {sl_weight : Array (Option Value)}
    {f_weights : Addr} {oc_weights kV_weights dc_weights pm_weights cd_weights ct_weights : Value} {od_weights an_weights : Option Addr} {sl_weights : Array (Option Value)}
    {f_check_lengths : Addr} {oc_check_lengths kV_check_lengths dc_check_lengths pm_check_lengths cd_check_lengths ct_check_lengths : Value} {od_check_lengths an_check_lengths : Option Addr} {sl_check_lengths : Array (Option Value)}
    {f_piece_at : Addr} {oc_piece_at kV_piece_at dc_piece_at pm_piece_at cd_piece_at ct_piece_at : Value} {od_piece_at an_piece_at : Option Addr} {sl_piece_at : Array (Option Value)}
    {f_present_numbers : Addr} {oc_present_numbers kV_present_numbers dc_present_numbers pm_present_numbers cd_present_numbers ct_present_numbers : Value} {od_present_numbers an_present_numbers : Option Addr} {sl_present_numbers : Array (Option Value)}
    {f_agree : Addr} {oc_agree kV_agree dc_agree pm_agree cd_agree ct_agree : Value} {od_agree an_agree : Option Addr} {sl_agree : Array (Option Value)}
    {f_wrong_pieces : Addr} {oc_wrong_pieces kV_wrong_pieces dc_wrong_pieces pm_wrong_pieces cd_wrong_pieces ct_wrong_pieces : Value} {od_wrong_pieces an_wrong_pieces : Option Addr} {sl_wrong_pieces : Array (Option Value)}
    {f_law_pot : Addr} {oc_law_pot kV_law_pot dc_law_pot pm_law_pot cd_law_pot ct_law_pot : Value} {od_law_pot an_law_pot : Option Addr} {sl_law_pot : Array (Option Value)}
    {f_law_next : Addr} {oc_law_next kV_law_next dc_law_next pm_law_next cd_law_next ct_law_next : Value} {od_law_next an_law_next : Option Addr} {sl_law_next : Array (Option Value)}
    {f_law_word : Addr} {oc_law_word kV_law_word dc_law_word pm_law_word cd_law_word ct_law_word : Value} {od_law_word an_law_word : Option Addr} {sl_law_word : Array (Option Value)}
    {f_law_words : Addr} {oc_law_words kV_law_words dc_law_words pm_law_words cd_law_words ct_law_words : Value} {od_law_words an_law_words : Option Addr} {sl_law_words : Array (Option Value)}
    {f_law_horner : Addr} {oc_law_horner kV_law_horner dc_law_horner pm_law_horner cd_law_horner ct_law_horner : Value} {od_law_horner an_law_horner : Option Addr} {sl_law_horner : Array (Option Value)}
    {f_law_stripe : Addr} {oc_law_stripe kV_law_stripe dc_law_stripe pm_law_stripe cd_law_stripe ct_law_stripe : Value} {od_law_stripe an_law_stripe : Option Addr} {sl_law_stripe : Array (Option Value)}
    {f_law_is_int : Addr} {oc_law_is_int kV_law_is_int dc_law_is_int pm_law_is_int cd_law_is_int ct_law_is_int : Value} {od_law_is_int an_law_is_int : Option Addr} {sl_law_is_int : Array (Option Value)}
    {f_law_answer : Addr} {oc_law_answer kV_law_answer dc_law_answer pm_law_answer cd_law_answer ct_law_answer : Value} {od_law_answer an_law_answer : Option Addr} {sl_law_answer : Array (Option Value)}
    {f_law_value : Addr} {oc_law_value kV_law_value dc_law_value pm_law_value cd_law_value ct_law_value : Value} {od_law_value an_law_value : Option Addr} {sl_law_value : Array (Option Value)}
    {f_law_fits : Addr} {oc_law_fits kV_law_fits dc_law_fits pm_law_fits cd_law_fits ct_law_fits : Value} {od_law_fits an_law_fits : Option Addr} {sl_law_fits : Array (Option Value)}
    {f_law_due : Addr} {oc_law_due kV_law_due dc_law_due pm_law_due cd_law_due ct_law_due : Value} {od_law_due an_law_due : Option Addr} {sl_law_due : Array (Option Value)}
    {f_law : Addr} {oc_law kV_law dc_law pm_law cd_law ct_law : Value} {od_law an_law : Option Addr} {sl_law : Array (Option Value)}
    {c_PoolError : Addr}
    {c_InvalidArgument : Addr}
    {c_NotEnoughPieces : Addr}
    {tk_PRIME : Tok}
    {tk_MAX_PIECES : Tok}
    (a_inverse : PySem.W.nsIn K mainGlobals "inverse" = some (some (.ref f_inverse)))
    (l_inverse : K.lookup f_inverse = some ⟨oc_inverse, od_inverse, .func (PySem.W.fnOf "inverse" "inverse" (defArgs s_inverse) (defBody s_inverse) (defScope s_inverse) .none kV_inverse dc_inverse pm_inverse an_inverse cd_inverse ct_inverse), sl_inverse⟩)
    (q_inverse : PySem.W.codeIn K cd_inverse "inverse" = true)
    (k_inverse : PySem.W.keepIn K (.ref f_inverse) = true)
    (a_weight : PySem.W.nsIn K mainGlobals "weight" = some (some (.ref f_weight)))
    (l_weight : K.lookup f_weight = some ⟨oc_weight, od_weight, .func (PySem.W.fnOf "weight" "weight" (defArgs s_weight) (defBody s_weight) (defScope s_weight) .none kV_weight dc_weight pm_weight an_weight cd_weight ct_weight), sl_weight⟩)
    (q_weight : PySem.W.codeIn K cd_weight "weight" = true)
    (k_weight : PySem.W.keepIn K (.ref f_weight) = true)
    (a_weights : PySem.W.nsIn K mainGlobals "weights" = some (some (.ref f_weights)))
    (l_weights : K.lookup f_weights = some ⟨oc_weights, od_weights, .func (PySem.W.fnOf "weights" "weights" (defArgs s_weights) (defBody s_weights) (defScope s_weights) .none kV_weights dc_weights pm_weights an_weights cd_weights ct_weights), sl_weights⟩)
    (q_weights : PySem.W.codeIn K cd_weights "weights" = true)
    (k_weights : PySem.W.keepIn K (.ref f_weights) = true)
    (a_check_lengths : PySem.W.nsIn K mainGlobals "check_lengths" = some (some (.ref f_check_lengths)))
    (l_check_lengths : K.lookup f_check_lengths = some ⟨oc_check_lengths, od_check_lengths, .func (PySem.W.fnOf "check_lengths" "check_lengths" (defArgs s_check_lengths) (defBody s_check_lengths) (defScope s_check_lengths) .none kV_check_lengths dc_check_lengths pm_check_lengths an_check_lengths cd_check_lengths ct_check_lengths), sl_check_lengths⟩)
    (q_check_lengths : PySem.W.codeIn K cd_check_lengths "check_lengths" = true)
    (k_check_lengths : PySem.W.keepIn K (.ref f_check_lengths) = true)
    (a_piece_at : PySem.W.nsIn K mainGlobals "piece_at" = some (some (.ref f_piece_at)))
    (l_piece_at : K.lookup f_piece_at = some ⟨oc_piece_at, od_piece_at, .func (PySem.W.fnOf "piece_at" "piece_at" (defArgs s_piece_at) (defBody s_piece_at) (defScope s_piece_at) .none kV_piece_at dc_piece_at pm_piece_at an_piece_at cd_piece_at ct_piece_at), sl_piece_at⟩)
    (q_piece_at : PySem.W.codeIn K cd_piece_at "piece_at" = true)
    (k_piece_at : PySem.W.keepIn K (.ref f_piece_at) = true)
    (a_present_numbers : PySem.W.nsIn K mainGlobals "present_numbers" = some (some (.ref f_present_numbers)))
    (l_present_numbers : K.lookup f_present_numbers = some ⟨oc_present_numbers, od_present_numbers, .func (PySem.W.fnOf "present_numbers" "present_numbers" (defArgs s_present_numbers) (defBody s_present_numbers) (defScope s_present_numbers) .none kV_present_numbers dc_present_numbers pm_present_numbers an_present_numbers cd_present_numbers ct_present_numbers), sl_present_numbers⟩)
    (q_present_numbers : PySem.W.codeIn K cd_present_numbers "present_numbers" = true)
    (k_present_numbers : PySem.W.keepIn K (.ref f_present_numbers) = true)
    (a_agree : PySem.W.nsIn K mainGlobals "agree" = some (some (.ref f_agree)))
    (l_agree : K.lookup f_agree = some ⟨oc_agree, od_agree, .func (PySem.W.fnOf "agree" "agree" (defArgs s_agree) (defBody s_agree) (defScope s_agree) .none kV_agree dc_agree pm_agree an_agree cd_agree ct_agree), sl_agree⟩)
    (q_agree : PySem.W.codeIn K cd_agree "agree" = true)
    (k_agree : PySem.W.keepIn K (.ref f_agree) = true)
    (a_wrong_pieces : PySem.W.nsIn K mainGlobals "wrong_pieces" = some (some (.ref f_wrong_pieces)))
    (l_wrong_pieces : K.lookup f_wrong_pieces = some ⟨oc_wrong_pieces, od_wrong_pieces, .func (PySem.W.fnOf "wrong_pieces" "wrong_pieces" (defArgs s_wrong_pieces) (defBody s_wrong_pieces) (defScope s_wrong_pieces) .none kV_wrong_pieces dc_wrong_pieces pm_wrong_pieces an_wrong_pieces cd_wrong_pieces ct_wrong_pieces), sl_wrong_pieces⟩)
    (q_wrong_pieces : PySem.W.codeIn K cd_wrong_pieces "wrong_pieces" = true)
    (k_wrong_pieces : PySem.W.keepIn K (.ref f_wrong_pieces) = true)
    (a_law_pot : PySem.W.nsIn K mainGlobals "_law_pot" = some (some (.ref f_law_pot)))
    (l_law_pot : K.lookup f_law_pot = some ⟨oc_law_pot, od_law_pot, .func (PySem.W.fnOf "_law_pot" "_law_pot" (defArgs s_law_pot) (defBody s_law_pot) (defScope s_law_pot) .none kV_law_pot dc_law_pot pm_law_pot an_law_pot cd_law_pot ct_law_pot), sl_law_pot⟩)
    (q_law_pot : PySem.W.codeIn K cd_law_pot "_law_pot" = true)
    (k_law_pot : PySem.W.keepIn K (.ref f_law_pot) = true)
    (a_law_next : PySem.W.nsIn K mainGlobals "_law_next" = some (some (.ref f_law_next)))
    (l_law_next : K.lookup f_law_next = some ⟨oc_law_next, od_law_next, .func (PySem.W.fnOf "_law_next" "_law_next" (defArgs s_law_next) (defBody s_law_next) (defScope s_law_next) .none kV_law_next dc_law_next pm_law_next an_law_next cd_law_next ct_law_next), sl_law_next⟩)
    (q_law_next : PySem.W.codeIn K cd_law_next "_law_next" = true)
    (k_law_next : PySem.W.keepIn K (.ref f_law_next) = true)
    (a_law_word : PySem.W.nsIn K mainGlobals "_law_word" = some (some (.ref f_law_word)))
    (l_law_word : K.lookup f_law_word = some ⟨oc_law_word, od_law_word, .func (PySem.W.fnOf "_law_word" "_law_word" (defArgs s_law_word) (defBody s_law_word) (defScope s_law_word) .none kV_law_word dc_law_word pm_law_word an_law_word cd_law_word ct_law_word), sl_law_word⟩)
    (q_law_word : PySem.W.codeIn K cd_law_word "_law_word" = true)
    (k_law_word : PySem.W.keepIn K (.ref f_law_word) = true)
    (a_law_words : PySem.W.nsIn K mainGlobals "_law_words" = some (some (.ref f_law_words)))
    (l_law_words : K.lookup f_law_words = some ⟨oc_law_words, od_law_words, .func (PySem.W.fnOf "_law_words" "_law_words" (defArgs s_law_words) (defBody s_law_words) (defScope s_law_words) .none kV_law_words dc_law_words pm_law_words an_law_words cd_law_words ct_law_words), sl_law_words⟩)
    (q_law_words : PySem.W.codeIn K cd_law_words "_law_words" = true)
    (k_law_words : PySem.W.keepIn K (.ref f_law_words) = true)
    (a_law_horner : PySem.W.nsIn K mainGlobals "_law_horner" = some (some (.ref f_law_horner)))
    (l_law_horner : K.lookup f_law_horner = some ⟨oc_law_horner, od_law_horner, .func (PySem.W.fnOf "_law_horner" "_law_horner" (defArgs s_law_horner) (defBody s_law_horner) (defScope s_law_horner) .none kV_law_horner dc_law_horner pm_law_horner an_law_horner cd_law_horner ct_law_horner), sl_law_horner⟩)
    (q_law_horner : PySem.W.codeIn K cd_law_horner "_law_horner" = true)
    (k_law_horner : PySem.W.keepIn K (.ref f_law_horner) = true)
    (a_law_stripe : PySem.W.nsIn K mainGlobals "_law_stripe" = some (some (.ref f_law_stripe)))
    (l_law_stripe : K.lookup f_law_stripe = some ⟨oc_law_stripe, od_law_stripe, .func (PySem.W.fnOf "_law_stripe" "_law_stripe" (defArgs s_law_stripe) (defBody s_law_stripe) (defScope s_law_stripe) .none kV_law_stripe dc_law_stripe pm_law_stripe an_law_stripe cd_law_stripe ct_law_stripe), sl_law_stripe⟩)
    (q_law_stripe : PySem.W.codeIn K cd_law_stripe "_law_stripe" = true)
    (k_law_stripe : PySem.W.keepIn K (.ref f_law_stripe) = true)
    (a_law_is_int : PySem.W.nsIn K mainGlobals "_law_is_int" = some (some (.ref f_law_is_int)))
    (l_law_is_int : K.lookup f_law_is_int = some ⟨oc_law_is_int, od_law_is_int, .func (PySem.W.fnOf "_law_is_int" "_law_is_int" (defArgs s_law_is_int) (defBody s_law_is_int) (defScope s_law_is_int) .none kV_law_is_int dc_law_is_int pm_law_is_int an_law_is_int cd_law_is_int ct_law_is_int), sl_law_is_int⟩)
    (q_law_is_int : PySem.W.codeIn K cd_law_is_int "_law_is_int" = true)
    (k_law_is_int : PySem.W.keepIn K (.ref f_law_is_int) = true)
    (a_law_answer : PySem.W.nsIn K mainGlobals "_law_answer" = some (some (.ref f_law_answer)))
    (l_law_answer : K.lookup f_law_answer = some ⟨oc_law_answer, od_law_answer, .func (PySem.W.fnOf "_law_answer" "_law_answer" (defArgs s_law_answer) (defBody s_law_answer) (defScope s_law_answer) .none kV_law_answer dc_law_answer pm_law_answer an_law_answer cd_law_answer ct_law_answer), sl_law_answer⟩)
    (q_law_answer : PySem.W.codeIn K cd_law_answer "_law_answer" = true)
    (k_law_answer : PySem.W.keepIn K (.ref f_law_answer) = true)
    (a_law_value : PySem.W.nsIn K mainGlobals "_law_value" = some (some (.ref f_law_value)))
    (l_law_value : K.lookup f_law_value = some ⟨oc_law_value, od_law_value, .func (PySem.W.fnOf "_law_value" "_law_value" (defArgs s_law_value) (defBody s_law_value) (defScope s_law_value) .none kV_law_value dc_law_value pm_law_value an_law_value cd_law_value ct_law_value), sl_law_value⟩)
    (q_law_value : PySem.W.codeIn K cd_law_value "_law_value" = true)
    (k_law_value : PySem.W.keepIn K (.ref f_law_value) = true)
    (a_law_fits : PySem.W.nsIn K mainGlobals "_law_fits" = some (some (.ref f_law_fits)))
    (l_law_fits : K.lookup f_law_fits = some ⟨oc_law_fits, od_law_fits, .func (PySem.W.fnOf "_law_fits" "_law_fits" (defArgs s_law_fits) (defBody s_law_fits) (defScope s_law_fits) .none kV_law_fits dc_law_fits pm_law_fits an_law_fits cd_law_fits ct_law_fits), sl_law_fits⟩)
    (q_law_fits : PySem.W.codeIn K cd_law_fits "_law_fits" = true)
    (k_law_fits : PySem.W.keepIn K (.ref f_law_fits) = true)
    (a_law_due : PySem.W.nsIn K mainGlobals "_law_due" = some (some (.ref f_law_due)))
    (l_law_due : K.lookup f_law_due = some ⟨oc_law_due, od_law_due, .func (PySem.W.fnOf "_law_due" "_law_due" (defArgs s_law_due) (defBody s_law_due) (defScope s_law_due) .none kV_law_due dc_law_due pm_law_due an_law_due cd_law_due ct_law_due), sl_law_due⟩)
    (q_law_due : PySem.W.codeIn K cd_law_due "_law_due" = true)
    (k_law_due : PySem.W.keepIn K (.ref f_law_due) = true)
    (a_law : PySem.W.nsIn K mainGlobals "law" = some (some (.ref f_law)))
    (l_law : K.lookup f_law = some ⟨oc_law, od_law, .func (PySem.W.fnOf "law" "law" (defArgs s_law) (defBody s_law) (defScope s_law) .none kV_law dc_law pm_law an_law cd_law ct_law), sl_law⟩)
    (q_law : PySem.W.codeIn K cd_law "law" = true)
    (k_law : PySem.W.keepIn K (.ref f_law) = true)
    (a_PRIME : PySem.W.nsIn K mainGlobals "PRIME" = some (some (.int 65521 tk_PRIME)))
    (a_MAX_PIECES : PySem.W.nsIn K mainGlobals "MAX_PIECES" = some (some (.int 8 tk_MAX_PIECES)))
    (n_enumerate : PySem.W.nsIn K mainGlobals "enumerate" = some none)
    (n_len : PySem.W.nsIn K mainGlobals "len" = some none)
    (n_sum : PySem.W.nsIn K mainGlobals "sum" = some none)
    (n_zip : PySem.W.nsIn K mainGlobals "zip" = some none)
    (n_range : PySem.W.nsIn K mainGlobals "range" = some none)
    (n_list : PySem.W.nsIn K mainGlobals "list" = some none)
    (n_int : PySem.W.nsIn K mainGlobals "int" = some none)
    (n_abs : PySem.W.nsIn K mainGlobals "abs" = some none)
    (n_isinstance : PySem.W.nsIn K mainGlobals "isinstance" = some none)
    (n_bool : PySem.W.nsIn K mainGlobals "bool" = some none)
    (n_all : PySem.W.nsIn K mainGlobals "all" = some none)
    (n_sorted : PySem.W.nsIn K mainGlobals "sorted" = some none)
    (n_combinations : PySem.W.nsIn K mainGlobals "combinations" = some (some (.type "itertools.combinations")))
    (a_PoolError : PySem.W.nsIn K mainGlobals "PoolError" = some (some (.ref c_PoolError)))
    (x_PoolError : PySem.W.excIn K c_PoolError [.type "ValueError", .type "Exception", .type "BaseException", .type "object"] "ValueError.__new__" = true)
    (k_PoolError : PySem.W.keepIn K (.ref c_PoolError) = true)
    (b_PoolError : PySem.W.subIn K (.ref c_PoolError) (.type "BaseException") = some true)
    (t_PoolError : PySem.W.typeIn K (.ref c_PoolError) = some (.type "type"))
    (E1_PoolError : PySem.W.findIn K (.ref c_PoolError) "__getattribute__" = some (some (.builtin "BaseException.__getattribute__")))
    (E2_PoolError : PySem.W.findIn K (.ref c_PoolError) "__getattr__" = some none)
    (E3_PoolError : PySem.W.hasDictIn K c_PoolError = true)
    (E4_PoolError : PySem.W.findIn K (.ref c_PoolError) "__class__" = some (some (.builtin "object.__class__")))
    (s_PoolError : PySem.W.subIn K (.ref c_PoolError) (.ref c_PoolError) = some true)
    (E5_PoolError : PySem.W.mroIn K c_PoolError (.type "object") = some true)
    (a_InvalidArgument : PySem.W.nsIn K mainGlobals "InvalidArgument" = some (some (.ref c_InvalidArgument)))
    (x_InvalidArgument : PySem.W.excIn K c_InvalidArgument [.type "ValueError", .type "Exception", .type "BaseException", .type "object"] "ValueError.__new__" = true)
    (k_InvalidArgument : PySem.W.keepIn K (.ref c_InvalidArgument) = true)
    (b_InvalidArgument : PySem.W.subIn K (.ref c_InvalidArgument) (.type "BaseException") = some true)
    (t_InvalidArgument : PySem.W.typeIn K (.ref c_InvalidArgument) = some (.type "type"))
    (E1_InvalidArgument : PySem.W.findIn K (.ref c_InvalidArgument) "__getattribute__" = some (some (.builtin "BaseException.__getattribute__")))
    (E2_InvalidArgument : PySem.W.findIn K (.ref c_InvalidArgument) "__getattr__" = some none)
    (E3_InvalidArgument : PySem.W.hasDictIn K c_InvalidArgument = true)
    (E4_InvalidArgument : PySem.W.findIn K (.ref c_InvalidArgument) "__class__" = some (some (.builtin "object.__class__")))
    (s_InvalidArgument : PySem.W.subIn K (.ref c_InvalidArgument) (.ref c_InvalidArgument) = some true)
    (E5_InvalidArgument : PySem.W.mroIn K c_InvalidArgument (.type "object") = some true)
    (a_NotEnoughPieces : PySem.W.nsIn K mainGlobals "NotEnoughPieces" = some (some (.ref c_NotEnoughPieces)))
    (x_NotEnoughPieces : PySem.W.excIn K c_NotEnoughPieces [.type "ValueError", .type "Exception", .type "BaseException", .type "object"] "ValueError.__new__" = true)
    (k_NotEnoughPieces : PySem.W.keepIn K (.ref c_NotEnoughPieces) = true)
    (b_NotEnoughPieces : PySem.W.subIn K (.ref c_NotEnoughPieces) (.type "BaseException") = some true)
    (t_NotEnoughPieces : PySem.W.typeIn K (.ref c_NotEnoughPieces) = some (.type "type"))
    (E1_NotEnoughPieces : PySem.W.findIn K (.ref c_NotEnoughPieces) "__getattribute__" = some (some (.builtin "BaseException.__getattribute__")))
    (E2_NotEnoughPieces : PySem.W.findIn K (.ref c_NotEnoughPieces) "__getattr__" = some none)
    (E3_NotEnoughPieces : PySem.W.hasDictIn K c_NotEnoughPieces = true)
    (E4_NotEnoughPieces : PySem.W.findIn K (.ref c_NotEnoughPieces) "__class__" = some (some (.builtin "object.__class__")))
    (s_NotEnoughPieces : PySem.W.subIn K (.ref c_NotEnoughPieces) (.ref c_NotEnoughPieces) = some true)
    (E5_NotEnoughPieces : PySem.W.mroIn K c_NotEnoughPieces (.type "object") = some true)
    (E6 : PySem.W.specialIn K (.builtin "object.__class__") "__get__" = some (some (.builtin "getset_descriptor.__get__")))
    (E7 : PySem.W.takesIn K (.builtin "object.__class__") = some true)
    (u_InvalidArgument_PoolError : PySem.W.subIn K (.ref c_InvalidArgument) (.ref c_PoolError) = some true)
    (u_NotEnoughPieces_PoolError : PySem.W.subIn K (.ref c_NotEnoughPieces) (.ref c_PoolError) = some true)
    (i_InvalidArgument_NotEnoughPieces : PySem.W.subIn K (.ref c_InvalidArgument) (.ref c_NotEnoughPieces) = some false)
    (i_NotEnoughPieces_InvalidArgument : PySem.W.subIn K (.ref c_NotEnoughPieces) (.ref c_InvalidArgument) = some false) :
    ∃ fd : FuncData, (∀ (s : Shared) (v : Value), BindsTo s fd ⟨[v], []⟩ [("script", v)]) ∧ ∀ base : Heap, K.In base → base.Ns mainGlobals mg → FnOk l.prog w K mg base CX0 8 fa fd ["script"] (sp_law0 K) := by
  have e := hfa.symm.trans (PySem.W.mg_of X G a_law)
  cases e
  have F_inverse := fun_mk (st := s_inverse) l_inverse q_inverse k_inverse
  have d_inverse := F_inverse.binds (ps := ["a"]) fun _ _ _ _ _ _ us hl => match us, hl with | [_], _ => rfl
  have F_weight := fun_mk (st := s_weight) l_weight q_weight k_weight
  have d_weight := F_weight.binds (ps := ["place", "others", "x"]) fun _ _ _ _ _ _ us hl => match us, hl with | [_, _, _], _ => rfl
  have F_weights := fun_mk (st := s_weights) l_weights q_weights k_weights
  have d_weights := F_weights.binds (ps := ["places", "x"]) fun _ _ _ _ _ _ us hl => match us, hl with | [_, _], _ => rfl
  have F_check_lengths := fun_mk (st := s_check_lengths) l_check_lengths q_check_lengths k_check_lengths
  have d_check_lengths := F_check_lengths.binds (ps := ["pieces"]) fun _ _ _ _ _ _ us hl => match us, hl with | [_], _ => rfl
  have F_piece_at := fun_mk (st := s_piece_at) l_piece_at q_piece_at k_piece_at
  have d_piece_at := F_piece_at.binds (ps := ["known", "places", "number"]) fun _ _ _ _ _ _ us hl => match us, hl with | [_, _, _], _ => rfl
  have F_present_numbers := fun_mk (st := s_present_numbers) l_present_numbers q_present_numbers k_present_numbers
  have d_present_numbers := F_present_numbers.binds (ps := ["pieces", "data"]) fun _ _ _ _ _ _ us hl => match us, hl with | [_, _], _ => rfl
  have F_agree := fun_mk (st := s_agree) l_agree q_agree k_agree
  have d_agree := F_agree.binds (ps := ["pieces", "numbers", "data"]) fun _ _ _ _ _ _ us hl => match us, hl with | [_, _, _], _ => rfl
  have F_wrong_pieces := fun_mk (st := s_wrong_pieces) l_wrong_pieces q_wrong_pieces k_wrong_pieces
  have d_wrong_pieces := F_wrong_pieces.binds (ps := ["pieces", "data"]) fun _ _ _ _ _ _ us hl => match us, hl with | [_, _], _ => rfl
  have F_law_pot := fun_mk (st := s_law_pot) l_law_pot q_law_pot k_law_pot
  have d_law_pot := F_law_pot.binds (ps := ["script"]) fun _ _ _ _ _ _ us hl => match us, hl with | [_], _ => rfl
  have F_law_next := fun_mk (st := s_law_next) l_law_next q_law_next k_law_next
  have d_law_next := F_law_next.binds (ps := ["pot", "limit"]) fun _ _ _ _ _ _ us hl => match us, hl with | [_, _], _ => rfl
  have F_law_word := fun_mk (st := s_law_word) l_law_word q_law_word k_law_word
  have d_law_word := F_law_word.binds (ps := ["pot"]) fun _ _ _ _ _ _ us hl => match us, hl with | [_], _ => rfl
  have F_law_words := fun_mk (st := s_law_words) l_law_words q_law_words k_law_words
  have d_law_words := F_law_words.binds (ps := ["pot", "count"]) fun _ _ _ _ _ _ us hl => match us, hl with | [_, _], _ => rfl
  have F_law_horner := fun_mk (st := s_law_horner) l_law_horner q_law_horner k_law_horner
  have d_law_horner := F_law_horner.binds (ps := ["numbers", "x"]) fun _ _ _ _ _ _ us hl => match us, hl with | [_, _], _ => rfl
  have F_law_stripe := fun_mk (st := s_law_stripe) l_law_stripe q_law_stripe k_law_stripe
  have d_law_stripe := F_law_stripe.binds (ps := ["pot", "data", "count", "length"]) fun _ _ _ _ _ _ us hl => match us, hl with | [_, _, _, _], _ => rfl
  have F_law_is_int := fun_mk (st := s_law_is_int) l_law_is_int q_law_is_int k_law_is_int
  have d_law_is_int := F_law_is_int.binds (ps := ["value"]) fun _ _ _ _ _ _ us hl => match us, hl with | [_], _ => rfl
  have F_law_answer := fun_mk (st := s_law_answer) l_law_answer q_law_answer k_law_answer
  have d_law_answer := F_law_answer.binds (ps := ["pieces", "data"]) fun _ _ _ _ _ _ us hl => match us, hl with | [_, _], _ => rfl
  have F_law_value := fun_mk (st := s_law_value) l_law_value q_law_value k_law_value
  have d_law_value := F_law_value.binds (ps := ["places", "values", "x"]) fun _ _ _ _ _ _ us hl => match us, hl with | [_, _, _], _ => rfl
  have F_law_fits := fun_mk (st := s_law_fits) l_law_fits q_law_fits k_law_fits
  have d_law_fits := F_law_fits.binds (ps := ["pieces", "numbers", "data", "length"]) fun _ _ _ _ _ _ us hl => match us, hl with | [_, _, _, _], _ => rfl
  have F_law_due := fun_mk (st := s_law_due) l_law_due q_law_due k_law_due
  have d_law_due := F_law_due.binds (ps := ["pieces", "left", "data", "length"]) fun _ _ _ _ _ _ us hl => match us, hl with | [_, _, _, _], _ => rfl
  have F_law := fun_mk (st := s_law) l_law q_law k_law
  have d_law := F_law.binds (ps := ["script"]) fun _ _ _ _ _ _ us hl => match us, hl with | [_], _ => rfl
  have T : Txt K mg ⟨f_inverse, _, f_weight, _, f_weights, _, f_check_lengths, _, f_piece_at, _, f_present_numbers, _, f_agree, _, f_wrong_pieces, _, f_law_pot, _, f_law_next, _, f_law_word, _, f_law_words, _, f_law_horner, _, f_law_stripe, _, f_law_is_int, _, f_law_answer, _, f_law_value, _, f_law_fits, _, f_law_due, _, fa, _, c_PoolError, c_InvalidArgument, c_NotEnoughPieces⟩ := {
    F_inverse := F_inverse, g_inverse := PySem.W.mg_of X G a_inverse, d_inverse := d_inverse,
    F_weight := F_weight, g_weight := PySem.W.mg_of X G a_weight, d_weight := d_weight,
    F_weights := F_weights, g_weights := PySem.W.mg_of X G a_weights, d_weights := d_weights,
    F_check_lengths := F_check_lengths, g_check_lengths := PySem.W.mg_of X G a_check_lengths, d_check_lengths := d_check_lengths,
    F_piece_at := F_piece_at, g_piece_at := PySem.W.mg_of X G a_piece_at, d_piece_at := d_piece_at,
    F_present_numbers := F_present_numbers, g_present_numbers := PySem.W.mg_of X G a_present_numbers, d_present_numbers := d_present_numbers,
    F_agree := F_agree, g_agree := PySem.W.mg_of X G a_agree, d_agree := d_agree,
    F_wrong_pieces := F_wrong_pieces, g_wrong_pieces := PySem.W.mg_of X G a_wrong_pieces, d_wrong_pieces := d_wrong_pieces,
    F_law_pot := F_law_pot, g_law_pot := PySem.W.mg_of X G a_law_pot, d_law_pot := d_law_pot,
    F_law_next := F_law_next, g_law_next := PySem.W.mg_of X G a_law_next, d_law_next := d_law_next,
    F_law_word := F_law_word, g_law_word := PySem.W.mg_of X G a_law_word, d_law_word := d_law_word,
    F_law_words := F_law_words, g_law_words := PySem.W.mg_of X G a_law_words, d_law_words := d_law_words,
    F_law_horner := F_law_horner, g_law_horner := PySem.W.mg_of X G a_law_horner, d_law_horner := d_law_horner,
    F_law_stripe := F_law_stripe, g_law_stripe := PySem.W.mg_of X G a_law_stripe, d_law_stripe := d_law_stripe,
    F_law_is_int := F_law_is_int, g_law_is_int := PySem.W.mg_of X G a_law_is_int, d_law_is_int := d_law_is_int,
    F_law_answer := F_law_answer, g_law_answer := PySem.W.mg_of X G a_law_answer, d_law_answer := d_law_answer,
    F_law_value := F_law_value, g_law_value := PySem.W.mg_of X G a_law_value, d_law_value := d_law_value,
    F_law_fits := F_law_fits, g_law_fits := PySem.W.mg_of X G a_law_fits, d_law_fits := d_law_fits,
    F_law_due := F_law_due, g_law_due := PySem.W.mg_of X G a_law_due, d_law_due := d_law_due,
    F_law := F_law, g_law := PySem.W.mg_of X G a_law, d_law := d_law,
    g_PRIME := ⟨_, PySem.W.mg_of X G a_PRIME, ⟨_, rfl⟩⟩,
    g_MAX_PIECES := ⟨_, PySem.W.mg_of X G a_MAX_PIECES, ⟨_, rfl⟩⟩,
    n_enumerate := PySem.W.mg_none_of X G n_enumerate,
    n_len := PySem.W.mg_none_of X G n_len,
    n_sum := PySem.W.mg_none_of X G n_sum,
    n_zip := PySem.W.mg_none_of X G n_zip,
    n_range := PySem.W.mg_none_of X G n_range,
    n_list := PySem.W.mg_none_of X G n_list,
    n_int := PySem.W.mg_none_of X G n_int,
    n_abs := PySem.W.mg_none_of X G n_abs,
    n_isinstance := PySem.W.mg_none_of X G n_isinstance,
    n_bool := PySem.W.mg_none_of X G n_bool,
    n_all := PySem.W.mg_none_of X G n_all,
    n_sorted := PySem.W.mg_none_of X G n_sorted,
    n_combinations := PySem.W.mg_of X G n_combinations,
    g_PoolError := PySem.W.mg_of X G a_PoolError, x_PoolError := x_PoolError, k_PoolError := k_PoolError, b_PoolError := b_PoolError, t_PoolError := t_PoolError, E_PoolError := ⟨E1_PoolError, E2_PoolError, b_PoolError, E3_PoolError, E4_PoolError, E6, E7, E5_PoolError⟩,
    g_InvalidArgument := PySem.W.mg_of X G a_InvalidArgument, x_InvalidArgument := x_InvalidArgument, k_InvalidArgument := k_InvalidArgument, b_InvalidArgument := b_InvalidArgument, t_InvalidArgument := t_InvalidArgument, E_InvalidArgument := ⟨E1_InvalidArgument, E2_InvalidArgument, b_InvalidArgument, E3_InvalidArgument, E4_InvalidArgument, E6, E7, E5_InvalidArgument⟩,
    g_NotEnoughPieces := PySem.W.mg_of X G a_NotEnoughPieces, x_NotEnoughPieces := x_NotEnoughPieces, k_NotEnoughPieces := k_NotEnoughPieces, b_NotEnoughPieces := b_NotEnoughPieces, t_NotEnoughPieces := t_NotEnoughPieces, E_NotEnoughPieces := ⟨E1_NotEnoughPieces, E2_NotEnoughPieces, b_NotEnoughPieces, E3_NotEnoughPieces, E4_NotEnoughPieces, E6, E7, E5_NotEnoughPieces⟩,
    u_InvalidArgument_PoolError := PySem.W.exm_ref b_PoolError E3_PoolError t_PoolError u_InvalidArgument_PoolError,
    u_NotEnoughPieces_PoolError := PySem.W.exm_ref b_PoolError E3_PoolError t_PoolError u_NotEnoughPieces_PoolError,
    i_InvalidArgument_InvalidArgument := kit_self,
    i_InvalidArgument_NotEnoughPieces := kit_no E3_NotEnoughPieces t_NotEnoughPieces i_InvalidArgument_NotEnoughPieces s_InvalidArgument,
    i_NotEnoughPieces_InvalidArgument := kit_no E3_InvalidArgument t_InvalidArgument i_NotEnoughPieces_InvalidArgument s_NotEnoughPieces,
    i_NotEnoughPieces_NotEnoughPieces := kit_self }
  exact ⟨PySem.W.fnOf "law" "law" (defArgs s_law) (defBody s_law) (defScope s_law) .none kV_law dc_law pm_law an_law cd_law ct_law, fun s v => .of_eq rfl, fun base _ _ => (ok_law T).imp fun vs H Q E h => h⟩
theorem walk {l : PySem.W.OpenLaw} {q : Program} {loose : List Str} {XP : (Str → Option Value) → Heap → Prop} {YP : World → Heap → Prop} {d : DefRec} {K : Params → PySem.W.Frag} (hn : l.most = some 63) (hdf : d.params.defaults = [])
    (hY : ∀ (w : World) (h : Heap), YP w h → (K w.params).In h)
    (F : ∀ (w : World) (mg : Str → Option Value) (fa : Addr) (h : Heap), (K w.params).In h → h.Ns mainGlobals mg → mg d.name = some (.ref fa) →
      ∃ fd : FuncData, (∀ (s : Shared) (u : Value), BindsTo s fd ⟨[u], []⟩ [("script", u)]) ∧ ∀ base : Heap, (K w.params).In base → base.Ns mainGlobals mg → FnOk l.prog w (K w.params) mg base CX0 8 fa fd ["script"] (sp_law0 (K w.params))) :
    PySem.W.WalkO q loose XP YP l.row.toRowW d [] (fun f vs => PySem.call f vs) :=
  L2.walk_of (n := 63) (k := 8) (x := "script") (CX := fun _ => CX0) (sp := fun w => sp_law0 (K w.params)) hn (by decide) hdf ⟨rfl, by decide, by decide⟩ hY F (fun _ _ a ns hl _ hS => ⟨a, ns, rfl, hS, hl, fun _ => rfl⟩) fun _ _ _ _ _ z => z
end PP
open PySem PySem.W PyProof.Rows
set_option maxRecDepth 100000 in
set_option maxHeartbeats 0 in
theorem PySem.Challenge.cw_paritypool_k10_whole_wrong_pieces_holds : PySem.Challenge.rw_paritypool_k10_whole_wrong_pieces.Holds := by
  w_on; o_law; k_head; (case hw => w_witness2)
  k_fill
  refine PP.walk (l := PySem.Challenge.rw_paritypool_k10_whole_wrong_pieces) rfl rfl (fun w h Y => PySem.W.kIn_of Y) ?F
  case F =>
    intro w mg fa h KX G hmg
    refine' PP.all_mk KX G hmg ?a_inverse ?l_inverse ?q_inverse ?k_inverse ?a_weight ?l_weight ?q_weight ?k_weight ?a_weights ?l_weights ?q_weights ?k_weights ?a_check_lengths ?l_check_lengths ?q_check_lengths ?k_check_lengths ?a_piece_at ?l_piece_at ?q_piece_at ?k_piece_at ?a_present_numbers ?l_present_numbers ?q_present_numbers ?k_present_numbers ?a_agree ?l_agree ?q_agree ?k_agree ?a_wrong_pieces ?l_wrong_pieces ?q_wrong_pieces ?k_wrong_pieces ?a_law_pot ?l_law_pot ?q_law_pot ?k_law_pot ?a_law_next ?l_law_next ?q_law_next ?k_law_next ?a_law_word ?l_law_word ?q_law_word ?k_law_word ?a_law_words ?l_law_words ?q_law_words ?k_law_words ?a_law_horner ?l_law_horner ?q_law_horner ?k_law_horner ?a_law_stripe ?l_law_stripe ?q_law_stripe ?k_law_stripe ?a_law_is_int ?l_law_is_int ?q_law_is_int ?k_law_is_int ?a_law_answer ?l_law_answer ?q_law_answer ?k_law_answer ?a_law_value ?l_law_value ?q_law_value ?k_law_value ?a_law_fits ?l_law_fits ?q_law_fits ?k_law_fits ?a_law_due ?l_law_due ?q_law_due ?k_law_due ?a_law ?l_law ?q_law ?k_law ?a_PRIME ?a_MAX_PIECES ?n_enumerate ?n_len ?n_sum ?n_zip ?n_range ?n_list ?n_int ?n_abs ?n_isinstance ?n_bool ?n_all ?n_sorted ?n_combinations ?a_PoolError ?x_PoolError ?k_PoolError ?b_PoolError ?t_PoolError ?E1_PoolError ?E2_PoolError ?E3_PoolError ?E4_PoolError ?s_PoolError ?E5_PoolError ?a_InvalidArgument ?x_InvalidArgument ?k_InvalidArgument ?b_InvalidArgument ?t_InvalidArgument ?E1_InvalidArgument ?E2_InvalidArgument ?E3_InvalidArgument ?E4_InvalidArgument ?s_InvalidArgument ?E5_InvalidArgument ?a_NotEnoughPieces ?x_NotEnoughPieces ?k_NotEnoughPieces ?b_NotEnoughPieces ?t_NotEnoughPieces ?E1_NotEnoughPieces ?E2_NotEnoughPieces ?E3_NotEnoughPieces ?E4_NotEnoughPieces ?s_NotEnoughPieces ?E5_NotEnoughPieces ?E6 ?E7 ?u_InvalidArgument_PoolError ?u_NotEnoughPieces_PoolError ?i_InvalidArgument_NotEnoughPieces ?i_NotEnoughPieces_InvalidArgument
    (case a_inverse => k_is)
    (case l_inverse => k_is)
    (case q_inverse => k_is)
    (case k_inverse => k_is)
    (case a_weight => k_is)
    (case l_weight => k_is)
    (case q_weight => k_is)
    (case k_weight => k_is)
    (case a_weights => k_is)
    (case l_weights => k_is)
    (case q_weights => k_is)
    (case k_weights => k_is)
    (case a_check_lengths => k_is)
    (case l_check_lengths => k_is)
    (case q_check_lengths => k_is)
    (case k_check_lengths => k_is)
    (case a_piece_at => k_is)
    (case l_piece_at => k_is)
    (case q_piece_at => k_is)
    (case k_piece_at => k_is)
    (case a_present_numbers => k_is)
    (case l_present_numbers => k_is)
    (case q_present_numbers => k_is)
    (case k_present_numbers => k_is)
    (case a_agree => k_is)
    (case l_agree => k_is)
    (case q_agree => k_is)
    (case k_agree => k_is)
    (case a_wrong_pieces => k_is)
    (case l_wrong_pieces => k_is)
    (case q_wrong_pieces => k_is)
    (case k_wrong_pieces => k_is)
    (case a_law_pot => k_is)
    (case l_law_pot => k_is)
    (case q_law_pot => k_is)
    (case k_law_pot => k_is)
    (case a_law_next => k_is)
    (case l_law_next => k_is)
    (case q_law_next => k_is)
    (case k_law_next => k_is)
    (case a_law_word => k_is)
    (case l_law_word => k_is)
    (case q_law_word => k_is)
    (case k_law_word => k_is)
    (case a_law_words => k_is)
    (case l_law_words => k_is)
    (case q_law_words => k_is)
    (case k_law_words => k_is)
    (case a_law_horner => k_is)
    (case l_law_horner => k_is)
    (case q_law_horner => k_is)
    (case k_law_horner => k_is)
    (case a_law_stripe => k_is)
    (case l_law_stripe => k_is)
    (case q_law_stripe => k_is)
    (case k_law_stripe => k_is)
    (case a_law_is_int => k_is)
    (case l_law_is_int => k_is)
    (case q_law_is_int => k_is)
    (case k_law_is_int => k_is)
    (case a_law_answer => k_is)
    (case l_law_answer => k_is)
    (case q_law_answer => k_is)
    (case k_law_answer => k_is)
    (case a_law_value => k_is)
    (case l_law_value => k_is)
    (case q_law_value => k_is)
    (case k_law_value => k_is)
    (case a_law_fits => k_is)
    (case l_law_fits => k_is)
    (case q_law_fits => k_is)
    (case k_law_fits => k_is)
    (case a_law_due => k_is)
    (case l_law_due => k_is)
    (case q_law_due => k_is)
    (case k_law_due => k_is)
    (case a_law => k_is)
    (case l_law => k_is)
    (case q_law => k_is)
    (case k_law => k_is)
    (case a_PRIME => k_is)
    (case a_MAX_PIECES => k_is)
    (case n_enumerate => k_is)
    (case n_len => k_is)
    (case n_sum => k_is)
    (case n_zip => k_is)
    (case n_range => k_is)
    (case n_list => k_is)
    (case n_int => k_is)
    (case n_abs => k_is)
    (case n_isinstance => k_is)
    (case n_bool => k_is)
    (case n_all => k_is)
    (case n_sorted => k_is)
    (case n_combinations => k_is)
    (case a_PoolError => k_is)
    (case x_PoolError => k_exc)
    (case k_PoolError => k_is)
    (case b_PoolError => k_is)
    (case t_PoolError => k_is)
    (case E1_PoolError => k_is)
    (case E2_PoolError => k_is)
    (case E3_PoolError => k_is)
    (case E4_PoolError => k_is)
    (case s_PoolError => first | rfl | k_is)
    (case E5_PoolError => k_is)
    (case a_InvalidArgument => k_is)
    (case x_InvalidArgument => k_exc)
    (case k_InvalidArgument => k_is)
    (case b_InvalidArgument => k_is)
    (case t_InvalidArgument => k_is)
    (case E1_InvalidArgument => k_is)
    (case E2_InvalidArgument => k_is)
    (case E3_InvalidArgument => k_is)
    (case E4_InvalidArgument => k_is)
    (case s_InvalidArgument => first | rfl | k_is)
    (case E5_InvalidArgument => k_is)
    (case a_NotEnoughPieces => k_is)
    (case x_NotEnoughPieces => k_exc)
    (case k_NotEnoughPieces => k_is)
    (case b_NotEnoughPieces => k_is)
    (case t_NotEnoughPieces => k_is)
    (case E1_NotEnoughPieces => k_is)
    (case E2_NotEnoughPieces => k_is)
    (case E3_NotEnoughPieces => k_is)
    (case E4_NotEnoughPieces => k_is)
    (case s_NotEnoughPieces => first | rfl | k_is)
    (case E5_NotEnoughPieces => k_is)
    (case E6 => k_is)
    (case E7 => k_is)
    (case u_InvalidArgument_PoolError => k_is)
    (case u_NotEnoughPieces_PoolError => k_is)
    (case i_InvalidArgument_NotEnoughPieces => k_is)
    (case i_NotEnoughPieces_InvalidArgument => k_is)
