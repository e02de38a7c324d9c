import PyProof.Rows.All
import Wide.All
import OpenK.AllK
import Wide.FinOn
import Open.SpecLaws
import KE.OsHead
import KE.OsGo
import HandS.ForMost
import HandS.ForSpec
import HandS.More
import HandS.Steps
import HandS.Walk
import HandS.Evl
import PySem.Challenge.RW_cellsbymost_s01_answers
set_option Elab.async false
set_option maxRecDepth 100000
set_option maxHeartbeats 4000000
namespace Cb
open PySem PySem.Spec PyProof.Rows L2
/-! ### a def, a method, a class that is made: found, and keeping its promise -/
structure FnG (P : Program) (w : World) (K : PySem.W.Frag) (mg : Str → Option Value) (base : Heap) (x : Str) (k : Nat) (ps : List Str) (sp : Sp) : Prop where
  ex : ∃ (f : Addr) (fd : FuncData), mg x = some (.ref f) ∧ PySem.W.keepIn K (.ref f) = true ∧ Binds K fd ps [] ∧ FnOk P w K mg base CX0 k f fd ps sp
structure MtG (P : Program) (w : World) (K : PySem.W.Frag) (mg : Str → Option Value) (base : Heap) (C : Addr) (m : Str) (k : Nat) (ps : List Str) (sp : Sp) : Prop where
  ex : ∃ (f : Addr) (fd : FuncData), Cls K C ∧ Meth K C m f ∧ Binds K fd ps [] ∧ FnOk P w K mg base CX0 k f fd ps sp
structure MkG (P : Program) (w : World) (K : PySem.W.Frag) (mg : Str → Option Value) (base : Heap) (x : Str) (C : Addr) (k : Nat) (ps : List Str) (sp : Sp) : Prop where
  ex : ∃ (f : Addr) (fd : FuncData), Mk K C f ∧ mg x = some (.ref C) ∧ Binds K fd ps [] ∧ FnOk P w K mg base CX0 k f fd ps sp
section
variable {X : Cx} {x : Str} {pos : Pos}
/-- a constant of the module that is a whole number -/
def GInt (mg : Str → Option Value) (x : Str) (n : Int) : Prop := ∃ t, mg x = some (.int n t)
theorem pe_gint {n : Int} (hg : Gl X x) (h : GInt X.mg x n) (hd : (x == ("__debug__" : Str)) = false := by decide) : PE X (.Name x pos) (tC (.int n)) := by
  obtain ⟨t, h⟩ := h
  exact pe_glob hg h ⟨t, rfl⟩ hd
end
/-! ### a dict of the module, whole numbers as keys and values -/
def KeysI : List DictEntry → List (Int × Int) → Prop
  | [], [] => True
  | e :: r, (k, v) :: s => (∃ t u, e.key = .int k t ∧ e.hash = hashInt k ∧ e.val = .int v u) ∧ KeysI r s
  | _, _ => False
def KDctI (K : PySem.W.Frag) (a : Addr) (kvs : List (Int × Int)) : Prop :=
  ∃ es n, K.lookup a = some ⟨.type "dict", none, .dict es n, #[]⟩ ∧ KeysI es.toList kvs
theorem keysI_hash : ∀ {es : List DictEntry} {kvs : List (Int × Int)}, KeysI es kvs → ∀ e ∈ es, ∃ k t, e.key = .int k t ∧ e.hash = hashInt k
  | [], _, _, _, h => nomatch h
  | _ :: _, (k, _) :: _, ⟨⟨t, _, h1, h2, _⟩, _⟩, _, .head _ => ⟨k, t, h1, h2⟩
  | _ :: _, _ :: _, ⟨_, r⟩, _, .tail _ m => keysI_hash r _ m
theorem keysI_find {k v : Int} : ∀ {es : List DictEntry} {kvs : List (Int × Int)}, KeysI es kvs → kvs.lookup k = some v → ∃ u, (es.find? fun e => Value.isInt k e.key).map (·.val) = some (.int v u)
  | [], [], _, h => nomatch h
  | [], _ :: _, q, _ => q.elim
  | _ :: _, [], q, _ => q.elim
  | e :: es, (a, b) :: kvs, ⟨⟨t, u, h1, _, h3⟩, r⟩, h => by
    by_cases c : k = a
    · subst c
      have e1 : (k == k) = true := beq_self_eq_true k
      simp only [List.lookup, e1] at h
      have e2 : Value.isInt k e.key = true := by rw [h1]; simp [Value.isInt]
      refine ⟨u, ?_⟩
      rw [List.find?_cons_of_pos (p := fun e : DictEntry => Value.isInt k e.key) e2]
      show some e.val = _
      rw [h3, Option.some.inj h]
    · have e1 : (k == a) = false := beq_eq_false_iff_ne.mpr c
      simp only [List.lookup, e1] at h
      have e2 : ¬ Value.isInt k e.key = true := by
        rw [h1]
        intro q
        obtain ⟨t', e⟩ := Value.isInt_shape q
        injection e with e _
        exact c e.symm
      obtain ⟨u', hu⟩ := keysI_find r h
      exact ⟨u', by rw [List.find?_cons_of_neg (p := fun e : DictEntry => Value.isInt k e.key) e2]; exact hu⟩
def rIxDI (K : PySem.W.Frag) : R2 := fun x y H Q => ∃ p kvs k v, x = .ref p ∧ y = .int k ∧ KDctI K p kvs ∧ kvs.lookup k = some v ∧ Q (.int v) H
theorem ix_kdictI {X : Cx} : IxR X (rIxDI X.K) := by
  intro va sl ps s σ H x y v u Q I rx ry h hs
  obtain ⟨p, kvs, k, r, rfl, rfl, ⟨es, n, hl, hk⟩, e, q⟩ := h
  obtain rfl : v = Value.ref p := rx
  obtain ⟨t, rfl⟩ := ry
  have hm : s.heap.MapOf (intKind X.prog X.w) p (fun k => findBy Value.isInt es k) := ⟨_, es, n, I.kIn _ _ hl, ⟨rfl, rfl, rfl⟩, rfl, fun e he => by
    obtain ⟨x, t, e1, e2⟩ := keysI_hash hk e (Array.mem_toList_iff.mpr he)
    exact ⟨x, by rw [e1]; exact intKind_is X.prog X.w x t, e2⟩, fun _ => rfl⟩
  obtain ⟨u0, hu⟩ := keysI_find hk e
  have hf : findBy Value.isInt es k = some (.int r u0) := by
    obtain ⟨l⟩ := es
    unfold findBy
    rw [List.find?_toArray]
    exact hu
  exact tail_any hm.typeIs slot_dict_getitem.lookup (wpAny_getItem_of (intKind_is X.prog X.w k t) hm hf ⟨.int r, H, I.tok _, ⟨u0, rfl⟩, q⟩) hs
/-! ### fields -/
theorem lk_at {f : Str} {v : V} {ks : List Str} : ∀ {l : List (Str × V)} {r : List (Str × V)}, l.map (·.1) = ks → ¬ f ∈ ks → (l ++ (f, v) :: r).lookup f = some v
  | [], r, _, _ => by
    have e : (f == f) = true := beq_self_eq_true f
    simp only [List.nil_append, List.lookup, e]
  | (g, x) :: l, r, hk, h => by
    subst hk
    have hg : (f == g) = false := beq_eq_false_iff_ne.mpr fun q => h (by rw [q]; exact List.mem_cons_self ..)
    have ih := lk_at (f := f) (v := v) (l := l) (r := r) rfl fun q => h (List.mem_cons_of_mem _ q)
    show List.lookup f ((g, x) :: (l ++ (f, v) :: r)) = some v
    simp only [List.lookup, hg]
    exact ih
theorem lk_no {f : Str} {ks : List Str} : ∀ {l : List (Str × V)}, l.map (·.1) = ks → ¬ f ∈ ks → l.lookup f = none
  | [], _, _ => rfl
  | (g, x) :: l, hk, h => by
    subst hk
    have hg : (f == g) = false := beq_eq_false_iff_ne.mpr fun q => h (by rw [q]; exact List.mem_cons_self ..)
    simp only [List.lookup, hg]
    exact lk_no (l := l) rfl fun q => h (List.mem_cons_of_mem _ q)
theorem put_at {f : Str} {v x : V} {ks : List Str} : ∀ {l : List (Str × V)} {r : List (Str × V)}, l.map (·.1) = ks → ¬ f ∈ ks → putF f v (l ++ (f, x) :: r) = l ++ (f, v) :: r
  | [], r, _, _ => if_pos rfl
  | (g, y) :: l, r, hk, h => by
    subst hk
    have hg : ¬ g = f := fun q => h (by rw [← q]; exact List.mem_cons_self ..)
    have ih := put_at (f := f) (v := v) (x := x) (l := l) (r := r) rfl fun q => h (List.mem_cons_of_mem _ q)
    show putF f v ((g, y) :: (l ++ (f, x) :: r)) = (g, y) :: (l ++ (f, v) :: r)
    exact (if_neg hg).trans (congrArg _ ih)
theorem put_new {f : Str} {v : V} {ks : List Str} : ∀ {l : List (Str × V)}, l.map (·.1) = ks → ¬ f ∈ ks → putF f v l = l ++ [(f, v)]
  | [], _, _ => rfl
  | (g, y) :: l, hk, h => by
    subst hk
    have hg : ¬ g = f := fun q => h (by rw [← q]; exact List.mem_cons_self ..)
    have ih := put_new (f := f) (v := v) (l := l) rfl fun q => h (List.mem_cons_of_mem _ q)
    exact (if_neg hg).trans (congrArg _ ih)
/-- a new instance's fields, one by one -/
def putAll : List (Str × V) → List (Str × V) → List (Str × V)
  | [], l => l
  | (f, v) :: r, l => putAll r (putF f v l)

/-! ### the text by places -/
def top (i : Nat) : Stmt := PySem.Challenge.pw_cellsbymost_s01_answers.main.body.getD i (.Pass ⟨0, 0, 0, 0⟩)
abbrev s_one_or_zero : Stmt := top 7
abbrev n_one_or_zero : List Str := ["truth"]
theorem sc_one_or_zero : FnScope n_one_or_zero ["truth"] (defScope s_one_or_zero) := ⟨rfl, rfl, rfl, by decide +kernel, rfl, by decide +kernel, by decide +kernel⟩
abbrev s_has_greater_stamp : Stmt := top 8
abbrev n_has_greater_stamp : List Str := ["copy", "other"]
theorem sc_has_greater_stamp : FnScope n_has_greater_stamp ["copy", "other"] (defScope s_has_greater_stamp) := ⟨rfl, rfl, rfl, by decide +kernel, rfl, by decide +kernel, by decide +kernel⟩
abbrev s_has_same_stamp : Stmt := top 9
abbrev n_has_same_stamp : List Str := ["copy", "other"]
theorem sc_has_same_stamp : FnScope n_has_same_stamp ["copy", "other"] (defScope s_has_same_stamp) := ⟨rfl, rfl, rfl, by decide +kernel, rfl, by decide +kernel, by decide +kernel⟩
abbrev s_best_of : Stmt := top 10
abbrev n_best_of : List Str := ["copies", "best", "copy"]
theorem sc_best_of : FnScope n_best_of ["copies"] (defScope s_best_of) := ⟨rfl, rfl, rfl, by decide +kernel, rfl, by decide +kernel, by decide +kernel⟩
abbrev s_Letter_init : Stmt := inClass (top 11) 0
abbrev n_Letter_init : List Str := ["self", "kind", "to", "sender", "operation", "cell", "enclosed"]
theorem sc_Letter_init : FnScope n_Letter_init ["self", "kind", "to", "sender", "operation", "cell", "enclosed"] (defScope s_Letter_init) := ⟨rfl, rfl, rfl, by decide +kernel, rfl, by decide +kernel, by decide +kernel⟩
abbrev s_Letter_in_numbers : Stmt := inClass (top 11) 1
abbrev n_Letter_in_numbers : List Str := ["self"]
theorem sc_Letter_in_numbers : FnScope n_Letter_in_numbers ["self"] (defScope s_Letter_in_numbers) := ⟨rfl, rfl, rfl, by decide +kernel, rfl, by decide +kernel, by decide +kernel⟩
abbrev s_reply_to : Stmt := top 12
abbrev n_reply_to : List Str := ["letter", "kind", "enclosed"]
theorem sc_reply_to : FnScope n_reply_to ["letter", "kind", "enclosed"] (defScope s_reply_to) := ⟨rfl, rfl, rfl, by decide +kernel, rfl, by decide +kernel, by decide +kernel⟩
abbrev s_Node_init : Stmt := inClass (top 13) 0
abbrev n_Node_init : List Str := ["self", "weight", "cell"]
theorem sc_Node_init : FnScope n_Node_init ["self", "weight"] (defScope s_Node_init) := ⟨rfl, rfl, rfl, by decide +kernel, rfl, by decide +kernel, by decide +kernel⟩
abbrev s_Node_answer_to : Stmt := inClass (top 13) 1
abbrev n_Node_answer_to : List Str := ["self", "letter"]
theorem sc_Node_answer_to : FnScope n_Node_answer_to ["self", "letter"] (defScope s_Node_answer_to) := ⟨rfl, rfl, rfl, by decide +kernel, rfl, by decide +kernel, by decide +kernel⟩
abbrev s_Node_in_numbers : Stmt := inClass (top 13) 2
abbrev n_Node_in_numbers : List Str := ["self", "numbers", "copy"]
theorem sc_Node_in_numbers : FnScope n_Node_in_numbers ["self"] (defScope s_Node_in_numbers) := ⟨rfl, rfl, rfl, by decide +kernel, rfl, by decide +kernel, by decide +kernel⟩
abbrev s_Operation_init : Stmt := inClass (top 14) 0
abbrev n_Operation_init : List Str := ["self", "client", "number", "cell", "writes", "value", "began"]
theorem sc_Operation_init : FnScope n_Operation_init ["self", "client", "number", "cell", "writes", "value", "began"] (defScope s_Operation_init) := ⟨rfl, rfl, rfl, by decide +kernel, rfl, by decide +kernel, by decide +kernel⟩
abbrev s_Operation_counted_nodes : Stmt := inClass (top 14) 1
abbrev n_Operation_counted_nodes : List Str := ["self"]
theorem sc_Operation_counted_nodes : FnScope n_Operation_counted_nodes ["self"] (defScope s_Operation_counted_nodes) := ⟨rfl, rfl, rfl, by decide +kernel, rfl, by decide +kernel, by decide +kernel⟩
abbrev s_Operation_nodes_that_told : Stmt := inClass (top 14) 2
abbrev n_Operation_nodes_that_told : List Str := ["self", "copy", "node", "told"]
theorem sc_Operation_nodes_that_told : FnScope n_Operation_nodes_that_told ["self", "copy"] (defScope s_Operation_nodes_that_told) := ⟨rfl, rfl, rfl, by decide +kernel, rfl, by decide +kernel, by decide +kernel⟩
abbrev s_Operation_letter_to : Stmt := inClass (top 14) 3
abbrev n_Operation_letter_to : List Str := ["self", "node"]
theorem sc_Operation_letter_to : FnScope n_Operation_letter_to ["self", "node"] (defScope s_Operation_letter_to) := ⟨rfl, rfl, rfl, by decide +kernel, rfl, by decide +kernel, by decide +kernel⟩
abbrev s_Operation_progress_in_numbers : Stmt := inClass (top 14) 4
abbrev n_Operation_progress_in_numbers : List Str := ["self", "numbers"]
theorem sc_Operation_progress_in_numbers : FnScope n_Operation_progress_in_numbers ["self"] (defScope s_Operation_progress_in_numbers) := ⟨rfl, rfl, rfl, by decide +kernel, rfl, by decide +kernel, by decide +kernel⟩
abbrev s_Operation_record_in_numbers : Stmt := inClass (top 14) 5
abbrev n_Operation_record_in_numbers : List Str := ["self", "begun"]
theorem sc_Operation_record_in_numbers : FnScope n_Operation_record_in_numbers ["self"] (defScope s_Operation_record_in_numbers) := ⟨rfl, rfl, rfl, by decide +kernel, rfl, by decide +kernel, by decide +kernel⟩
abbrev s_Client_init : Stmt := inClass (top 15) 0
abbrev n_Client_init : List Str := ["self"]
theorem sc_Client_init : FnScope n_Client_init ["self"] (defScope s_Client_init) := ⟨rfl, rfl, rfl, by decide +kernel, rfl, by decide +kernel, by decide +kernel⟩
abbrev s_Client_is_at_work : Stmt := inClass (top 15) 1
abbrev n_Client_is_at_work : List Str := ["self"]
theorem sc_Client_is_at_work : FnScope n_Client_is_at_work ["self"] (defScope s_Client_is_at_work) := ⟨rfl, rfl, rfl, by decide +kernel, rfl, by decide +kernel, by decide +kernel⟩
abbrev s_Client_is_free : Stmt := inClass (top 15) 2
abbrev n_Client_is_free : List Str := ["self"]
theorem sc_Client_is_free : FnScope n_Client_is_free ["self"] (defScope s_Client_is_free) := ⟨rfl, rfl, rfl, by decide +kernel, rfl, by decide +kernel, by decide +kernel⟩
abbrev s_Client_in_numbers : Stmt := inClass (top 15) 3
abbrev n_Client_in_numbers : List Str := ["self", "numbers"]
theorem sc_Client_in_numbers : FnScope n_Client_in_numbers ["self"] (defScope s_Client_in_numbers) := ⟨rfl, rfl, rfl, by decide +kernel, rfl, by decide +kernel, by decide +kernel⟩
abbrev s_World_init : Stmt := inClass (top 44) 0
abbrev n_World_init : List Str := ["self", "weights", "weight", "client"]
theorem sc_World_init : FnScope n_World_init ["self", "weights"] (defScope s_World_init) := ⟨rfl, rfl, rfl, by decide +kernel, rfl, by decide +kernel, by decide +kernel⟩
abbrev s_World_is_most : Stmt := inClass (top 44) 1
abbrev n_World_is_most : List Str := ["self", "numbers", "part", "whole", "number", "node"]
theorem sc_World_is_most : FnScope n_World_is_most ["self", "numbers"] (defScope s_World_is_most) := ⟨rfl, rfl, rfl, by decide +kernel, rfl, by decide +kernel, by decide +kernel⟩
abbrev s_World_next_event : Stmt := inClass (top 44) 2
abbrev n_World_next_event : List Str := ["self", "event"]
theorem sc_World_next_event : FnScope n_World_next_event ["self"] (defScope s_World_next_event) := ⟨rfl, rfl, rfl, by decide +kernel, rfl, by decide +kernel, by decide +kernel⟩
abbrev s_World_send : Stmt := inClass (top 44) 3
abbrev n_World_send : List Str := ["self", "letter"]
theorem sc_World_send : FnScope n_World_send ["self", "letter"] (defScope s_World_send) := ⟨rfl, rfl, rfl, by decide +kernel, rfl, by decide +kernel, by decide +kernel⟩
abbrev s_World_send_to_missing : Stmt := inClass (top 44) 4
abbrev n_World_send_to_missing : List Str := ["self", "operation", "counted", "missing", "number"]
theorem sc_World_send_to_missing : FnScope n_World_send_to_missing ["self", "operation"] (defScope s_World_send_to_missing) := ⟨rfl, rfl, rfl, by decide +kernel, rfl, by decide +kernel, by decide +kernel⟩
abbrev s_World_begin_operation : Stmt := inClass (top 44) 5
abbrev n_World_begin_operation : List Str := ["self", "number", "cell", "writes", "value", "client", "operation"]
theorem sc_World_begin_operation : FnScope n_World_begin_operation ["self", "number", "cell", "writes", "value"] (defScope s_World_begin_operation) := ⟨rfl, rfl, rfl, by decide +kernel, rfl, by decide +kernel, by decide +kernel⟩
abbrev s_World_read : Stmt := inClass (top 44) 6
abbrev n_World_read : List Str := ["self", "client", "cell"]
theorem sc_World_read : FnScope n_World_read ["self", "client", "cell"] (defScope s_World_read) := ⟨rfl, rfl, rfl, by decide +kernel, rfl, by decide +kernel, by decide +kernel⟩
abbrev s_World_write : Stmt := inClass (top 44) 7
abbrev n_World_write : List Str := ["self", "client", "cell", "value"]
theorem sc_World_write : FnScope n_World_write ["self", "client", "cell", "value"] (defScope s_World_write) := ⟨rfl, rfl, rfl, by decide +kernel, rfl, by decide +kernel, by decide +kernel⟩
abbrev s_World_take : Stmt := inClass (top 44) 8
abbrev n_World_take : List Str := ["self", "place"]
theorem sc_World_take : FnScope n_World_take ["self", "place"] (defScope s_World_take) := ⟨rfl, rfl, rfl, by decide +kernel, rfl, by decide +kernel, by decide +kernel⟩
abbrev s_World_again : Stmt := inClass (top 44) 9
abbrev n_World_again : List Str := ["self", "place"]
theorem sc_World_again : FnScope n_World_again ["self", "place"] (defScope s_World_again) := ⟨rfl, rfl, rfl, by decide +kernel, rfl, by decide +kernel, by decide +kernel⟩
abbrev s_World_lose : Stmt := inClass (top 44) 10
abbrev n_World_lose : List Str := ["self", "place"]
theorem sc_World_lose : FnScope n_World_lose ["self", "place"] (defScope s_World_lose) := ⟨rfl, rfl, rfl, by decide +kernel, rfl, by decide +kernel, by decide +kernel⟩
abbrev s_World_nudge : Stmt := inClass (top 44) 11
abbrev n_World_nudge : List Str := ["self", "number", "client"]
theorem sc_World_nudge : FnScope n_World_nudge ["self", "number"] (defScope s_World_nudge) := ⟨rfl, rfl, rfl, by decide +kernel, rfl, by decide +kernel, by decide +kernel⟩
abbrev s_World_leave : Stmt := inClass (top 44) 12
abbrev n_World_leave : List Str := ["self", "number", "client"]
theorem sc_World_leave : FnScope n_World_leave ["self", "number"] (defScope s_World_leave) := ⟨rfl, rfl, rfl, by decide +kernel, rfl, by decide +kernel, by decide +kernel⟩
abbrev s_World_stop_node : Stmt := inClass (top 44) 13
abbrev n_World_stop_node : List Str := ["self", "number"]
theorem sc_World_stop_node : FnScope n_World_stop_node ["self", "number"] (defScope s_World_stop_node) := ⟨rfl, rfl, rfl, by decide +kernel, rfl, by decide +kernel, by decide +kernel⟩
abbrev s_World_start_node : Stmt := inClass (top 44) 14
abbrev n_World_start_node : List Str := ["self", "number"]
theorem sc_World_start_node : FnScope n_World_start_node ["self", "number"] (defScope s_World_start_node) := ⟨rfl, rfl, rfl, by decide +kernel, rfl, by decide +kernel, by decide +kernel⟩
abbrev s_World_set_running : Stmt := inClass (top 44) 15
abbrev n_World_set_running : List Str := ["self", "number", "runs", "node"]
theorem sc_World_set_running : FnScope n_World_set_running ["self", "number", "runs"] (defScope s_World_set_running) := ⟨rfl, rfl, rfl, by decide +kernel, rfl, by decide +kernel, by decide +kernel⟩
abbrev s_World_tell_letters : Stmt := inClass (top 44) 16
abbrev n_World_tell_letters : List Str := ["self", "numbers", "letter"]
theorem sc_World_tell_letters : FnScope n_World_tell_letters ["self"] (defScope s_World_tell_letters) := ⟨rfl, rfl, rfl, by decide +kernel, rfl, by decide +kernel, by decide +kernel⟩
abbrev s_World_tell_node : Stmt := inClass (top 44) 17
abbrev n_World_tell_node : List Str := ["self", "number"]
theorem sc_World_tell_node : FnScope n_World_tell_node ["self", "number"] (defScope s_World_tell_node) := ⟨rfl, rfl, rfl, by decide +kernel, rfl, by decide +kernel, by decide +kernel⟩
abbrev s_World_tell_client : Stmt := inClass (top 44) 18
abbrev n_World_tell_client : List Str := ["self", "number"]
theorem sc_World_tell_client : FnScope n_World_tell_client ["self", "number"] (defScope s_World_tell_client) := ⟨rfl, rfl, rfl, by decide +kernel, rfl, by decide +kernel, by decide +kernel⟩
abbrev s_World_tell_record : Stmt := inClass (top 44) 19
abbrev n_World_tell_record : List Str := ["self", "numbers", "operation"]
theorem sc_World_tell_record : FnScope n_World_tell_record ["self"] (defScope s_World_tell_record) := ⟨rfl, rfl, rfl, by decide +kernel, rfl, by decide +kernel, by decide +kernel⟩
abbrev s_World_hand_over : Stmt := inClass (top 44) 20
abbrev n_World_hand_over : List Str := ["self", "letter"]
theorem sc_World_hand_over : FnScope n_World_hand_over ["self", "letter"] (defScope s_World_hand_over) := ⟨rfl, rfl, rfl, by decide +kernel, rfl, by decide +kernel, by decide +kernel⟩
abbrev s_World_hand_to_node : Stmt := inClass (top 44) 21
abbrev n_World_hand_to_node : List Str := ["self", "letter", "node"]
theorem sc_World_hand_to_node : FnScope n_World_hand_to_node ["self", "letter"] (defScope s_World_hand_to_node) := ⟨rfl, rfl, rfl, by decide +kernel, rfl, by decide +kernel, by decide +kernel⟩
abbrev s_World_hand_to_client : Stmt := inClass (top 44) 22
abbrev n_World_hand_to_client : List Str := ["self", "letter", "client", "operation", "awaited"]
theorem sc_World_hand_to_client : FnScope n_World_hand_to_client ["self", "letter"] (defScope s_World_hand_to_client) := ⟨rfl, rfl, rfl, by decide +kernel, rfl, by decide +kernel, by decide +kernel⟩
abbrev s_World_hear : Stmt := inClass (top 44) 23
abbrev n_World_hear : List Str := ["self", "operation", "letter", "best"]
theorem sc_World_hear : FnScope n_World_hear ["self", "operation", "letter"] (defScope s_World_hear) := ⟨rfl, rfl, rfl, by decide +kernel, rfl, by decide +kernel, by decide +kernel⟩
abbrev s_World_have_kept : Stmt := inClass (top 44) 24
abbrev n_World_have_kept : List Str := ["self", "operation", "copy"]
theorem sc_World_have_kept : FnScope n_World_have_kept ["self", "operation", "copy"] (defScope s_World_have_kept) := ⟨rfl, rfl, rfl, by decide +kernel, rfl, by decide +kernel, by decide +kernel⟩
abbrev s_World_count_keeper : Stmt := inClass (top 44) 25
abbrev n_World_count_keeper : List Str := ["self", "operation", "letter"]
theorem sc_World_count_keeper : FnScope n_World_count_keeper ["self", "operation", "letter"] (defScope s_World_count_keeper) := ⟨rfl, rfl, rfl, by decide +kernel, rfl, by decide +kernel, by decide +kernel⟩
abbrev s_World_end : Stmt := inClass (top 44) 26
abbrev n_World_end : List Str := ["self", "operation", "result", "client"]
theorem sc_World_end : FnScope n_World_end ["self", "operation", "result"] (defScope s_World_end) := ⟨rfl, rfl, rfl, by decide +kernel, rfl, by decide +kernel, by decide +kernel⟩
abbrev s_can_begin : Stmt := top 45
abbrev n_can_begin : List Str := ["weights"]
theorem sc_can_begin : FnScope n_can_begin ["weights"] (defScope s_can_begin) := ⟨rfl, rfl, rfl, by decide +kernel, rfl, by decide +kernel, by decide +kernel⟩
abbrev s_call_length : Stmt := top 46
abbrev n_call_length : List Str := ["calls", "start"]
theorem sc_call_length : FnScope n_call_length ["calls", "start"] (defScope s_call_length) := ⟨rfl, rfl, rfl, by decide +kernel, rfl, by decide +kernel, by decide +kernel⟩
abbrev s_answer_of : Stmt := top 47
abbrev n_answer_of : List Str := ["world", "call"]
theorem sc_answer_of : FnScope n_answer_of ["world", "call"] (defScope s_answer_of) := ⟨rfl, rfl, rfl, by decide +kernel, rfl, by decide +kernel, by decide +kernel⟩
abbrev s_answers : Stmt := top 48
abbrev n_answers : List Str := ["calls", "given", "world", "start", "call", "answer"]
theorem sc_answers : FnScope n_answers ["calls"] (defScope s_answers) := ⟨rfl, rfl, rfl, by decide +kernel, rfl, by decide +kernel, by decide +kernel⟩
/-! ### the classes' fields -/
def F_Letter (v0 v1 v2 v3 v4 v5 : V) : List (Str × V) := [("kind", v0), ("to", v1), ("sender", v2), ("operation", v3), ("cell", v4), ("enclosed", v5)]
theorem F_Letter_kind {v0 v1 v2 v3 v4 v5 : V} : (F_Letter v0 v1 v2 v3 v4 v5).lookup ("kind" : Str) = some v0 := lk_at (f := "kind") (v := v0) (ks := []) (l := []) (r := [("to", v1), ("sender", v2), ("operation", v3), ("cell", v4), ("enclosed", v5)]) rfl (by decide +kernel)
theorem F_Letter_put_kind {v0 v1 v2 v3 v4 v5 y : V} : putF "kind" y (F_Letter v0 v1 v2 v3 v4 v5) = F_Letter y v1 v2 v3 v4 v5 := put_at (f := "kind") (v := y) (x := v0) (ks := []) (l := []) (r := [("to", v1), ("sender", v2), ("operation", v3), ("cell", v4), ("enclosed", v5)]) rfl (by decide +kernel)
theorem F_Letter_new_kind {v0 : V} : putF "kind" v0 ([] : List (Str × V)) = ([("kind", v0)] : List (Str × V)) := put_new (f := "kind") (v := v0) (ks := []) (l := []) rfl (by decide +kernel)
theorem F_Letter_to {v0 v1 v2 v3 v4 v5 : V} : (F_Letter v0 v1 v2 v3 v4 v5).lookup ("to" : Str) = some v1 := lk_at (f := "to") (v := v1) (ks := ["kind"]) (l := [("kind", v0)]) (r := [("sender", v2), ("operation", v3), ("cell", v4), ("enclosed", v5)]) rfl (by decide +kernel)
theorem F_Letter_put_to {v0 v1 v2 v3 v4 v5 y : V} : putF "to" y (F_Letter v0 v1 v2 v3 v4 v5) = F_Letter v0 y v2 v3 v4 v5 := put_at (f := "to") (v := y) (x := v1) (ks := ["kind"]) (l := [("kind", v0)]) (r := [("sender", v2), ("operation", v3), ("cell", v4), ("enclosed", v5)]) rfl (by decide +kernel)
theorem F_Letter_new_to {v0 v1 : V} : putF "to" v1 ([("kind", v0)] : List (Str × V)) = ([("kind", v0), ("to", v1)] : List (Str × V)) := put_new (f := "to") (v := v1) (ks := ["kind"]) (l := [("kind", v0)]) rfl (by decide +kernel)
theorem F_Letter_sender {v0 v1 v2 v3 v4 v5 : V} : (F_Letter v0 v1 v2 v3 v4 v5).lookup ("sender" : Str) = some v2 := lk_at (f := "sender") (v := v2) (ks := ["kind", "to"]) (l := [("kind", v0), ("to", v1)]) (r := [("operation", v3), ("cell", v4), ("enclosed", v5)]) rfl (by decide +kernel)
theorem F_Letter_put_sender {v0 v1 v2 v3 v4 v5 y : V} : putF "sender" y (F_Letter v0 v1 v2 v3 v4 v5) = F_Letter v0 v1 y v3 v4 v5 := put_at (f := "sender") (v := y) (x := v2) (ks := ["kind", "to"]) (l := [("kind", v0), ("to", v1)]) (r := [("operation", v3), ("cell", v4), ("enclosed", v5)]) rfl (by decide +kernel)
theorem F_Letter_new_sender {v0 v1 v2 : V} : putF "sender" v2 ([("kind", v0), ("to", v1)] : List (Str × V)) = ([("kind", v0), ("to", v1), ("sender", v2)] : List (Str × V)) := put_new (f := "sender") (v := v2) (ks := ["kind", "to"]) (l := [("kind", v0), ("to", v1)]) rfl (by decide +kernel)
theorem F_Letter_operation {v0 v1 v2 v3 v4 v5 : V} : (F_Letter v0 v1 v2 v3 v4 v5).lookup ("operation" : Str) = some v3 := lk_at (f := "operation") (v := v3) (ks := ["kind", "to", "sender"]) (l := [("kind", v0), ("to", v1), ("sender", v2)]) (r := [("cell", v4), ("enclosed", v5)]) rfl (by decide +kernel)
theorem F_Letter_put_operation {v0 v1 v2 v3 v4 v5 y : V} : putF "operation" y (F_Letter v0 v1 v2 v3 v4 v5) = F_Letter v0 v1 v2 y v4 v5 := put_at (f := "operation") (v := y) (x := v3) (ks := ["kind", "to", "sender"]) (l := [("kind", v0), ("to", v1), ("sender", v2)]) (r := [("cell", v4), ("enclosed", v5)]) rfl (by decide +kernel)
theorem F_Letter_new_operation {v0 v1 v2 v3 : V} : putF "operation" v3 ([("kind", v0), ("to", v1), ("sender", v2)] : List (Str × V)) = ([("kind", v0), ("to", v1), ("sender", v2), ("operation", v3)] : List (Str × V)) := put_new (f := "operation") (v := v3) (ks := ["kind", "to", "sender"]) (l := [("kind", v0), ("to", v1), ("sender", v2)]) rfl (by decide +kernel)
theorem F_Letter_cell {v0 v1 v2 v3 v4 v5 : V} : (F_Letter v0 v1 v2 v3 v4 v5).lookup ("cell" : Str) = some v4 := lk_at (f := "cell") (v := v4) (ks := ["kind", "to", "sender", "operation"]) (l := [("kind", v0), ("to", v1), ("sender", v2), ("operation", v3)]) (r := [("enclosed", v5)]) rfl (by decide +kernel)
theorem F_Letter_put_cell {v0 v1 v2 v3 v4 v5 y : V} : putF "cell" y (F_Letter v0 v1 v2 v3 v4 v5) = F_Letter v0 v1 v2 v3 y v5 := put_at (f := "cell") (v := y) (x := v4) (ks := ["kind", "to", "sender", "operation"]) (l := [("kind", v0), ("to", v1), ("sender", v2), ("operation", v3)]) (r := [("enclosed", v5)]) rfl (by decide +kernel)
theorem F_Letter_new_cell {v0 v1 v2 v3 v4 : V} : putF "cell" v4 ([("kind", v0), ("to", v1), ("sender", v2), ("operation", v3)] : List (Str × V)) = ([("kind", v0), ("to", v1), ("sender", v2), ("operation", v3), ("cell", v4)] : List (Str × V)) := put_new (f := "cell") (v := v4) (ks := ["kind", "to", "sender", "operation"]) (l := [("kind", v0), ("to", v1), ("sender", v2), ("operation", v3)]) rfl (by decide +kernel)
theorem F_Letter_enclosed {v0 v1 v2 v3 v4 v5 : V} : (F_Letter v0 v1 v2 v3 v4 v5).lookup ("enclosed" : Str) = some v5 := lk_at (f := "enclosed") (v := v5) (ks := ["kind", "to", "sender", "operation", "cell"]) (l := [("kind", v0), ("to", v1), ("sender", v2), ("operation", v3), ("cell", v4)]) (r := []) rfl (by decide +kernel)
theorem F_Letter_put_enclosed {v0 v1 v2 v3 v4 v5 y : V} : putF "enclosed" y (F_Letter v0 v1 v2 v3 v4 v5) = F_Letter v0 v1 v2 v3 v4 y := put_at (f := "enclosed") (v := y) (x := v5) (ks := ["kind", "to", "sender", "operation", "cell"]) (l := [("kind", v0), ("to", v1), ("sender", v2), ("operation", v3), ("cell", v4)]) (r := []) rfl (by decide +kernel)
theorem F_Letter_new_enclosed {v0 v1 v2 v3 v4 v5 : V} : putF "enclosed" v5 ([("kind", v0), ("to", v1), ("sender", v2), ("operation", v3), ("cell", v4)] : List (Str × V)) = ([("kind", v0), ("to", v1), ("sender", v2), ("operation", v3), ("cell", v4), ("enclosed", v5)] : List (Str × V)) := put_new (f := "enclosed") (v := v5) (ks := ["kind", "to", "sender", "operation", "cell"]) (l := [("kind", v0), ("to", v1), ("sender", v2), ("operation", v3), ("cell", v4)]) rfl (by decide +kernel)
theorem F_Letter_no {v0 v1 v2 v3 v4 v5 : V} {m : Str} (h : ¬ m ∈ (["kind", "to", "sender", "operation", "cell", "enclosed"] : List Str)) : (F_Letter v0 v1 v2 v3 v4 v5).lookup m = none := lk_no (ks := ["kind", "to", "sender", "operation", "cell", "enclosed"]) rfl h
theorem F_Letter_len {v0 v1 v2 v3 v4 v5 : V} : (F_Letter v0 v1 v2 v3 v4 v5).length < 1000 := (show 6 < 1000 by decide)
theorem F_Letter_m_in_numbers {v0 v1 v2 v3 v4 v5 : V} : (F_Letter v0 v1 v2 v3 v4 v5).lookup ("in_numbers" : Str) = none := F_Letter_no (by decide +kernel)
def F_Node (v0 v1 v2 : V) : List (Str × V) := [("weight", v0), ("runs", v1), ("copies", v2)]
theorem F_Node_weight {v0 v1 v2 : V} : (F_Node v0 v1 v2).lookup ("weight" : Str) = some v0 := lk_at (f := "weight") (v := v0) (ks := []) (l := []) (r := [("runs", v1), ("copies", v2)]) rfl (by decide +kernel)
theorem F_Node_put_weight {v0 v1 v2 y : V} : putF "weight" y (F_Node v0 v1 v2) = F_Node y v1 v2 := put_at (f := "weight") (v := y) (x := v0) (ks := []) (l := []) (r := [("runs", v1), ("copies", v2)]) rfl (by decide +kernel)
theorem F_Node_new_weight {v0 : V} : putF "weight" v0 ([] : List (Str × V)) = ([("weight", v0)] : List (Str × V)) := put_new (f := "weight") (v := v0) (ks := []) (l := []) rfl (by decide +kernel)
theorem F_Node_runs {v0 v1 v2 : V} : (F_Node v0 v1 v2).lookup ("runs" : Str) = some v1 := lk_at (f := "runs") (v := v1) (ks := ["weight"]) (l := [("weight", v0)]) (r := [("copies", v2)]) rfl (by decide +kernel)
theorem F_Node_put_runs {v0 v1 v2 y : V} : putF "runs" y (F_Node v0 v1 v2) = F_Node v0 y v2 := put_at (f := "runs") (v := y) (x := v1) (ks := ["weight"]) (l := [("weight", v0)]) (r := [("copies", v2)]) rfl (by decide +kernel)
theorem F_Node_new_runs {v0 v1 : V} : putF "runs" v1 ([("weight", v0)] : List (Str × V)) = ([("weight", v0), ("runs", v1)] : List (Str × V)) := put_new (f := "runs") (v := v1) (ks := ["weight"]) (l := [("weight", v0)]) rfl (by decide +kernel)
theorem F_Node_copies {v0 v1 v2 : V} : (F_Node v0 v1 v2).lookup ("copies" : Str) = some v2 := lk_at (f := "copies") (v := v2) (ks := ["weight", "runs"]) (l := [("weight", v0), ("runs", v1)]) (r := []) rfl (by decide +kernel)
theorem F_Node_put_copies {v0 v1 v2 y : V} : putF "copies" y (F_Node v0 v1 v2) = F_Node v0 v1 y := put_at (f := "copies") (v := y) (x := v2) (ks := ["weight", "runs"]) (l := [("weight", v0), ("runs", v1)]) (r := []) rfl (by decide +kernel)
theorem F_Node_new_copies {v0 v1 v2 : V} : putF "copies" v2 ([("weight", v0), ("runs", v1)] : List (Str × V)) = ([("weight", v0), ("runs", v1), ("copies", v2)] : List (Str × V)) := put_new (f := "copies") (v := v2) (ks := ["weight", "runs"]) (l := [("weight", v0), ("runs", v1)]) rfl (by decide +kernel)
theorem F_Node_no {v0 v1 v2 : V} {m : Str} (h : ¬ m ∈ (["weight", "runs", "copies"] : List Str)) : (F_Node v0 v1 v2).lookup m = none := lk_no (ks := ["weight", "runs", "copies"]) rfl h
theorem F_Node_len {v0 v1 v2 : V} : (F_Node v0 v1 v2).length < 1000 := (show 3 < 1000 by decide)
theorem F_Node_m_answer_to {v0 v1 v2 : V} : (F_Node v0 v1 v2).lookup ("answer_to" : Str) = none := F_Node_no (by decide +kernel)
theorem F_Node_m_in_numbers {v0 v1 v2 : V} : (F_Node v0 v1 v2).lookup ("in_numbers" : Str) = none := F_Node_no (by decide +kernel)
def F_Operation (v0 v1 v2 v3 v4 v5 v6 v7 v8 v9 v10 v11 : V) : List (Str × V) := [("client", v0), ("number", v1), ("cell", v2), ("writes", v3), ("value", v4), ("began", v5), ("ended", v6), ("result", v7), ("heard", v8), ("told", v9), ("wanted", v10), ("keepers", v11)]
theorem F_Operation_client {v0 v1 v2 v3 v4 v5 v6 v7 v8 v9 v10 v11 : V} : (F_Operation v0 v1 v2 v3 v4 v5 v6 v7 v8 v9 v10 v11).lookup ("client" : Str) = some v0 := lk_at (f := "client") (v := v0) (ks := []) (l := []) (r := [("number", v1), ("cell", v2), ("writes", v3), ("value", v4), ("began", v5), ("ended", v6), ("result", v7), ("heard", v8), ("told", v9), ("wanted", v10), ("keepers", v11)]) rfl (by decide +kernel)
theorem F_Operation_put_client {v0 v1 v2 v3 v4 v5 v6 v7 v8 v9 v10 v11 y : V} : putF "client" y (F_Operation v0 v1 v2 v3 v4 v5 v6 v7 v8 v9 v10 v11) = F_Operation y v1 v2 v3 v4 v5 v6 v7 v8 v9 v10 v11 := put_at (f := "client") (v := y) (x := v0) (ks := []) (l := []) (r := [("number", v1), ("cell", v2), ("writes", v3), ("value", v4), ("began", v5), ("ended", v6), ("result", v7), ("heard", v8), ("told", v9), ("wanted", v10), ("keepers", v11)]) rfl (by decide +kernel)
theorem F_Operation_new_client {v0 : V} : putF "client" v0 ([] : List (Str × V)) = ([("client", v0)] : List (Str × V)) := put_new (f := "client") (v := v0) (ks := []) (l := []) rfl (by decide +kernel)
theorem F_Operation_number {v0 v1 v2 v3 v4 v5 v6 v7 v8 v9 v10 v11 : V} : (F_Operation v0 v1 v2 v3 v4 v5 v6 v7 v8 v9 v10 v11).lookup ("number" : Str) = some v1 := lk_at (f := "number") (v := v1) (ks := ["client"]) (l := [("client", v0)]) (r := [("cell", v2), ("writes", v3), ("value", v4), ("began", v5), ("ended", v6), ("result", v7), ("heard", v8), ("told", v9), ("wanted", v10), ("keepers", v11)]) rfl (by decide +kernel)
theorem F_Operation_put_number {v0 v1 v2 v3 v4 v5 v6 v7 v8 v9 v10 v11 y : V} : putF "number" y (F_Operation v0 v1 v2 v3 v4 v5 v6 v7 v8 v9 v10 v11) = F_Operation v0 y v2 v3 v4 v5 v6 v7 v8 v9 v10 v11 := put_at (f := "number") (v := y) (x := v1) (ks := ["client"]) (l := [("client", v0)]) (r := [("cell", v2), ("writes", v3), ("value", v4), ("began", v5), ("ended", v6), ("result", v7), ("heard", v8), ("told", v9), ("wanted", v10), ("keepers", v11)]) rfl (by decide +kernel)
theorem F_Operation_new_number {v0 v1 : V} : putF "number" v1 ([("client", v0)] : List (Str × V)) = ([("client", v0), ("number", v1)] : List (Str × V)) := put_new (f := "number") (v := v1) (ks := ["client"]) (l := [("client", v0)]) rfl (by decide +kernel)
theorem F_Operation_cell {v0 v1 v2 v3 v4 v5 v6 v7 v8 v9 v10 v11 : V} : (F_Operation v0 v1 v2 v3 v4 v5 v6 v7 v8 v9 v10 v11).lookup ("cell" : Str) = some v2 := lk_at (f := "cell") (v := v2) (ks := ["client", "number"]) (l := [("client", v0), ("number", v1)]) (r := [("writes", v3), ("value", v4), ("began", v5), ("ended", v6), ("result", v7), ("heard", v8), ("told", v9), ("wanted", v10), ("keepers", v11)]) rfl (by decide +kernel)
theorem F_Operation_put_cell {v0 v1 v2 v3 v4 v5 v6 v7 v8 v9 v10 v11 y : V} : putF "cell" y (F_Operation v0 v1 v2 v3 v4 v5 v6 v7 v8 v9 v10 v11) = F_Operation v0 v1 y v3 v4 v5 v6 v7 v8 v9 v10 v11 := put_at (f := "cell") (v := y) (x := v2) (ks := ["client", "number"]) (l := [("client", v0), ("number", v1)]) (r := [("writes", v3), ("value", v4), ("began", v5), ("ended", v6), ("result", v7), ("heard", v8), ("told", v9), ("wanted", v10), ("keepers", v11)]) rfl (by decide +kernel)
theorem F_Operation_new_cell {v0 v1 v2 : V} : putF "cell" v2 ([("client", v0), ("number", v1)] : List (Str × V)) = ([("client", v0), ("number", v1), ("cell", v2)] : List (Str × V)) := put_new (f := "cell") (v := v2) (ks := ["client", "number"]) (l := [("client", v0), ("number", v1)]) rfl (by decide +kernel)
theorem F_Operation_writes {v0 v1 v2 v3 v4 v5 v6 v7 v8 v9 v10 v11 : V} : (F_Operation v0 v1 v2 v3 v4 v5 v6 v7 v8 v9 v10 v11).lookup ("writes" : Str) = some v3 := lk_at (f := "writes") (v := v3) (ks := ["client", "number", "cell"]) (l := [("client", v0), ("number", v1), ("cell", v2)]) (r := [("value", v4), ("began", v5), ("ended", v6), ("result", v7), ("heard", v8), ("told", v9), ("wanted", v10), ("keepers", v11)]) rfl (by decide +kernel)
theorem F_Operation_put_writes {v0 v1 v2 v3 v4 v5 v6 v7 v8 v9 v10 v11 y : V} : putF "writes" y (F_Operation v0 v1 v2 v3 v4 v5 v6 v7 v8 v9 v10 v11) = F_Operation v0 v1 v2 y v4 v5 v6 v7 v8 v9 v10 v11 := put_at (f := "writes") (v := y) (x := v3) (ks := ["client", "number", "cell"]) (l := [("client", v0), ("number", v1), ("cell", v2)]) (r := [("value", v4), ("began", v5), ("ended", v6), ("result", v7), ("heard", v8), ("told", v9), ("wanted", v10), ("keepers", v11)]) rfl (by decide +kernel)
theorem F_Operation_new_writes {v0 v1 v2 v3 : V} : putF "writes" v3 ([("client", v0), ("number", v1), ("cell", v2)] : List (Str × V)) = ([("client", v0), ("number", v1), ("cell", v2), ("writes", v3)] : List (Str × V)) := put_new (f := "writes") (v := v3) (ks := ["client", "number", "cell"]) (l := [("client", v0), ("number", v1), ("cell", v2)]) rfl (by decide +kernel)
theorem F_Operation_value {v0 v1 v2 v3 v4 v5 v6 v7 v8 v9 v10 v11 : V} : (F_Operation v0 v1 v2 v3 v4 v5 v6 v7 v8 v9 v10 v11).lookup ("value" : Str) = some v4 := lk_at (f := "value") (v := v4) (ks := ["client", "number", "cell", "writes"]) (l := [("client", v0), ("number", v1), ("cell", v2), ("writes", v3)]) (r := [("began", v5), ("ended", v6), ("result", v7), ("heard", v8), ("told", v9), ("wanted", v10), ("keepers", v11)]) rfl (by decide +kernel)
theorem F_Operation_put_value {v0 v1 v2 v3 v4 v5 v6 v7 v8 v9 v10 v11 y : V} : putF "value" y (F_Operation v0 v1 v2 v3 v4 v5 v6 v7 v8 v9 v10 v11) = F_Operation v0 v1 v2 v3 y v5 v6 v7 v8 v9 v10 v11 := put_at (f := "value") (v := y) (x := v4) (ks := ["client", "number", "cell", "writes"]) (l := [("client", v0), ("number", v1), ("cell", v2), ("writes", v3)]) (r := [("began", v5), ("ended", v6), ("result", v7), ("heard", v8), ("told", v9), ("wanted", v10), ("keepers", v11)]) rfl (by decide +kernel)
theorem F_Operation_new_value {v0 v1 v2 v3 v4 : V} : putF "value" v4 ([("client", v0), ("number", v1), ("cell", v2), ("writes", v3)] : List (Str × V)) = ([("client", v0), ("number", v1), ("cell", v2), ("writes", v3), ("value", v4)] : List (Str × V)) := put_new (f := "value") (v := v4) (ks := ["client", "number", "cell", "writes"]) (l := [("client", v0), ("number", v1), ("cell", v2), ("writes", v3)]) rfl (by decide +kernel)
theorem F_Operation_began {v0 v1 v2 v3 v4 v5 v6 v7 v8 v9 v10 v11 : V} : (F_Operation v0 v1 v2 v3 v4 v5 v6 v7 v8 v9 v10 v11).lookup ("began" : Str) = some v5 := lk_at (f := "began") (v := v5) (ks := ["client", "number", "cell", "writes", "value"]) (l := [("client", v0), ("number", v1), ("cell", v2), ("writes", v3), ("value", v4)]) (r := [("ended", v6), ("result", v7), ("heard", v8), ("told", v9), ("wanted", v10), ("keepers", v11)]) rfl (by decide +kernel)
theorem F_Operation_put_began {v0 v1 v2 v3 v4 v5 v6 v7 v8 v9 v10 v11 y : V} : putF "began" y (F_Operation v0 v1 v2 v3 v4 v5 v6 v7 v8 v9 v10 v11) = F_Operation v0 v1 v2 v3 v4 y v6 v7 v8 v9 v10 v11 := put_at (f := "began") (v := y) (x := v5) (ks := ["client", "number", "cell", "writes", "value"]) (l := [("client", v0), ("number", v1), ("cell", v2), ("writes", v3), ("value", v4)]) (r := [("ended", v6), ("result", v7), ("heard", v8), ("told", v9), ("wanted", v10), ("keepers", v11)]) rfl (by decide +kernel)
theorem F_Operation_new_began {v0 v1 v2 v3 v4 v5 : V} : putF "began" v5 ([("client", v0), ("number", v1), ("cell", v2), ("writes", v3), ("value", v4)] : List (Str × V)) = ([("client", v0), ("number", v1), ("cell", v2), ("writes", v3), ("value", v4), ("began", v5)] : List (Str × V)) := put_new (f := "began") (v := v5) (ks := ["client", "number", "cell", "writes", "value"]) (l := [("client", v0), ("number", v1), ("cell", v2), ("writes", v3), ("value", v4)]) rfl (by decide +kernel)
theorem F_Operation_ended {v0 v1 v2 v3 v4 v5 v6 v7 v8 v9 v10 v11 : V} : (F_Operation v0 v1 v2 v3 v4 v5 v6 v7 v8 v9 v10 v11).lookup ("ended" : Str) = some v6 := lk_at (f := "ended") (v := v6) (ks := ["client", "number", "cell", "writes", "value", "began"]) (l := [("client", v0), ("number", v1), ("cell", v2), ("writes", v3), ("value", v4), ("began", v5)]) (r := [("result", v7), ("heard", v8), ("told", v9), ("wanted", v10), ("keepers", v11)]) rfl (by decide +kernel)
theorem F_Operation_put_ended {v0 v1 v2 v3 v4 v5 v6 v7 v8 v9 v10 v11 y : V} : putF "ended" y (F_Operation v0 v1 v2 v3 v4 v5 v6 v7 v8 v9 v10 v11) = F_Operation v0 v1 v2 v3 v4 v5 y v7 v8 v9 v10 v11 := put_at (f := "ended") (v := y) (x := v6) (ks := ["client", "number", "cell", "writes", "value", "began"]) (l := [("client", v0), ("number", v1), ("cell", v2), ("writes", v3), ("value", v4), ("began", v5)]) (r := [("result", v7), ("heard", v8), ("told", v9), ("wanted", v10), ("keepers", v11)]) rfl (by decide +kernel)
theorem F_Operation_new_ended {v0 v1 v2 v3 v4 v5 v6 : V} : putF "ended" v6 ([("client", v0), ("number", v1), ("cell", v2), ("writes", v3), ("value", v4), ("began", v5)] : List (Str × V)) = ([("client", v0), ("number", v1), ("cell", v2), ("writes", v3), ("value", v4), ("began", v5), ("ended", v6)] : List (Str × V)) := put_new (f := "ended") (v := v6) (ks := ["client", "number", "cell", "writes", "value", "began"]) (l := [("client", v0), ("number", v1), ("cell", v2), ("writes", v3), ("value", v4), ("began", v5)]) rfl (by decide +kernel)
theorem F_Operation_result {v0 v1 v2 v3 v4 v5 v6 v7 v8 v9 v10 v11 : V} : (F_Operation v0 v1 v2 v3 v4 v5 v6 v7 v8 v9 v10 v11).lookup ("result" : Str) = some v7 := lk_at (f := "result") (v := v7) (ks := ["client", "number", "cell", "writes", "value", "began", "ended"]) (l := [("client", v0), ("number", v1), ("cell", v2), ("writes", v3), ("value", v4), ("began", v5), ("ended", v6)]) (r := [("heard", v8), ("told", v9), ("wanted", v10), ("keepers", v11)]) rfl (by decide +kernel)
theorem F_Operation_put_result {v0 v1 v2 v3 v4 v5 v6 v7 v8 v9 v10 v11 y : V} : putF "result" y (F_Operation v0 v1 v2 v3 v4 v5 v6 v7 v8 v9 v10 v11) = F_Operation v0 v1 v2 v3 v4 v5 v6 y v8 v9 v10 v11 := put_at (f := "result") (v := y) (x := v7) (ks := ["client", "number", "cell", "writes", "value", "began", "ended"]) (l := [("client", v0), ("number", v1), ("cell", v2), ("writes", v3), ("value", v4), ("began", v5), ("ended", v6)]) (r := [("heard", v8), ("told", v9), ("wanted", v10), ("keepers", v11)]) rfl (by decide +kernel)
theorem F_Operation_new_result {v0 v1 v2 v3 v4 v5 v6 v7 : V} : putF "result" v7 ([("client", v0), ("number", v1), ("cell", v2), ("writes", v3), ("value", v4), ("began", v5), ("ended", v6)] : List (Str × V)) = ([("client", v0), ("number", v1), ("cell", v2), ("writes", v3), ("value", v4), ("began", v5), ("ended", v6), ("result", v7)] : List (Str × V)) := put_new (f := "result") (v := v7) (ks := ["client", "number", "cell", "writes", "value", "began", "ended"]) (l := [("client", v0), ("number", v1), ("cell", v2), ("writes", v3), ("value", v4), ("began", v5), ("ended", v6)]) rfl (by decide +kernel)
theorem F_Operation_heard {v0 v1 v2 v3 v4 v5 v6 v7 v8 v9 v10 v11 : V} : (F_Operation v0 v1 v2 v3 v4 v5 v6 v7 v8 v9 v10 v11).lookup ("heard" : Str) = some v8 := lk_at (f := "heard") (v := v8) (ks := ["client", "number", "cell", "writes", "value", "began", "ended", "result"]) (l := [("client", v0), ("number", v1), ("cell", v2), ("writes", v3), ("value", v4), ("began", v5), ("ended", v6), ("result", v7)]) (r := [("told", v9), ("wanted", v10), ("keepers", v11)]) rfl (by decide +kernel)
theorem F_Operation_put_heard {v0 v1 v2 v3 v4 v5 v6 v7 v8 v9 v10 v11 y : V} : putF "heard" y (F_Operation v0 v1 v2 v3 v4 v5 v6 v7 v8 v9 v10 v11) = F_Operation v0 v1 v2 v3 v4 v5 v6 v7 y v9 v10 v11 := put_at (f := "heard") (v := y) (x := v8) (ks := ["client", "number", "cell", "writes", "value", "began", "ended", "result"]) (l := [("client", v0), ("number", v1), ("cell", v2), ("writes", v3), ("value", v4), ("began", v5), ("ended", v6), ("result", v7)]) (r := [("told", v9), ("wanted", v10), ("keepers", v11)]) rfl (by decide +kernel)
theorem F_Operation_new_heard {v0 v1 v2 v3 v4 v5 v6 v7 v8 : V} : putF "heard" v8 ([("client", v0), ("number", v1), ("cell", v2), ("writes", v3), ("value", v4), ("began", v5), ("ended", v6), ("result", v7)] : List (Str × V)) = ([("client", v0), ("number", v1), ("cell", v2), ("writes", v3), ("value", v4), ("began", v5), ("ended", v6), ("result", v7), ("heard", v8)] : List (Str × V)) := put_new (f := "heard") (v := v8) (ks := ["client", "number", "cell", "writes", "value", "began", "ended", "result"]) (l := [("client", v0), ("number", v1), ("cell", v2), ("writes", v3), ("value", v4), ("began", v5), ("ended", v6), ("result", v7)]) rfl (by decide +kernel)
theorem F_Operation_told {v0 v1 v2 v3 v4 v5 v6 v7 v8 v9 v10 v11 : V} : (F_Operation v0 v1 v2 v3 v4 v5 v6 v7 v8 v9 v10 v11).lookup ("told" : Str) = some v9 := lk_at (f := "told") (v := v9) (ks := ["client", "number", "cell", "writes", "value", "began", "ended", "result", "heard"]) (l := [("client", v0), ("number", v1), ("cell", v2), ("writes", v3), ("value", v4), ("began", v5), ("ended", v6), ("result", v7), ("heard", v8)]) (r := [("wanted", v10), ("keepers", v11)]) rfl (by decide +kernel)
theorem F_Operation_put_told {v0 v1 v2 v3 v4 v5 v6 v7 v8 v9 v10 v11 y : V} : putF "told" y (F_Operation v0 v1 v2 v3 v4 v5 v6 v7 v8 v9 v10 v11) = F_Operation v0 v1 v2 v3 v4 v5 v6 v7 v8 y v10 v11 := put_at (f := "told") (v := y) (x := v9) (ks := ["client", "number", "cell", "writes", "value", "began", "ended", "result", "heard"]) (l := [("client", v0), ("number", v1), ("cell", v2), ("writes", v3), ("value", v4), ("began", v5), ("ended", v6), ("result", v7), ("heard", v8)]) (r := [("wanted", v10), ("keepers", v11)]) rfl (by decide +kernel)
theorem F_Operation_new_told {v0 v1 v2 v3 v4 v5 v6 v7 v8 v9 : V} : putF "told" v9 ([("client", v0), ("number", v1), ("cell", v2), ("writes", v3), ("value", v4), ("began", v5), ("ended", v6), ("result", v7), ("heard", v8)] : List (Str × V)) = ([("client", v0), ("number", v1), ("cell", v2), ("writes", v3), ("value", v4), ("began", v5), ("ended", v6), ("result", v7), ("heard", v8), ("told", v9)] : List (Str × V)) := put_new (f := "told") (v := v9) (ks := ["client", "number", "cell", "writes", "value", "began", "ended", "result", "heard"]) (l := [("client", v0), ("number", v1), ("cell", v2), ("writes", v3), ("value", v4), ("began", v5), ("ended", v6), ("result", v7), ("heard", v8)]) rfl (by decide +kernel)
theorem F_Operation_wanted {v0 v1 v2 v3 v4 v5 v6 v7 v8 v9 v10 v11 : V} : (F_Operation v0 v1 v2 v3 v4 v5 v6 v7 v8 v9 v10 v11).lookup ("wanted" : Str) = some v10 := lk_at (f := "wanted") (v := v10) (ks := ["client", "number", "cell", "writes", "value", "began", "ended", "result", "heard", "told"]) (l := [("client", v0), ("number", v1), ("cell", v2), ("writes", v3), ("value", v4), ("began", v5), ("ended", v6), ("result", v7), ("heard", v8), ("told", v9)]) (r := [("keepers", v11)]) rfl (by decide +kernel)
theorem F_Operation_put_wanted {v0 v1 v2 v3 v4 v5 v6 v7 v8 v9 v10 v11 y : V} : putF "wanted" y (F_Operation v0 v1 v2 v3 v4 v5 v6 v7 v8 v9 v10 v11) = F_Operation v0 v1 v2 v3 v4 v5 v6 v7 v8 v9 y v11 := put_at (f := "wanted") (v := y) (x := v10) (ks := ["client", "number", "cell", "writes", "value", "began", "ended", "result", "heard", "told"]) (l := [("client", v0), ("number", v1), ("cell", v2), ("writes", v3), ("value", v4), ("began", v5), ("ended", v6), ("result", v7), ("heard", v8), ("told", v9)]) (r := [("keepers", v11)]) rfl (by decide +kernel)
theorem F_Operation_new_wanted {v0 v1 v2 v3 v4 v5 v6 v7 v8 v9 v10 : V} : putF "wanted" v10 ([("client", v0), ("number", v1), ("cell", v2), ("writes", v3), ("value", v4), ("began", v5), ("ended", v6), ("result", v7), ("heard", v8), ("told", v9)] : List (Str × V)) = ([("client", v0), ("number", v1), ("cell", v2), ("writes", v3), ("value", v4), ("began", v5), ("ended", v6), ("result", v7), ("heard", v8), ("told", v9), ("wanted", v10)] : List (Str × V)) := put_new (f := "wanted") (v := v10) (ks := ["client", "number", "cell", "writes", "value", "began", "ended", "result", "heard", "told"]) (l := [("client", v0), ("number", v1), ("cell", v2), ("writes", v3), ("value", v4), ("began", v5), ("ended", v6), ("result", v7), ("heard", v8), ("told", v9)]) rfl (by decide +kernel)
theorem F_Operation_keepers {v0 v1 v2 v3 v4 v5 v6 v7 v8 v9 v10 v11 : V} : (F_Operation v0 v1 v2 v3 v4 v5 v6 v7 v8 v9 v10 v11).lookup ("keepers" : Str) = some v11 := lk_at (f := "keepers") (v := v11) (ks := ["client", "number", "cell", "writes", "value", "began", "ended", "result", "heard", "told", "wanted"]) (l := [("client", v0), ("number", v1), ("cell", v2), ("writes", v3), ("value", v4), ("began", v5), ("ended", v6), ("result", v7), ("heard", v8), ("told", v9), ("wanted", v10)]) (r := []) rfl (by decide +kernel)
theorem F_Operation_put_keepers {v0 v1 v2 v3 v4 v5 v6 v7 v8 v9 v10 v11 y : V} : putF "keepers" y (F_Operation v0 v1 v2 v3 v4 v5 v6 v7 v8 v9 v10 v11) = F_Operation v0 v1 v2 v3 v4 v5 v6 v7 v8 v9 v10 y := put_at (f := "keepers") (v := y) (x := v11) (ks := ["client", "number", "cell", "writes", "value", "began", "ended", "result", "heard", "told", "wanted"]) (l := [("client", v0), ("number", v1), ("cell", v2), ("writes", v3), ("value", v4), ("began", v5), ("ended", v6), ("result", v7), ("heard", v8), ("told", v9), ("wanted", v10)]) (r := []) rfl (by decide +kernel)
theorem F_Operation_new_keepers {v0 v1 v2 v3 v4 v5 v6 v7 v8 v9 v10 v11 : V} : putF "keepers" v11 ([("client", v0), ("number", v1), ("cell", v2), ("writes", v3), ("value", v4), ("began", v5), ("ended", v6), ("result", v7), ("heard", v8), ("told", v9), ("wanted", v10)] : List (Str × V)) = ([("client", v0), ("number", v1), ("cell", v2), ("writes", v3), ("value", v4), ("began", v5), ("ended", v6), ("result", v7), ("heard", v8), ("told", v9), ("wanted", v10), ("keepers", v11)] : List (Str × V)) := put_new (f := "keepers") (v := v11) (ks := ["client", "number", "cell", "writes", "value", "began", "ended", "result", "heard", "told", "wanted"]) (l := [("client", v0), ("number", v1), ("cell", v2), ("writes", v3), ("value", v4), ("began", v5), ("ended", v6), ("result", v7), ("heard", v8), ("told", v9), ("wanted", v10)]) rfl (by decide +kernel)
theorem F_Operation_no {v0 v1 v2 v3 v4 v5 v6 v7 v8 v9 v10 v11 : V} {m : Str} (h : ¬ m ∈ (["client", "number", "cell", "writes", "value", "began", "ended", "result", "heard", "told", "wanted", "keepers"] : List Str)) : (F_Operation v0 v1 v2 v3 v4 v5 v6 v7 v8 v9 v10 v11).lookup m = none := lk_no (ks := ["client", "number", "cell", "writes", "value", "began", "ended", "result", "heard", "told", "wanted", "keepers"]) rfl h
theorem F_Operation_len {v0 v1 v2 v3 v4 v5 v6 v7 v8 v9 v10 v11 : V} : (F_Operation v0 v1 v2 v3 v4 v5 v6 v7 v8 v9 v10 v11).length < 1000 := (show 12 < 1000 by decide)
theorem F_Operation_m_counted_nodes {v0 v1 v2 v3 v4 v5 v6 v7 v8 v9 v10 v11 : V} : (F_Operation v0 v1 v2 v3 v4 v5 v6 v7 v8 v9 v10 v11).lookup ("counted_nodes" : Str) = none := F_Operation_no (by decide +kernel)
theorem F_Operation_m_nodes_that_told {v0 v1 v2 v3 v4 v5 v6 v7 v8 v9 v10 v11 : V} : (F_Operation v0 v1 v2 v3 v4 v5 v6 v7 v8 v9 v10 v11).lookup ("nodes_that_told" : Str) = none := F_Operation_no (by decide +kernel)
theorem F_Operation_m_letter_to {v0 v1 v2 v3 v4 v5 v6 v7 v8 v9 v10 v11 : V} : (F_Operation v0 v1 v2 v3 v4 v5 v6 v7 v8 v9 v10 v11).lookup ("letter_to" : Str) = none := F_Operation_no (by decide +kernel)
theorem F_Operation_m_progress_in_numbers {v0 v1 v2 v3 v4 v5 v6 v7 v8 v9 v10 v11 : V} : (F_Operation v0 v1 v2 v3 v4 v5 v6 v7 v8 v9 v10 v11).lookup ("progress_in_numbers" : Str) = none := F_Operation_no (by decide +kernel)
theorem F_Operation_m_record_in_numbers {v0 v1 v2 v3 v4 v5 v6 v7 v8 v9 v10 v11 : V} : (F_Operation v0 v1 v2 v3 v4 v5 v6 v7 v8 v9 v10 v11).lookup ("record_in_numbers" : Str) = none := F_Operation_no (by decide +kernel)
def F_Client (v0 v1 v2 : V) : List (Str × V) := [("begun", v0), ("gone", v1), ("under_way", v2)]
theorem F_Client_begun {v0 v1 v2 : V} : (F_Client v0 v1 v2).lookup ("begun" : Str) = some v0 := lk_at (f := "begun") (v := v0) (ks := []) (l := []) (r := [("gone", v1), ("under_way", v2)]) rfl (by decide +kernel)
theorem F_Client_put_begun {v0 v1 v2 y : V} : putF "begun" y (F_Client v0 v1 v2) = F_Client y v1 v2 := put_at (f := "begun") (v := y) (x := v0) (ks := []) (l := []) (r := [("gone", v1), ("under_way", v2)]) rfl (by decide +kernel)
theorem F_Client_new_begun {v0 : V} : putF "begun" v0 ([] : List (Str × V)) = ([("begun", v0)] : List (Str × V)) := put_new (f := "begun") (v := v0) (ks := []) (l := []) rfl (by decide +kernel)
theorem F_Client_gone {v0 v1 v2 : V} : (F_Client v0 v1 v2).lookup ("gone" : Str) = some v1 := lk_at (f := "gone") (v := v1) (ks := ["begun"]) (l := [("begun", v0)]) (r := [("under_way", v2)]) rfl (by decide +kernel)
theorem F_Client_put_gone {v0 v1 v2 y : V} : putF "gone" y (F_Client v0 v1 v2) = F_Client v0 y v2 := put_at (f := "gone") (v := y) (x := v1) (ks := ["begun"]) (l := [("begun", v0)]) (r := [("under_way", v2)]) rfl (by decide +kernel)
theorem F_Client_new_gone {v0 v1 : V} : putF "gone" v1 ([("begun", v0)] : List (Str × V)) = ([("begun", v0), ("gone", v1)] : List (Str × V)) := put_new (f := "gone") (v := v1) (ks := ["begun"]) (l := [("begun", v0)]) rfl (by decide +kernel)
theorem F_Client_under_way {v0 v1 v2 : V} : (F_Client v0 v1 v2).lookup ("under_way" : Str) = some v2 := lk_at (f := "under_way") (v := v2) (ks := ["begun", "gone"]) (l := [("begun", v0), ("gone", v1)]) (r := []) rfl (by decide +kernel)
theorem F_Client_put_under_way {v0 v1 v2 y : V} : putF "under_way" y (F_Client v0 v1 v2) = F_Client v0 v1 y := put_at (f := "under_way") (v := y) (x := v2) (ks := ["begun", "gone"]) (l := [("begun", v0), ("gone", v1)]) (r := []) rfl (by decide +kernel)
theorem F_Client_new_under_way {v0 v1 v2 : V} : putF "under_way" v2 ([("begun", v0), ("gone", v1)] : List (Str × V)) = ([("begun", v0), ("gone", v1), ("under_way", v2)] : List (Str × V)) := put_new (f := "under_way") (v := v2) (ks := ["begun", "gone"]) (l := [("begun", v0), ("gone", v1)]) rfl (by decide +kernel)
theorem F_Client_no {v0 v1 v2 : V} {m : Str} (h : ¬ m ∈ (["begun", "gone", "under_way"] : List Str)) : (F_Client v0 v1 v2).lookup m = none := lk_no (ks := ["begun", "gone", "under_way"]) rfl h
theorem F_Client_len {v0 v1 v2 : V} : (F_Client v0 v1 v2).length < 1000 := (show 3 < 1000 by decide)
theorem F_Client_m_is_at_work {v0 v1 v2 : V} : (F_Client v0 v1 v2).lookup ("is_at_work" : Str) = none := F_Client_no (by decide +kernel)
theorem F_Client_m_is_free {v0 v1 v2 : V} : (F_Client v0 v1 v2).lookup ("is_free" : Str) = none := F_Client_no (by decide +kernel)
theorem F_Client_m_in_numbers {v0 v1 v2 : V} : (F_Client v0 v1 v2).lookup ("in_numbers" : Str) = none := F_Client_no (by decide +kernel)
def F_World (v0 v1 v2 v3 v4 : V) : List (Str × V) := [("nodes", v0), ("clients", v1), ("row", v2), ("record", v3), ("events", v4)]
theorem F_World_nodes {v0 v1 v2 v3 v4 : V} : (F_World v0 v1 v2 v3 v4).lookup ("nodes" : Str) = some v0 := lk_at (f := "nodes") (v := v0) (ks := []) (l := []) (r := [("clients", v1), ("row", v2), ("record", v3), ("events", v4)]) rfl (by decide +kernel)
theorem F_World_put_nodes {v0 v1 v2 v3 v4 y : V} : putF "nodes" y (F_World v0 v1 v2 v3 v4) = F_World y v1 v2 v3 v4 := put_at (f := "nodes") (v := y) (x := v0) (ks := []) (l := []) (r := [("clients", v1), ("row", v2), ("record", v3), ("events", v4)]) rfl (by decide +kernel)
theorem F_World_new_nodes {v0 : V} : putF "nodes" v0 ([] : List (Str × V)) = ([("nodes", v0)] : List (Str × V)) := put_new (f := "nodes") (v := v0) (ks := []) (l := []) rfl (by decide +kernel)
theorem F_World_clients {v0 v1 v2 v3 v4 : V} : (F_World v0 v1 v2 v3 v4).lookup ("clients" : Str) = some v1 := lk_at (f := "clients") (v := v1) (ks := ["nodes"]) (l := [("nodes", v0)]) (r := [("row", v2), ("record", v3), ("events", v4)]) rfl (by decide +kernel)
theorem F_World_put_clients {v0 v1 v2 v3 v4 y : V} : putF "clients" y (F_World v0 v1 v2 v3 v4) = F_World v0 y v2 v3 v4 := put_at (f := "clients") (v := y) (x := v1) (ks := ["nodes"]) (l := [("nodes", v0)]) (r := [("row", v2), ("record", v3), ("events", v4)]) rfl (by decide +kernel)
theorem F_World_new_clients {v0 v1 : V} : putF "clients" v1 ([("nodes", v0)] : List (Str × V)) = ([("nodes", v0), ("clients", v1)] : List (Str × V)) := put_new (f := "clients") (v := v1) (ks := ["nodes"]) (l := [("nodes", v0)]) rfl (by decide +kernel)
theorem F_World_row {v0 v1 v2 v3 v4 : V} : (F_World v0 v1 v2 v3 v4).lookup ("row" : Str) = some v2 := lk_at (f := "row") (v := v2) (ks := ["nodes", "clients"]) (l := [("nodes", v0), ("clients", v1)]) (r := [("record", v3), ("events", v4)]) rfl (by decide +kernel)
theorem F_World_put_row {v0 v1 v2 v3 v4 y : V} : putF "row" y (F_World v0 v1 v2 v3 v4) = F_World v0 v1 y v3 v4 := put_at (f := "row") (v := y) (x := v2) (ks := ["nodes", "clients"]) (l := [("nodes", v0), ("clients", v1)]) (r := [("record", v3), ("events", v4)]) rfl (by decide +kernel)
theorem F_World_new_row {v0 v1 v2 : V} : putF "row" v2 ([("nodes", v0), ("clients", v1)] : List (Str × V)) = ([("nodes", v0), ("clients", v1), ("row", v2)] : List (Str × V)) := put_new (f := "row") (v := v2) (ks := ["nodes", "clients"]) (l := [("nodes", v0), ("clients", v1)]) rfl (by decide +kernel)
theorem F_World_record {v0 v1 v2 v3 v4 : V} : (F_World v0 v1 v2 v3 v4).lookup ("record" : Str) = some v3 := lk_at (f := "record") (v := v3) (ks := ["nodes", "clients", "row"]) (l := [("nodes", v0), ("clients", v1), ("row", v2)]) (r := [("events", v4)]) rfl (by decide +kernel)
theorem F_World_put_record {v0 v1 v2 v3 v4 y : V} : putF "record" y (F_World v0 v1 v2 v3 v4) = F_World v0 v1 v2 y v4 := put_at (f := "record") (v := y) (x := v3) (ks := ["nodes", "clients", "row"]) (l := [("nodes", v0), ("clients", v1), ("row", v2)]) (r := [("events", v4)]) rfl (by decide +kernel)
theorem F_World_new_record {v0 v1 v2 v3 : V} : putF "record" v3 ([("nodes", v0), ("clients", v1), ("row", v2)] : List (Str × V)) = ([("nodes", v0), ("clients", v1), ("row", v2), ("record", v3)] : List (Str × V)) := put_new (f := "record") (v := v3) (ks := ["nodes", "clients", "row"]) (l := [("nodes", v0), ("clients", v1), ("row", v2)]) rfl (by decide +kernel)
theorem F_World_events {v0 v1 v2 v3 v4 : V} : (F_World v0 v1 v2 v3 v4).lookup ("events" : Str) = some v4 := lk_at (f := "events") (v := v4) (ks := ["nodes", "clients", "row", "record"]) (l := [("nodes", v0), ("clients", v1), ("row", v2), ("record", v3)]) (r := []) rfl (by decide +kernel)
theorem F_World_put_events {v0 v1 v2 v3 v4 y : V} : putF "events" y (F_World v0 v1 v2 v3 v4) = F_World v0 v1 v2 v3 y := put_at (f := "events") (v := y) (x := v4) (ks := ["nodes", "clients", "row", "record"]) (l := [("nodes", v0), ("clients", v1), ("row", v2), ("record", v3)]) (r := []) rfl (by decide +kernel)
theorem F_World_new_events {v0 v1 v2 v3 v4 : V} : putF "events" v4 ([("nodes", v0), ("clients", v1), ("row", v2), ("record", v3)] : List (Str × V)) = ([("nodes", v0), ("clients", v1), ("row", v2), ("record", v3), ("events", v4)] : List (Str × V)) := put_new (f := "events") (v := v4) (ks := ["nodes", "clients", "row", "record"]) (l := [("nodes", v0), ("clients", v1), ("row", v2), ("record", v3)]) rfl (by decide +kernel)
theorem F_World_no {v0 v1 v2 v3 v4 : V} {m : Str} (h : ¬ m ∈ (["nodes", "clients", "row", "record", "events"] : List Str)) : (F_World v0 v1 v2 v3 v4).lookup m = none := lk_no (ks := ["nodes", "clients", "row", "record", "events"]) rfl h
theorem F_World_len {v0 v1 v2 v3 v4 : V} : (F_World v0 v1 v2 v3 v4).length < 1000 := (show 5 < 1000 by decide)
theorem F_World_m_is_most {v0 v1 v2 v3 v4 : V} : (F_World v0 v1 v2 v3 v4).lookup ("is_most" : Str) = none := F_World_no (by decide +kernel)
theorem F_World_m_next_event {v0 v1 v2 v3 v4 : V} : (F_World v0 v1 v2 v3 v4).lookup ("next_event" : Str) = none := F_World_no (by decide +kernel)
theorem F_World_m_send {v0 v1 v2 v3 v4 : V} : (F_World v0 v1 v2 v3 v4).lookup ("send" : Str) = none := F_World_no (by decide +kernel)
theorem F_World_m_send_to_missing {v0 v1 v2 v3 v4 : V} : (F_World v0 v1 v2 v3 v4).lookup ("send_to_missing" : Str) = none := F_World_no (by decide +kernel)
theorem F_World_m_begin_operation {v0 v1 v2 v3 v4 : V} : (F_World v0 v1 v2 v3 v4).lookup ("begin_operation" : Str) = none := F_World_no (by decide +kernel)
theorem F_World_m_read {v0 v1 v2 v3 v4 : V} : (F_World v0 v1 v2 v3 v4).lookup ("read" : Str) = none := F_World_no (by decide +kernel)
theorem F_World_m_write {v0 v1 v2 v3 v4 : V} : (F_World v0 v1 v2 v3 v4).lookup ("write" : Str) = none := F_World_no (by decide +kernel)
theorem F_World_m_take {v0 v1 v2 v3 v4 : V} : (F_World v0 v1 v2 v3 v4).lookup ("take" : Str) = none := F_World_no (by decide +kernel)
theorem F_World_m_again {v0 v1 v2 v3 v4 : V} : (F_World v0 v1 v2 v3 v4).lookup ("again" : Str) = none := F_World_no (by decide +kernel)
theorem F_World_m_lose {v0 v1 v2 v3 v4 : V} : (F_World v0 v1 v2 v3 v4).lookup ("lose" : Str) = none := F_World_no (by decide +kernel)
theorem F_World_m_nudge {v0 v1 v2 v3 v4 : V} : (F_World v0 v1 v2 v3 v4).lookup ("nudge" : Str) = none := F_World_no (by decide +kernel)
theorem F_World_m_leave {v0 v1 v2 v3 v4 : V} : (F_World v0 v1 v2 v3 v4).lookup ("leave" : Str) = none := F_World_no (by decide +kernel)
theorem F_World_m_stop_node {v0 v1 v2 v3 v4 : V} : (F_World v0 v1 v2 v3 v4).lookup ("stop_node" : Str) = none := F_World_no (by decide +kernel)
theorem F_World_m_start_node {v0 v1 v2 v3 v4 : V} : (F_World v0 v1 v2 v3 v4).lookup ("start_node" : Str) = none := F_World_no (by decide +kernel)
theorem F_World_m_set_running {v0 v1 v2 v3 v4 : V} : (F_World v0 v1 v2 v3 v4).lookup ("set_running" : Str) = none := F_World_no (by decide +kernel)
theorem F_World_m_tell_letters {v0 v1 v2 v3 v4 : V} : (F_World v0 v1 v2 v3 v4).lookup ("tell_letters" : Str) = none := F_World_no (by decide +kernel)
theorem F_World_m_tell_node {v0 v1 v2 v3 v4 : V} : (F_World v0 v1 v2 v3 v4).lookup ("tell_node" : Str) = none := F_World_no (by decide +kernel)
theorem F_World_m_tell_client {v0 v1 v2 v3 v4 : V} : (F_World v0 v1 v2 v3 v4).lookup ("tell_client" : Str) = none := F_World_no (by decide +kernel)
theorem F_World_m_tell_record {v0 v1 v2 v3 v4 : V} : (F_World v0 v1 v2 v3 v4).lookup ("tell_record" : Str) = none := F_World_no (by decide +kernel)
theorem F_World_m_hand_over {v0 v1 v2 v3 v4 : V} : (F_World v0 v1 v2 v3 v4).lookup ("hand_over" : Str) = none := F_World_no (by decide +kernel)
theorem F_World_m_hand_to_node {v0 v1 v2 v3 v4 : V} : (F_World v0 v1 v2 v3 v4).lookup ("hand_to_node" : Str) = none := F_World_no (by decide +kernel)
theorem F_World_m_hand_to_client {v0 v1 v2 v3 v4 : V} : (F_World v0 v1 v2 v3 v4).lookup ("hand_to_client" : Str) = none := F_World_no (by decide +kernel)
theorem F_World_m_hear {v0 v1 v2 v3 v4 : V} : (F_World v0 v1 v2 v3 v4).lookup ("hear" : Str) = none := F_World_no (by decide +kernel)
theorem F_World_m_have_kept {v0 v1 v2 v3 v4 : V} : (F_World v0 v1 v2 v3 v4).lookup ("have_kept" : Str) = none := F_World_no (by decide +kernel)
theorem F_World_m_count_keeper {v0 v1 v2 v3 v4 : V} : (F_World v0 v1 v2 v3 v4).lookup ("count_keeper" : Str) = none := F_World_no (by decide +kernel)
theorem F_World_m_end {v0 v1 v2 v3 v4 : V} : (F_World v0 v1 v2 v3 v4).lookup ("end" : Str) = none := F_World_no (by decide +kernel)
/-! ### what the top has left -/
structure Adr where
  (c_Letter c_Node c_Operation c_Client c_World z_ZERO_COPY z_NUMBERS_BEHIND : Addr)
structure Txt (K : PySem.W.Frag) (mg : Str → Option Value) (A : Adr) : Prop where
  g_CELLS : GInt mg "CELLS" 3
  g_ZERO_COPY : mg "ZERO_COPY" = some (.ref A.z_ZERO_COPY)
  t_ZERO_COPY : ∀ H : Hp, SqT K H A.z_ZERO_COPY [.int 0, .int 0, .int 0]
  g_ASKS : GInt mg "ASKS" 0
  g_TELLS : GInt mg "TELLS" 1
  g_KEEP : GInt mg "KEEP" 2
  g_KEPT : GInt mg "KEPT" 3
  g_CLIENTS : GInt mg "CLIENTS" 4
  g_MOST_NODES : GInt mg "MOST_NODES" 5
  g_GREATEST_WEIGHT : GInt mg "GREATEST_WEIGHT" 9
  g_GREATEST_VALUE : GInt mg "GREATEST_VALUE" 99
  g_ROOM : GInt mg "ROOM" 100
  g_NO_USE : GInt mg "NO_USE" 0
  g_ANSWERED : GInt mg "ANSWERED" 1
  g_COUNTED : GInt mg "COUNTED" 2
  g_GOES_ON : GInt mg "GOES_ON" 3
  g_ENDED : GInt mg "ENDED" 4
  g_NO_SUCH : GInt mg "NO_SUCH" (-1)
  g_NOT_NOW : GInt mg "NOT_NOW" (-2)
  g_NO_WORLD : GInt mg "NO_WORLD" (-9)
  g_BEGIN : GInt mg "BEGIN" 0
  g_READ : GInt mg "READ" 1
  g_WRITE : GInt mg "WRITE" 2
  g_TAKE : GInt mg "TAKE" 3
  g_AGAIN : GInt mg "AGAIN" 4
  g_LOSE : GInt mg "LOSE" 5
  g_NUDGE : GInt mg "NUDGE" 6
  g_QUIT : GInt mg "QUIT" 7
  g_STOP : GInt mg "STOP" 8
  g_START : GInt mg "START" 9
  g_LETTERS : GInt mg "LETTERS" 10
  g_NODE : GInt mg "NODE" 11
  g_CLIENT : GInt mg "CLIENT" 12
  g_NUMBERS_BEHIND : mg "NUMBERS_BEHIND" = some (.ref A.z_NUMBERS_BEHIND)
  d_NUMBERS_BEHIND : KDctI K A.z_NUMBERS_BEHIND [(1, 2), (2, 3), (3, 1), (4, 1), (5, 1), (6, 1), (7, 1), (8, 1), (9, 1), (10, 0), (11, 1), (12, 1), (13, 0)]
  b_len : mg "len" = none
  b_sum : mg "sum" = none
  b_max : mg "max" = none
  b_range : mg "range" = none
  b_zip : mg "zip" = none
  b_list : mg "list" = none
  cl_Letter : Cls K A.c_Letter
  na_Letter_kind : NoAttr K A.c_Letter "kind"
  na_Letter_to : NoAttr K A.c_Letter "to"
  na_Letter_sender : NoAttr K A.c_Letter "sender"
  na_Letter_operation : NoAttr K A.c_Letter "operation"
  na_Letter_cell : NoAttr K A.c_Letter "cell"
  na_Letter_enclosed : NoAttr K A.c_Letter "enclosed"
  cl_Node : Cls K A.c_Node
  na_Node_weight : NoAttr K A.c_Node "weight"
  na_Node_runs : NoAttr K A.c_Node "runs"
  na_Node_copies : NoAttr K A.c_Node "copies"
  cl_Operation : Cls K A.c_Operation
  na_Operation_client : NoAttr K A.c_Operation "client"
  na_Operation_number : NoAttr K A.c_Operation "number"
  na_Operation_cell : NoAttr K A.c_Operation "cell"
  na_Operation_writes : NoAttr K A.c_Operation "writes"
  na_Operation_value : NoAttr K A.c_Operation "value"
  na_Operation_began : NoAttr K A.c_Operation "began"
  na_Operation_ended : NoAttr K A.c_Operation "ended"
  na_Operation_result : NoAttr K A.c_Operation "result"
  na_Operation_heard : NoAttr K A.c_Operation "heard"
  na_Operation_told : NoAttr K A.c_Operation "told"
  na_Operation_wanted : NoAttr K A.c_Operation "wanted"
  na_Operation_keepers : NoAttr K A.c_Operation "keepers"
  cl_Client : Cls K A.c_Client
  na_Client_begun : NoAttr K A.c_Client "begun"
  na_Client_gone : NoAttr K A.c_Client "gone"
  na_Client_under_way : NoAttr K A.c_Client "under_way"
  cl_World : Cls K A.c_World
  na_World_nodes : NoAttr K A.c_World "nodes"
  na_World_clients : NoAttr K A.c_World "clients"
  na_World_row : NoAttr K A.c_World "row"
  na_World_record : NoAttr K A.c_World "record"
  na_World_events : NoAttr K A.c_World "events"
  f_one_or_zero : ∃ (f : Addr) (fd : FuncData), Fun K "one_or_zero" "one_or_zero" s_one_or_zero f fd ∧ mg "one_or_zero" = some (.ref f)
  f_has_greater_stamp : ∃ (f : Addr) (fd : FuncData), Fun K "has_greater_stamp" "has_greater_stamp" s_has_greater_stamp f fd ∧ mg "has_greater_stamp" = some (.ref f)
  f_has_same_stamp : ∃ (f : Addr) (fd : FuncData), Fun K "has_same_stamp" "has_same_stamp" s_has_same_stamp f fd ∧ mg "has_same_stamp" = some (.ref f)
  f_best_of : ∃ (f : Addr) (fd : FuncData), Fun K "best_of" "best_of" s_best_of f fd ∧ mg "best_of" = some (.ref f)
  f_Letter_init : ∃ (f : Addr) (fd : FuncData), Fun K "__init__" "Letter.__init__" s_Letter_init f fd ∧ Mk K A.c_Letter f ∧ mg "Letter" = some (.ref A.c_Letter)
  f_Letter_in_numbers : ∃ (f : Addr) (fd : FuncData), Fun K "in_numbers" "Letter.in_numbers" s_Letter_in_numbers f fd ∧ Meth K A.c_Letter "in_numbers" f
  f_reply_to : ∃ (f : Addr) (fd : FuncData), Fun K "reply_to" "reply_to" s_reply_to f fd ∧ mg "reply_to" = some (.ref f)
  f_Node_init : ∃ (f : Addr) (fd : FuncData), Fun K "__init__" "Node.__init__" s_Node_init f fd ∧ Mk K A.c_Node f ∧ mg "Node" = some (.ref A.c_Node)
  f_Node_answer_to : ∃ (f : Addr) (fd : FuncData), Fun K "answer_to" "Node.answer_to" s_Node_answer_to f fd ∧ Meth K A.c_Node "answer_to" f
  f_Node_in_numbers : ∃ (f : Addr) (fd : FuncData), Fun K "in_numbers" "Node.in_numbers" s_Node_in_numbers f fd ∧ Meth K A.c_Node "in_numbers" f
  f_Operation_init : ∃ (f : Addr) (fd : FuncData), Fun K "__init__" "Operation.__init__" s_Operation_init f fd ∧ Mk K A.c_Operation f ∧ mg "Operation" = some (.ref A.c_Operation)
  f_Operation_counted_nodes : ∃ (f : Addr) (fd : FuncData), Fun K "counted_nodes" "Operation.counted_nodes" s_Operation_counted_nodes f fd ∧ Meth K A.c_Operation "counted_nodes" f
  f_Operation_nodes_that_told : ∃ (f : Addr) (fd : FuncData), Fun K "nodes_that_told" "Operation.nodes_that_told" s_Operation_nodes_that_told f fd ∧ Meth K A.c_Operation "nodes_that_told" f
  f_Operation_letter_to : ∃ (f : Addr) (fd : FuncData), Fun K "letter_to" "Operation.letter_to" s_Operation_letter_to f fd ∧ Meth K A.c_Operation "letter_to" f
  f_Operation_progress_in_numbers : ∃ (f : Addr) (fd : FuncData), Fun K "progress_in_numbers" "Operation.progress_in_numbers" s_Operation_progress_in_numbers f fd ∧ Meth K A.c_Operation "progress_in_numbers" f
  f_Operation_record_in_numbers : ∃ (f : Addr) (fd : FuncData), Fun K "record_in_numbers" "Operation.record_in_numbers" s_Operation_record_in_numbers f fd ∧ Meth K A.c_Operation "record_in_numbers" f
  f_Client_init : ∃ (f : Addr) (fd : FuncData), Fun K "__init__" "Client.__init__" s_Client_init f fd ∧ Mk K A.c_Client f ∧ mg "Client" = some (.ref A.c_Client)
  f_Client_is_at_work : ∃ (f : Addr) (fd : FuncData), Fun K "is_at_work" "Client.is_at_work" s_Client_is_at_work f fd ∧ Meth K A.c_Client "is_at_work" f
  f_Client_is_free : ∃ (f : Addr) (fd : FuncData), Fun K "is_free" "Client.is_free" s_Client_is_free f fd ∧ Meth K A.c_Client "is_free" f
  f_Client_in_numbers : ∃ (f : Addr) (fd : FuncData), Fun K "in_numbers" "Client.in_numbers" s_Client_in_numbers f fd ∧ Meth K A.c_Client "in_numbers" f
  f_World_init : ∃ (f : Addr) (fd : FuncData), Fun K "__init__" "World.__init__" s_World_init f fd ∧ Mk K A.c_World f ∧ mg "World" = some (.ref A.c_World)
  f_World_is_most : ∃ (f : Addr) (fd : FuncData), Fun K "is_most" "World.is_most" s_World_is_most f fd ∧ Meth K A.c_World "is_most" f
  f_World_next_event : ∃ (f : Addr) (fd : FuncData), Fun K "next_event" "World.next_event" s_World_next_event f fd ∧ Meth K A.c_World "next_event" f
  f_World_send : ∃ (f : Addr) (fd : FuncData), Fun K "send" "World.send" s_World_send f fd ∧ Meth K A.c_World "send" f
  f_World_send_to_missing : ∃ (f : Addr) (fd : FuncData), Fun K "send_to_missing" "World.send_to_missing" s_World_send_to_missing f fd ∧ Meth K A.c_World "send_to_missing" f
  f_World_begin_operation : ∃ (f : Addr) (fd : FuncData), Fun K "begin_operation" "World.begin_operation" s_World_begin_operation f fd ∧ Meth K A.c_World "begin_operation" f
  f_World_read : ∃ (f : Addr) (fd : FuncData), Fun K "read" "World.read" s_World_read f fd ∧ Meth K A.c_World "read" f
  f_World_write : ∃ (f : Addr) (fd : FuncData), Fun K "write" "World.write" s_World_write f fd ∧ Meth K A.c_World "write" f
  f_World_take : ∃ (f : Addr) (fd : FuncData), Fun K "take" "World.take" s_World_take f fd ∧ Meth K A.c_World "take" f
  f_World_again : ∃ (f : Addr) (fd : FuncData), Fun K "again" "World.again" s_World_again f fd ∧ Meth K A.c_World "again" f
  f_World_lose : ∃ (f : Addr) (fd : FuncData), Fun K "lose" "World.lose" s_World_lose f fd ∧ Meth K A.c_World "lose" f
  f_World_nudge : ∃ (f : Addr) (fd : FuncData), Fun K "nudge" "World.nudge" s_World_nudge f fd ∧ Meth K A.c_World "nudge" f
  f_World_leave : ∃ (f : Addr) (fd : FuncData), Fun K "leave" "World.leave" s_World_leave f fd ∧ Meth K A.c_World "leave" f
  f_World_stop_node : ∃ (f : Addr) (fd : FuncData), Fun K "stop_node" "World.stop_node" s_World_stop_node f fd ∧ Meth K A.c_World "stop_node" f
  f_World_start_node : ∃ (f : Addr) (fd : FuncData), Fun K "start_node" "World.start_node" s_World_start_node f fd ∧ Meth K A.c_World "start_node" f
  f_World_set_running : ∃ (f : Addr) (fd : FuncData), Fun K "set_running" "World.set_running" s_World_set_running f fd ∧ Meth K A.c_World "set_running" f
  f_World_tell_letters : ∃ (f : Addr) (fd : FuncData), Fun K "tell_letters" "World.tell_letters" s_World_tell_letters f fd ∧ Meth K A.c_World "tell_letters" f
  f_World_tell_node : ∃ (f : Addr) (fd : FuncData), Fun K "tell_node" "World.tell_node" s_World_tell_node f fd ∧ Meth K A.c_World "tell_node" f
  f_World_tell_client : ∃ (f : Addr) (fd : FuncData), Fun K "tell_client" "World.tell_client" s_World_tell_client f fd ∧ Meth K A.c_World "tell_client" f
  f_World_tell_record : ∃ (f : Addr) (fd : FuncData), Fun K "tell_record" "World.tell_record" s_World_tell_record f fd ∧ Meth K A.c_World "tell_record" f
  f_World_hand_over : ∃ (f : Addr) (fd : FuncData), Fun K "hand_over" "World.hand_over" s_World_hand_over f fd ∧ Meth K A.c_World "hand_over" f
  f_World_hand_to_node : ∃ (f : Addr) (fd : FuncData), Fun K "hand_to_node" "World.hand_to_node" s_World_hand_to_node f fd ∧ Meth K A.c_World "hand_to_node" f
  f_World_hand_to_client : ∃ (f : Addr) (fd : FuncData), Fun K "hand_to_client" "World.hand_to_client" s_World_hand_to_client f fd ∧ Meth K A.c_World "hand_to_client" f
  f_World_hear : ∃ (f : Addr) (fd : FuncData), Fun K "hear" "World.hear" s_World_hear f fd ∧ Meth K A.c_World "hear" f
  f_World_have_kept : ∃ (f : Addr) (fd : FuncData), Fun K "have_kept" "World.have_kept" s_World_have_kept f fd ∧ Meth K A.c_World "have_kept" f
  f_World_count_keeper : ∃ (f : Addr) (fd : FuncData), Fun K "count_keeper" "World.count_keeper" s_World_count_keeper f fd ∧ Meth K A.c_World "count_keeper" f
  f_World_end : ∃ (f : Addr) (fd : FuncData), Fun K "end" "World.end" s_World_end f fd ∧ Meth K A.c_World "end" f
  f_can_begin : ∃ (f : Addr) (fd : FuncData), Fun K "can_begin" "can_begin" s_can_begin f fd ∧ mg "can_begin" = some (.ref f)
  f_call_length : ∃ (f : Addr) (fd : FuncData), Fun K "call_length" "call_length" s_call_length f fd ∧ mg "call_length" = some (.ref f)
  f_answer_of : ∃ (f : Addr) (fd : FuncData), Fun K "answer_of" "answer_of" s_answer_of f fd ∧ mg "answer_of" = some (.ref f)
  f_answers : ∃ (f : Addr) (fd : FuncData), Fun K "answers" "answers" s_answers f fd ∧ mg "answers" = some (.ref f)
section
variable {P : Program} {w : World} {K : PySem.W.Frag} {mg : Str → Option Value} {base : Heap} {A : Adr}
theorem mk_one_or_zero {sp : Sp} (T : Txt K mg A) (len : ∀ vs H Q E, sp vs H Q E → vs.length = 1)
    (hbody : ∀ (f : Addr) (cdv : Value) (B : Around) (outer : List Env) (s : Shared) (H : Hp) (vs : List V) (Q : VK) (E : XK), Room 0 (B.deeper (envOfC "one_or_zero" (defScope s_one_or_zero) s.heap.objs.size f cdv)) → sp vs H Q E →
      ∃ t, PSs (cxOf CX0 P w K mg base n_one_or_zero "one_or_zero" (defScope s_one_or_zero) f cdv B outer s H E).nox (defBody s_one_or_zero) t ∧ t { nx := fun _ H' => Q .non H', rt := Q } (start n_one_or_zero vs) H) :
    FnG P w K mg base "one_or_zero" 1 ["truth"] sp := by
  obtain ⟨f, fd, F, hM⟩ := T.f_one_or_zero
  have b := F.binds (ps := ["truth"]) fun _ _ _ _ _ _ us hl => match us, hl with | [_], _ => rfl
  exact ⟨f, fd, hM, F.kp, b, F.ok sc_one_or_zero len (fun cdv B outer s H vs Q E hr h => hbody f cdv B outer s H vs Q E hr h)⟩
theorem mk_has_greater_stamp {sp : Sp} (T : Txt K mg A) (len : ∀ vs H Q E, sp vs H Q E → vs.length = 2)
    (hbody : ∀ (f : Addr) (cdv : Value) (B : Around) (outer : List Env) (s : Shared) (H : Hp) (vs : List V) (Q : VK) (E : XK), Room 0 (B.deeper (envOfC "has_greater_stamp" (defScope s_has_greater_stamp) s.heap.objs.size f cdv)) → sp vs H Q E →
      ∃ t, PSs (cxOf CX0 P w K mg base n_has_greater_stamp "has_greater_stamp" (defScope s_has_greater_stamp) f cdv B outer s H E).nox (defBody s_has_greater_stamp) t ∧ t { nx := fun _ H' => Q .non H', rt := Q } (start n_has_greater_stamp vs) H) :
    FnG P w K mg base "has_greater_stamp" 1 ["copy", "other"] sp := by
  obtain ⟨f, fd, F, hM⟩ := T.f_has_greater_stamp
  have b := F.binds (ps := ["copy", "other"]) fun _ _ _ _ _ _ us hl => match us, hl with | [_, _], _ => rfl
  exact ⟨f, fd, hM, F.kp, b, F.ok sc_has_greater_stamp len (fun cdv B outer s H vs Q E hr h => hbody f cdv B outer s H vs Q E hr h)⟩
theorem mk_has_same_stamp {sp : Sp} (T : Txt K mg A) (len : ∀ vs H Q E, sp vs H Q E → vs.length = 2)
    (hbody : ∀ (f : Addr) (cdv : Value) (B : Around) (outer : List Env) (s : Shared) (H : Hp) (vs : List V) (Q : VK) (E : XK), Room 0 (B.deeper (envOfC "has_same_stamp" (defScope s_has_same_stamp) s.heap.objs.size f cdv)) → sp vs H Q E →
      ∃ t, PSs (cxOf CX0 P w K mg base n_has_same_stamp "has_same_stamp" (defScope s_has_same_stamp) f cdv B outer s H E).nox (defBody s_has_same_stamp) t ∧ t { nx := fun _ H' => Q .non H', rt := Q } (start n_has_same_stamp vs) H) :
    FnG P w K mg base "has_same_stamp" 1 ["copy", "other"] sp := by
  obtain ⟨f, fd, F, hM⟩ := T.f_has_same_stamp
  have b := F.binds (ps := ["copy", "other"]) fun _ _ _ _ _ _ us hl => match us, hl with | [_, _], _ => rfl
  exact ⟨f, fd, hM, F.kp, b, F.ok sc_has_same_stamp len (fun cdv B outer s H vs Q E hr h => hbody f cdv B outer s H vs Q E hr h)⟩
theorem mk_best_of {sp : Sp} (T : Txt K mg A) (len : ∀ vs H Q E, sp vs H Q E → vs.length = 1)
    (hbody : ∀ (f : Addr) (cdv : Value) (B : Around) (outer : List Env) (s : Shared) (H : Hp) (vs : List V) (Q : VK) (E : XK), Room 1 (B.deeper (envOfC "best_of" (defScope s_best_of) s.heap.objs.size f cdv)) → sp vs H Q E →
      ∃ t, PSs (cxOf CX0 P w K mg base n_best_of "best_of" (defScope s_best_of) f cdv B outer s H E).nox (defBody s_best_of) t ∧ t { nx := fun _ H' => Q .non H', rt := Q } (start n_best_of vs) H) :
    FnG P w K mg base "best_of" 2 ["copies"] sp := by
  obtain ⟨f, fd, F, hM⟩ := T.f_best_of
  have b := F.binds (ps := ["copies"]) fun _ _ _ _ _ _ us hl => match us, hl with | [_], _ => rfl
  exact ⟨f, fd, hM, F.kp, b, F.ok sc_best_of len (fun cdv B outer s H vs Q E hr h => hbody f cdv B outer s H vs Q E hr h)⟩
theorem mk_Letter_init {sp : Sp} (T : Txt K mg A) (len : ∀ vs H Q E, sp vs H Q E → vs.length = 7)
    (hbody : ∀ (f : Addr) (cdv : Value) (B : Around) (outer : List Env) (s : Shared) (H : Hp) (vs : List V) (Q : VK) (E : XK), Room 0 (B.deeper (envOfC "Letter.__init__" (defScope s_Letter_init) s.heap.objs.size f cdv)) → sp vs H Q E →
      ∃ t, PSs (cxOf CX0 P w K mg base n_Letter_init "Letter.__init__" (defScope s_Letter_init) f cdv B outer s H E).nox (defBody s_Letter_init) t ∧ t { nx := fun _ H' => Q .non H', rt := Q } (start n_Letter_init vs) H) :
    MkG P w K mg base "Letter" A.c_Letter 1 ["self", "kind", "to", "sender", "operation", "cell", "enclosed"] sp := by
  obtain ⟨f, fd, F, hM, hg⟩ := T.f_Letter_init
  have b := F.binds (ps := ["self", "kind", "to", "sender", "operation", "cell", "enclosed"]) fun _ _ _ _ _ _ us hl => match us, hl with | [_, _, _, _, _, _, _], _ => rfl
  exact ⟨f, fd, hM, hg, b, F.ok sc_Letter_init len (fun cdv B outer s H vs Q E hr h => hbody f cdv B outer s H vs Q E hr h)⟩
theorem mk_Letter_in_numbers {sp : Sp} (T : Txt K mg A) (len : ∀ vs H Q E, sp vs H Q E → vs.length = 1)
    (hbody : ∀ (f : Addr) (cdv : Value) (B : Around) (outer : List Env) (s : Shared) (H : Hp) (vs : List V) (Q : VK) (E : XK), Room 0 (B.deeper (envOfC "Letter.in_numbers" (defScope s_Letter_in_numbers) s.heap.objs.size f cdv)) → sp vs H Q E →
      ∃ t, PSs (cxOf CX0 P w K mg base n_Letter_in_numbers "Letter.in_numbers" (defScope s_Letter_in_numbers) f cdv B outer s H E).nox (defBody s_Letter_in_numbers) t ∧ t { nx := fun _ H' => Q .non H', rt := Q } (start n_Letter_in_numbers vs) H) :
    MtG P w K mg base A.c_Letter "in_numbers" 1 ["self"] sp := by
  obtain ⟨f, fd, F, hM⟩ := T.f_Letter_in_numbers
  have b := F.binds (ps := ["self"]) fun _ _ _ _ _ _ us hl => match us, hl with | [_], _ => rfl
  exact ⟨f, fd, T.cl_Letter, hM, b, F.ok sc_Letter_in_numbers len (fun cdv B outer s H vs Q E hr h => hbody f cdv B outer s H vs Q E hr h)⟩
theorem mk_reply_to {sp : Sp} (T : Txt K mg A) (len : ∀ vs H Q E, sp vs H Q E → vs.length = 3)
    (hbody : ∀ (f : Addr) (cdv : Value) (B : Around) (outer : List Env) (s : Shared) (H : Hp) (vs : List V) (Q : VK) (E : XK), Room 2 (B.deeper (envOfC "reply_to" (defScope s_reply_to) s.heap.objs.size f cdv)) → sp vs H Q E →
      ∃ t, PSs (cxOf CX0 P w K mg base n_reply_to "reply_to" (defScope s_reply_to) f cdv B outer s H E).nox (defBody s_reply_to) t ∧ t { nx := fun _ H' => Q .non H', rt := Q } (start n_reply_to vs) H) :
    FnG P w K mg base "reply_to" 3 ["letter", "kind", "enclosed"] sp := by
  obtain ⟨f, fd, F, hM⟩ := T.f_reply_to
  have b := F.binds (ps := ["letter", "kind", "enclosed"]) fun _ _ _ _ _ _ us hl => match us, hl with | [_, _, _], _ => rfl
  exact ⟨f, fd, hM, F.kp, b, F.ok sc_reply_to len (fun cdv B outer s H vs Q E hr h => hbody f cdv B outer s H vs Q E hr h)⟩
theorem mk_Node_init {sp : Sp} (T : Txt K mg A) (len : ∀ vs H Q E, sp vs H Q E → vs.length = 2)
    (hbody : ∀ (f : Addr) (cdv : Value) (B : Around) (outer : List Env) (s : Shared) (H : Hp) (vs : List V) (Q : VK) (E : XK), Room 0 (B.deeper (envOfC "Node.__init__" (defScope s_Node_init) s.heap.objs.size f cdv)) → sp vs H Q E →
      ∃ t, PSs (cxOf CX0 P w K mg base n_Node_init "Node.__init__" (defScope s_Node_init) f cdv B outer s H E).nox (defBody s_Node_init) t ∧ t { nx := fun _ H' => Q .non H', rt := Q } (start n_Node_init vs) H) :
    MkG P w K mg base "Node" A.c_Node 1 ["self", "weight"] sp := by
  obtain ⟨f, fd, F, hM, hg⟩ := T.f_Node_init
  have b := F.binds (ps := ["self", "weight"]) fun _ _ _ _ _ _ us hl => match us, hl with | [_, _], _ => rfl
  exact ⟨f, fd, hM, hg, b, F.ok sc_Node_init len (fun cdv B outer s H vs Q E hr h => hbody f cdv B outer s H vs Q E hr h)⟩
theorem mk_Node_answer_to {sp : Sp} (T : Txt K mg A) (len : ∀ vs H Q E, sp vs H Q E → vs.length = 2)
    (hbody : ∀ (f : Addr) (cdv : Value) (B : Around) (outer : List Env) (s : Shared) (H : Hp) (vs : List V) (Q : VK) (E : XK), Room 3 (B.deeper (envOfC "Node.answer_to" (defScope s_Node_answer_to) s.heap.objs.size f cdv)) → sp vs H Q E →
      ∃ t, PSs (cxOf CX0 P w K mg base n_Node_answer_to "Node.answer_to" (defScope s_Node_answer_to) f cdv B outer s H E).nox (defBody s_Node_answer_to) t ∧ t { nx := fun _ H' => Q .non H', rt := Q } (start n_Node_answer_to vs) H) :
    MtG P w K mg base A.c_Node "answer_to" 4 ["self", "letter"] sp := by
  obtain ⟨f, fd, F, hM⟩ := T.f_Node_answer_to
  have b := F.binds (ps := ["self", "letter"]) fun _ _ _ _ _ _ us hl => match us, hl with | [_, _], _ => rfl
  exact ⟨f, fd, T.cl_Node, hM, b, F.ok sc_Node_answer_to len (fun cdv B outer s H vs Q E hr h => hbody f cdv B outer s H vs Q E hr h)⟩
theorem mk_Node_in_numbers {sp : Sp} (T : Txt K mg A) (len : ∀ vs H Q E, sp vs H Q E → vs.length = 1)
    (hbody : ∀ (f : Addr) (cdv : Value) (B : Around) (outer : List Env) (s : Shared) (H : Hp) (vs : List V) (Q : VK) (E : XK), Room 1 (B.deeper (envOfC "Node.in_numbers" (defScope s_Node_in_numbers) s.heap.objs.size f cdv)) → sp vs H Q E →
      ∃ t, PSs (cxOf CX0 P w K mg base n_Node_in_numbers "Node.in_numbers" (defScope s_Node_in_numbers) f cdv B outer s H E).nox (defBody s_Node_in_numbers) t ∧ t { nx := fun _ H' => Q .non H', rt := Q } (start n_Node_in_numbers vs) H) :
    MtG P w K mg base A.c_Node "in_numbers" 2 ["self"] sp := by
  obtain ⟨f, fd, F, hM⟩ := T.f_Node_in_numbers
  have b := F.binds (ps := ["self"]) fun _ _ _ _ _ _ us hl => match us, hl with | [_], _ => rfl
  exact ⟨f, fd, T.cl_Node, hM, b, F.ok sc_Node_in_numbers len (fun cdv B outer s H vs Q E hr h => hbody f cdv B outer s H vs Q E hr h)⟩
theorem mk_Operation_init {sp : Sp} (T : Txt K mg A) (len : ∀ vs H Q E, sp vs H Q E → vs.length = 7)
    (hbody : ∀ (f : Addr) (cdv : Value) (B : Around) (outer : List Env) (s : Shared) (H : Hp) (vs : List V) (Q : VK) (E : XK), Room 0 (B.deeper (envOfC "Operation.__init__" (defScope s_Operation_init) s.heap.objs.size f cdv)) → sp vs H Q E →
      ∃ t, PSs (cxOf CX0 P w K mg base n_Operation_init "Operation.__init__" (defScope s_Operation_init) f cdv B outer s H E).nox (defBody s_Operation_init) t ∧ t { nx := fun _ H' => Q .non H', rt := Q } (start n_Operation_init vs) H) :
    MkG P w K mg base "Operation" A.c_Operation 1 ["self", "client", "number", "cell", "writes", "value", "began"] sp := by
  obtain ⟨f, fd, F, hM, hg⟩ := T.f_Operation_init
  have b := F.binds (ps := ["self", "client", "number", "cell", "writes", "value", "began"]) fun _ _ _ _ _ _ us hl => match us, hl with | [_, _, _, _, _, _, _], _ => rfl
  exact ⟨f, fd, hM, hg, b, F.ok sc_Operation_init len (fun cdv B outer s H vs Q E hr h => hbody f cdv B outer s H vs Q E hr h)⟩
theorem mk_Operation_counted_nodes {sp : Sp} (T : Txt K mg A) (len : ∀ vs H Q E, sp vs H Q E → vs.length = 1)
    (hbody : ∀ (f : Addr) (cdv : Value) (B : Around) (outer : List Env) (s : Shared) (H : Hp) (vs : List V) (Q : VK) (E : XK), Room 0 (B.deeper (envOfC "Operation.counted_nodes" (defScope s_Operation_counted_nodes) s.heap.objs.size f cdv)) → sp vs H Q E →
      ∃ t, PSs (cxOf CX0 P w K mg base n_Operation_counted_nodes "Operation.counted_nodes" (defScope s_Operation_counted_nodes) f cdv B outer s H E).nox (defBody s_Operation_counted_nodes) t ∧ t { nx := fun _ H' => Q .non H', rt := Q } (start n_Operation_counted_nodes vs) H) :
    MtG P w K mg base A.c_Operation "counted_nodes" 1 ["self"] sp := by
  obtain ⟨f, fd, F, hM⟩ := T.f_Operation_counted_nodes
  have b := F.binds (ps := ["self"]) fun _ _ _ _ _ _ us hl => match us, hl with | [_], _ => rfl
  exact ⟨f, fd, T.cl_Operation, hM, b, F.ok sc_Operation_counted_nodes len (fun cdv B outer s H vs Q E hr h => hbody f cdv B outer s H vs Q E hr h)⟩
theorem mk_Operation_nodes_that_told {sp : Sp} (T : Txt K mg A) (len : ∀ vs H Q E, sp vs H Q E → vs.length = 2)
    (hbody : ∀ (f : Addr) (cdv : Value) (B : Around) (outer : List Env) (s : Shared) (H : Hp) (vs : List V) (Q : VK) (E : XK), Room 1 (B.deeper (envOfC "Operation.nodes_that_told" (defScope s_Operation_nodes_that_told) s.heap.objs.size f cdv)) → sp vs H Q E →
      ∃ t, PSs (cxOf CX0 P w K mg base n_Operation_nodes_that_told "Operation.nodes_that_told" (defScope s_Operation_nodes_that_told) f cdv B outer s H E).nox (defBody s_Operation_nodes_that_told) t ∧ t { nx := fun _ H' => Q .non H', rt := Q } (start n_Operation_nodes_that_told vs) H) :
    MtG P w K mg base A.c_Operation "nodes_that_told" 2 ["self", "copy"] sp := by
  obtain ⟨f, fd, F, hM⟩ := T.f_Operation_nodes_that_told
  have b := F.binds (ps := ["self", "copy"]) fun _ _ _ _ _ _ us hl => match us, hl with | [_, _], _ => rfl
  exact ⟨f, fd, T.cl_Operation, hM, b, F.ok sc_Operation_nodes_that_told len (fun cdv B outer s H vs Q E hr h => hbody f cdv B outer s H vs Q E hr h)⟩
theorem mk_Operation_letter_to {sp : Sp} (T : Txt K mg A) (len : ∀ vs H Q E, sp vs H Q E → vs.length = 2)
    (hbody : ∀ (f : Addr) (cdv : Value) (B : Around) (outer : List Env) (s : Shared) (H : Hp) (vs : List V) (Q : VK) (E : XK), Room 2 (B.deeper (envOfC "Operation.letter_to" (defScope s_Operation_letter_to) s.heap.objs.size f cdv)) → sp vs H Q E →
      ∃ t, PSs (cxOf CX0 P w K mg base n_Operation_letter_to "Operation.letter_to" (defScope s_Operation_letter_to) f cdv B outer s H E).nox (defBody s_Operation_letter_to) t ∧ t { nx := fun _ H' => Q .non H', rt := Q } (start n_Operation_letter_to vs) H) :
    MtG P w K mg base A.c_Operation "letter_to" 3 ["self", "node"] sp := by
  obtain ⟨f, fd, F, hM⟩ := T.f_Operation_letter_to
  have b := F.binds (ps := ["self", "node"]) fun _ _ _ _ _ _ us hl => match us, hl with | [_, _], _ => rfl
  exact ⟨f, fd, T.cl_Operation, hM, b, F.ok sc_Operation_letter_to len (fun cdv B outer s H vs Q E hr h => hbody f cdv B outer s H vs Q E hr h)⟩
theorem mk_Operation_progress_in_numbers {sp : Sp} (T : Txt K mg A) (len : ∀ vs H Q E, sp vs H Q E → vs.length = 1)
    (hbody : ∀ (f : Addr) (cdv : Value) (B : Around) (outer : List Env) (s : Shared) (H : Hp) (vs : List V) (Q : VK) (E : XK), Room 1 (B.deeper (envOfC "Operation.progress_in_numbers" (defScope s_Operation_progress_in_numbers) s.heap.objs.size f cdv)) → sp vs H Q E →
      ∃ t, PSs (cxOf CX0 P w K mg base n_Operation_progress_in_numbers "Operation.progress_in_numbers" (defScope s_Operation_progress_in_numbers) f cdv B outer s H E).nox (defBody s_Operation_progress_in_numbers) t ∧ t { nx := fun _ H' => Q .non H', rt := Q } (start n_Operation_progress_in_numbers vs) H) :
    MtG P w K mg base A.c_Operation "progress_in_numbers" 2 ["self"] sp := by
  obtain ⟨f, fd, F, hM⟩ := T.f_Operation_progress_in_numbers
  have b := F.binds (ps := ["self"]) fun _ _ _ _ _ _ us hl => match us, hl with | [_], _ => rfl
  exact ⟨f, fd, T.cl_Operation, hM, b, F.ok sc_Operation_progress_in_numbers len (fun cdv B outer s H vs Q E hr h => hbody f cdv B outer s H vs Q E hr h)⟩
theorem mk_Operation_record_in_numbers {sp : Sp} (T : Txt K mg A) (len : ∀ vs H Q E, sp vs H Q E → vs.length = 1)
    (hbody : ∀ (f : Addr) (cdv : Value) (B : Around) (outer : List Env) (s : Shared) (H : Hp) (vs : List V) (Q : VK) (E : XK), Room 1 (B.deeper (envOfC "Operation.record_in_numbers" (defScope s_Operation_record_in_numbers) s.heap.objs.size f cdv)) → sp vs H Q E →
      ∃ t, PSs (cxOf CX0 P w K mg base n_Operation_record_in_numbers "Operation.record_in_numbers" (defScope s_Operation_record_in_numbers) f cdv B outer s H E).nox (defBody s_Operation_record_in_numbers) t ∧ t { nx := fun _ H' => Q .non H', rt := Q } (start n_Operation_record_in_numbers vs) H) :
    MtG P w K mg base A.c_Operation "record_in_numbers" 2 ["self"] sp := by
  obtain ⟨f, fd, F, hM⟩ := T.f_Operation_record_in_numbers
  have b := F.binds (ps := ["self"]) fun _ _ _ _ _ _ us hl => match us, hl with | [_], _ => rfl
  exact ⟨f, fd, T.cl_Operation, hM, b, F.ok sc_Operation_record_in_numbers len (fun cdv B outer s H vs Q E hr h => hbody f cdv B outer s H vs Q E hr h)⟩
theorem mk_Client_init {sp : Sp} (T : Txt K mg A) (len : ∀ vs H Q E, sp vs H Q E → vs.length = 1)
    (hbody : ∀ (f : Addr) (cdv : Value) (B : Around) (outer : List Env) (s : Shared) (H : Hp) (vs : List V) (Q : VK) (E : XK), Room 0 (B.deeper (envOfC "Client.__init__" (defScope s_Client_init) s.heap.objs.size f cdv)) → sp vs H Q E →
      ∃ t, PSs (cxOf CX0 P w K mg base n_Client_init "Client.__init__" (defScope s_Client_init) f cdv B outer s H E).nox (defBody s_Client_init) t ∧ t { nx := fun _ H' => Q .non H', rt := Q } (start n_Client_init vs) H) :
    MkG P w K mg base "Client" A.c_Client 1 ["self"] sp := by
  obtain ⟨f, fd, F, hM, hg⟩ := T.f_Client_init
  have b := F.binds (ps := ["self"]) fun _ _ _ _ _ _ us hl => match us, hl with | [_], _ => rfl
  exact ⟨f, fd, hM, hg, b, F.ok sc_Client_init len (fun cdv B outer s H vs Q E hr h => hbody f cdv B outer s H vs Q E hr h)⟩
theorem mk_Client_is_at_work {sp : Sp} (T : Txt K mg A) (len : ∀ vs H Q E, sp vs H Q E → vs.length = 1)
    (hbody : ∀ (f : Addr) (cdv : Value) (B : Around) (outer : List Env) (s : Shared) (H : Hp) (vs : List V) (Q : VK) (E : XK), Room 0 (B.deeper (envOfC "Client.is_at_work" (defScope s_Client_is_at_work) s.heap.objs.size f cdv)) → sp vs H Q E →
      ∃ t, PSs (cxOf CX0 P w K mg base n_Client_is_at_work "Client.is_at_work" (defScope s_Client_is_at_work) f cdv B outer s H E).nox (defBody s_Client_is_at_work) t ∧ t { nx := fun _ H' => Q .non H', rt := Q } (start n_Client_is_at_work vs) H) :
    MtG P w K mg base A.c_Client "is_at_work" 1 ["self"] sp := by
  obtain ⟨f, fd, F, hM⟩ := T.f_Client_is_at_work
  have b := F.binds (ps := ["self"]) fun _ _ _ _ _ _ us hl => match us, hl with | [_], _ => rfl
  exact ⟨f, fd, T.cl_Client, hM, b, F.ok sc_Client_is_at_work len (fun cdv B outer s H vs Q E hr h => hbody f cdv B outer s H vs Q E hr h)⟩
theorem mk_Client_is_free {sp : Sp} (T : Txt K mg A) (len : ∀ vs H Q E, sp vs H Q E → vs.length = 1)
    (hbody : ∀ (f : Addr) (cdv : Value) (B : Around) (outer : List Env) (s : Shared) (H : Hp) (vs : List V) (Q : VK) (E : XK), Room 0 (B.deeper (envOfC "Client.is_free" (defScope s_Client_is_free) s.heap.objs.size f cdv)) → sp vs H Q E →
      ∃ t, PSs (cxOf CX0 P w K mg base n_Client_is_free "Client.is_free" (defScope s_Client_is_free) f cdv B outer s H E).nox (defBody s_Client_is_free) t ∧ t { nx := fun _ H' => Q .non H', rt := Q } (start n_Client_is_free vs) H) :
    MtG P w K mg base A.c_Client "is_free" 1 ["self"] sp := by
  obtain ⟨f, fd, F, hM⟩ := T.f_Client_is_free
  have b := F.binds (ps := ["self"]) fun _ _ _ _ _ _ us hl => match us, hl with | [_], _ => rfl
  exact ⟨f, fd, T.cl_Client, hM, b, F.ok sc_Client_is_free len (fun cdv B outer s H vs Q E hr h => hbody f cdv B outer s H vs Q E hr h)⟩
theorem mk_Client_in_numbers {sp : Sp} (T : Txt K mg A) (len : ∀ vs H Q E, sp vs H Q E → vs.length = 1)
    (hbody : ∀ (f : Addr) (cdv : Value) (B : Around) (outer : List Env) (s : Shared) (H : Hp) (vs : List V) (Q : VK) (E : XK), Room 2 (B.deeper (envOfC "Client.in_numbers" (defScope s_Client_in_numbers) s.heap.objs.size f cdv)) → sp vs H Q E →
      ∃ t, PSs (cxOf CX0 P w K mg base n_Client_in_numbers "Client.in_numbers" (defScope s_Client_in_numbers) f cdv B outer s H E).nox (defBody s_Client_in_numbers) t ∧ t { nx := fun _ H' => Q .non H', rt := Q } (start n_Client_in_numbers vs) H) :
    MtG P w K mg base A.c_Client "in_numbers" 3 ["self"] sp := by
  obtain ⟨f, fd, F, hM⟩ := T.f_Client_in_numbers
  have b := F.binds (ps := ["self"]) fun _ _ _ _ _ _ us hl => match us, hl with | [_], _ => rfl
  exact ⟨f, fd, T.cl_Client, hM, b, F.ok sc_Client_in_numbers len (fun cdv B outer s H vs Q E hr h => hbody f cdv B outer s H vs Q E hr h)⟩
theorem mk_World_init {sp : Sp} (T : Txt K mg A) (len : ∀ vs H Q E, sp vs H Q E → vs.length = 2)
    (hbody : ∀ (f : Addr) (cdv : Value) (B : Around) (outer : List Env) (s : Shared) (H : Hp) (vs : List V) (Q : VK) (E : XK), Room 2 (B.deeper (envOfC "World.__init__" (defScope s_World_init) s.heap.objs.size f cdv)) → sp vs H Q E →
      ∃ t, PSs (cxOf CX0 P w K mg base n_World_init "World.__init__" (defScope s_World_init) f cdv B outer s H E).nox (defBody s_World_init) t ∧ t { nx := fun _ H' => Q .non H', rt := Q } (start n_World_init vs) H) :
    MkG P w K mg base "World" A.c_World 3 ["self", "weights"] sp := by
  obtain ⟨f, fd, F, hM, hg⟩ := T.f_World_init
  have b := F.binds (ps := ["self", "weights"]) fun _ _ _ _ _ _ us hl => match us, hl with | [_, _], _ => rfl
  exact ⟨f, fd, hM, hg, b, F.ok sc_World_init len (fun cdv B outer s H vs Q E hr h => hbody f cdv B outer s H vs Q E hr h)⟩
theorem mk_World_is_most {sp : Sp} (T : Txt K mg A) (len : ∀ vs H Q E, sp vs H Q E → vs.length = 2)
    (hbody : ∀ (f : Addr) (cdv : Value) (B : Around) (outer : List Env) (s : Shared) (H : Hp) (vs : List V) (Q : VK) (E : XK), Room 0 (B.deeper (envOfC "World.is_most" (defScope s_World_is_most) s.heap.objs.size f cdv)) → sp vs H Q E →
      ∃ t, PSs (cxOf CX0 P w K mg base n_World_is_most "World.is_most" (defScope s_World_is_most) f cdv B outer s H E).nox (defBody s_World_is_most) t ∧ t { nx := fun _ H' => Q .non H', rt := Q } (start n_World_is_most vs) H) :
    MtG P w K mg base A.c_World "is_most" 1 ["self", "numbers"] sp := by
  obtain ⟨f, fd, F, hM⟩ := T.f_World_is_most
  have b := F.binds (ps := ["self", "numbers"]) fun _ _ _ _ _ _ us hl => match us, hl with | [_, _], _ => rfl
  exact ⟨f, fd, T.cl_World, hM, b, F.ok sc_World_is_most len (fun cdv B outer s H vs Q E hr h => hbody f cdv B outer s H vs Q E hr h)⟩
theorem mk_World_next_event {sp : Sp} (T : Txt K mg A) (len : ∀ vs H Q E, sp vs H Q E → vs.length = 1)
    (hbody : ∀ (f : Addr) (cdv : Value) (B : Around) (outer : List Env) (s : Shared) (H : Hp) (vs : List V) (Q : VK) (E : XK), Room 0 (B.deeper (envOfC "World.next_event" (defScope s_World_next_event) s.heap.objs.size f cdv)) → sp vs H Q E →
      ∃ t, PSs (cxOf CX0 P w K mg base n_World_next_event "World.next_event" (defScope s_World_next_event) f cdv B outer s H E).nox (defBody s_World_next_event) t ∧ t { nx := fun _ H' => Q .non H', rt := Q } (start n_World_next_event vs) H) :
    MtG P w K mg base A.c_World "next_event" 1 ["self"] sp := by
  obtain ⟨f, fd, F, hM⟩ := T.f_World_next_event
  have b := F.binds (ps := ["self"]) fun _ _ _ _ _ _ us hl => match us, hl with | [_], _ => rfl
  exact ⟨f, fd, T.cl_World, hM, b, F.ok sc_World_next_event len (fun cdv B outer s H vs Q E hr h => hbody f cdv B outer s H vs Q E hr h)⟩
theorem mk_World_send {sp : Sp} (T : Txt K mg A) (len : ∀ vs H Q E, sp vs H Q E → vs.length = 2)
    (hbody : ∀ (f : Addr) (cdv : Value) (B : Around) (outer : List Env) (s : Shared) (H : Hp) (vs : List V) (Q : VK) (E : XK), Room 0 (B.deeper (envOfC "World.send" (defScope s_World_send) s.heap.objs.size f cdv)) → sp vs H Q E →
      ∃ t, PSs (cxOf CX0 P w K mg base n_World_send "World.send" (defScope s_World_send) f cdv B outer s H E).nox (defBody s_World_send) t ∧ t { nx := fun _ H' => Q .non H', rt := Q } (start n_World_send vs) H) :
    MtG P w K mg base A.c_World "send" 1 ["self", "letter"] sp := by
  obtain ⟨f, fd, F, hM⟩ := T.f_World_send
  have b := F.binds (ps := ["self", "letter"]) fun _ _ _ _ _ _ us hl => match us, hl with | [_, _], _ => rfl
  exact ⟨f, fd, T.cl_World, hM, b, F.ok sc_World_send len (fun cdv B outer s H vs Q E hr h => hbody f cdv B outer s H vs Q E hr h)⟩
theorem mk_World_send_to_missing {sp : Sp} (T : Txt K mg A) (len : ∀ vs H Q E, sp vs H Q E → vs.length = 2)
    (hbody : ∀ (f : Addr) (cdv : Value) (B : Around) (outer : List Env) (s : Shared) (H : Hp) (vs : List V) (Q : VK) (E : XK), Room 3 (B.deeper (envOfC "World.send_to_missing" (defScope s_World_send_to_missing) s.heap.objs.size f cdv)) → sp vs H Q E →
      ∃ t, PSs (cxOf CX0 P w K mg base n_World_send_to_missing "World.send_to_missing" (defScope s_World_send_to_missing) f cdv B outer s H E).nox (defBody s_World_send_to_missing) t ∧ t { nx := fun _ H' => Q .non H', rt := Q } (start n_World_send_to_missing vs) H) :
    MtG P w K mg base A.c_World "send_to_missing" 4 ["self", "operation"] sp := by
  obtain ⟨f, fd, F, hM⟩ := T.f_World_send_to_missing
  have b := F.binds (ps := ["self", "operation"]) fun _ _ _ _ _ _ us hl => match us, hl with | [_, _], _ => rfl
  exact ⟨f, fd, T.cl_World, hM, b, F.ok sc_World_send_to_missing len (fun cdv B outer s H vs Q E hr h => hbody f cdv B outer s H vs Q E hr h)⟩
theorem mk_World_begin_operation {sp : Sp} (T : Txt K mg A) (len : ∀ vs H Q E, sp vs H Q E → vs.length = 5)
    (hbody : ∀ (f : Addr) (cdv : Value) (B : Around) (outer : List Env) (s : Shared) (H : Hp) (vs : List V) (Q : VK) (E : XK), Room 4 (B.deeper (envOfC "World.begin_operation" (defScope s_World_begin_operation) s.heap.objs.size f cdv)) → sp vs H Q E →
      ∃ t, PSs (cxOf CX0 P w K mg base n_World_begin_operation "World.begin_operation" (defScope s_World_begin_operation) f cdv B outer s H E).nox (defBody s_World_begin_operation) t ∧ t { nx := fun _ H' => Q .non H', rt := Q } (start n_World_begin_operation vs) H) :
    MtG P w K mg base A.c_World "begin_operation" 5 ["self", "number", "cell", "writes", "value"] sp := by
  obtain ⟨f, fd, F, hM⟩ := T.f_World_begin_operation
  have b := F.binds (ps := ["self", "number", "cell", "writes", "value"]) fun _ _ _ _ _ _ us hl => match us, hl with | [_, _, _, _, _], _ => rfl
  exact ⟨f, fd, T.cl_World, hM, b, F.ok sc_World_begin_operation len (fun cdv B outer s H vs Q E hr h => hbody f cdv B outer s H vs Q E hr h)⟩
theorem mk_World_read {sp : Sp} (T : Txt K mg A) (len : ∀ vs H Q E, sp vs H Q E → vs.length = 3)
    (hbody : ∀ (f : Addr) (cdv : Value) (B : Around) (outer : List Env) (s : Shared) (H : Hp) (vs : List V) (Q : VK) (E : XK), Room 5 (B.deeper (envOfC "World.read" (defScope s_World_read) s.heap.objs.size f cdv)) → sp vs H Q E →
      ∃ t, PSs (cxOf CX0 P w K mg base n_World_read "World.read" (defScope s_World_read) f cdv B outer s H E).nox (defBody s_World_read) t ∧ t { nx := fun _ H' => Q .non H', rt := Q } (start n_World_read vs) H) :
    MtG P w K mg base A.c_World "read" 6 ["self", "client", "cell"] sp := by
  obtain ⟨f, fd, F, hM⟩ := T.f_World_read
  have b := F.binds (ps := ["self", "client", "cell"]) fun _ _ _ _ _ _ us hl => match us, hl with | [_, _, _], _ => rfl
  exact ⟨f, fd, T.cl_World, hM, b, F.ok sc_World_read len (fun cdv B outer s H vs Q E hr h => hbody f cdv B outer s H vs Q E hr h)⟩
theorem mk_World_write {sp : Sp} (T : Txt K mg A) (len : ∀ vs H Q E, sp vs H Q E → vs.length = 4)
    (hbody : ∀ (f : Addr) (cdv : Value) (B : Around) (outer : List Env) (s : Shared) (H : Hp) (vs : List V) (Q : VK) (E : XK), Room 5 (B.deeper (envOfC "World.write" (defScope s_World_write) s.heap.objs.size f cdv)) → sp vs H Q E →
      ∃ t, PSs (cxOf CX0 P w K mg base n_World_write "World.write" (defScope s_World_write) f cdv B outer s H E).nox (defBody s_World_write) t ∧ t { nx := fun _ H' => Q .non H', rt := Q } (start n_World_write vs) H) :
    MtG P w K mg base A.c_World "write" 6 ["self", "client", "cell", "value"] sp := by
  obtain ⟨f, fd, F, hM⟩ := T.f_World_write
  have b := F.binds (ps := ["self", "client", "cell", "value"]) fun _ _ _ _ _ _ us hl => match us, hl with | [_, _, _, _], _ => rfl
  exact ⟨f, fd, T.cl_World, hM, b, F.ok sc_World_write len (fun cdv B outer s H vs Q E hr h => hbody f cdv B outer s H vs Q E hr h)⟩
theorem mk_World_take {sp : Sp} (T : Txt K mg A) (len : ∀ vs H Q E, sp vs H Q E → vs.length = 2)
    (hbody : ∀ (f : Addr) (cdv : Value) (B : Around) (outer : List Env) (s : Shared) (H : Hp) (vs : List V) (Q : VK) (E : XK), Room 8 (B.deeper (envOfC "World.take" (defScope s_World_take) s.heap.objs.size f cdv)) → sp vs H Q E →
      ∃ t, PSs (cxOf CX0 P w K mg base n_World_take "World.take" (defScope s_World_take) f cdv B outer s H E).nox (defBody s_World_take) t ∧ t { nx := fun _ H' => Q .non H', rt := Q } (start n_World_take vs) H) :
    MtG P w K mg base A.c_World "take" 9 ["self", "place"] sp := by
  obtain ⟨f, fd, F, hM⟩ := T.f_World_take
  have b := F.binds (ps := ["self", "place"]) fun _ _ _ _ _ _ us hl => match us, hl with | [_, _], _ => rfl
  exact ⟨f, fd, T.cl_World, hM, b, F.ok sc_World_take len (fun cdv B outer s H vs Q E hr h => hbody f cdv B outer s H vs Q E hr h)⟩
theorem mk_World_again {sp : Sp} (T : Txt K mg A) (len : ∀ vs H Q E, sp vs H Q E → vs.length = 2)
    (hbody : ∀ (f : Addr) (cdv : Value) (B : Around) (outer : List Env) (s : Shared) (H : Hp) (vs : List V) (Q : VK) (E : XK), Room 8 (B.deeper (envOfC "World.again" (defScope s_World_again) s.heap.objs.size f cdv)) → sp vs H Q E →
      ∃ t, PSs (cxOf CX0 P w K mg base n_World_again "World.again" (defScope s_World_again) f cdv B outer s H E).nox (defBody s_World_again) t ∧ t { nx := fun _ H' => Q .non H', rt := Q } (start n_World_again vs) H) :
    MtG P w K mg base A.c_World "again" 9 ["self", "place"] sp := by
  obtain ⟨f, fd, F, hM⟩ := T.f_World_again
  have b := F.binds (ps := ["self", "place"]) fun _ _ _ _ _ _ us hl => match us, hl with | [_, _], _ => rfl
  exact ⟨f, fd, T.cl_World, hM, b, F.ok sc_World_again len (fun cdv B outer s H vs Q E hr h => hbody f cdv B outer s H vs Q E hr h)⟩
theorem mk_World_lose {sp : Sp} (T : Txt K mg A) (len : ∀ vs H Q E, sp vs H Q E → vs.length = 2)
    (hbody : ∀ (f : Addr) (cdv : Value) (B : Around) (outer : List Env) (s : Shared) (H : Hp) (vs : List V) (Q : VK) (E : XK), Room 0 (B.deeper (envOfC "World.lose" (defScope s_World_lose) s.heap.objs.size f cdv)) → sp vs H Q E →
      ∃ t, PSs (cxOf CX0 P w K mg base n_World_lose "World.lose" (defScope s_World_lose) f cdv B outer s H E).nox (defBody s_World_lose) t ∧ t { nx := fun _ H' => Q .non H', rt := Q } (start n_World_lose vs) H) :
    MtG P w K mg base A.c_World "lose" 1 ["self", "place"] sp := by
  obtain ⟨f, fd, F, hM⟩ := T.f_World_lose
  have b := F.binds (ps := ["self", "place"]) fun _ _ _ _ _ _ us hl => match us, hl with | [_, _], _ => rfl
  exact ⟨f, fd, T.cl_World, hM, b, F.ok sc_World_lose len (fun cdv B outer s H vs Q E hr h => hbody f cdv B outer s H vs Q E hr h)⟩
theorem mk_World_nudge {sp : Sp} (T : Txt K mg A) (len : ∀ vs H Q E, sp vs H Q E → vs.length = 2)
    (hbody : ∀ (f : Addr) (cdv : Value) (B : Around) (outer : List Env) (s : Shared) (H : Hp) (vs : List V) (Q : VK) (E : XK), Room 4 (B.deeper (envOfC "World.nudge" (defScope s_World_nudge) s.heap.objs.size f cdv)) → sp vs H Q E →
      ∃ t, PSs (cxOf CX0 P w K mg base n_World_nudge "World.nudge" (defScope s_World_nudge) f cdv B outer s H E).nox (defBody s_World_nudge) t ∧ t { nx := fun _ H' => Q .non H', rt := Q } (start n_World_nudge vs) H) :
    MtG P w K mg base A.c_World "nudge" 5 ["self", "number"] sp := by
  obtain ⟨f, fd, F, hM⟩ := T.f_World_nudge
  have b := F.binds (ps := ["self", "number"]) fun _ _ _ _ _ _ us hl => match us, hl with | [_, _], _ => rfl
  exact ⟨f, fd, T.cl_World, hM, b, F.ok sc_World_nudge len (fun cdv B outer s H vs Q E hr h => hbody f cdv B outer s H vs Q E hr h)⟩
theorem mk_World_leave {sp : Sp} (T : Txt K mg A) (len : ∀ vs H Q E, sp vs H Q E → vs.length = 2)
    (hbody : ∀ (f : Addr) (cdv : Value) (B : Around) (outer : List Env) (s : Shared) (H : Hp) (vs : List V) (Q : VK) (E : XK), Room 0 (B.deeper (envOfC "World.leave" (defScope s_World_leave) s.heap.objs.size f cdv)) → sp vs H Q E →
      ∃ t, PSs (cxOf CX0 P w K mg base n_World_leave "World.leave" (defScope s_World_leave) f cdv B outer s H E).nox (defBody s_World_leave) t ∧ t { nx := fun _ H' => Q .non H', rt := Q } (start n_World_leave vs) H) :
    MtG P w K mg base A.c_World "leave" 1 ["self", "number"] sp := by
  obtain ⟨f, fd, F, hM⟩ := T.f_World_leave
  have b := F.binds (ps := ["self", "number"]) fun _ _ _ _ _ _ us hl => match us, hl with | [_, _], _ => rfl
  exact ⟨f, fd, T.cl_World, hM, b, F.ok sc_World_leave len (fun cdv B outer s H vs Q E hr h => hbody f cdv B outer s H vs Q E hr h)⟩
theorem mk_World_stop_node {sp : Sp} (T : Txt K mg A) (len : ∀ vs H Q E, sp vs H Q E → vs.length = 2)
    (hbody : ∀ (f : Addr) (cdv : Value) (B : Around) (outer : List Env) (s : Shared) (H : Hp) (vs : List V) (Q : VK) (E : XK), Room 1 (B.deeper (envOfC "World.stop_node" (defScope s_World_stop_node) s.heap.objs.size f cdv)) → sp vs H Q E →
      ∃ t, PSs (cxOf CX0 P w K mg base n_World_stop_node "World.stop_node" (defScope s_World_stop_node) f cdv B outer s H E).nox (defBody s_World_stop_node) t ∧ t { nx := fun _ H' => Q .non H', rt := Q } (start n_World_stop_node vs) H) :
    MtG P w K mg base A.c_World "stop_node" 2 ["self", "number"] sp := by
  obtain ⟨f, fd, F, hM⟩ := T.f_World_stop_node
  have b := F.binds (ps := ["self", "number"]) fun _ _ _ _ _ _ us hl => match us, hl with | [_, _], _ => rfl
  exact ⟨f, fd, T.cl_World, hM, b, F.ok sc_World_stop_node len (fun cdv B outer s H vs Q E hr h => hbody f cdv B outer s H vs Q E hr h)⟩
theorem mk_World_start_node {sp : Sp} (T : Txt K mg A) (len : ∀ vs H Q E, sp vs H Q E → vs.length = 2)
    (hbody : ∀ (f : Addr) (cdv : Value) (B : Around) (outer : List Env) (s : Shared) (H : Hp) (vs : List V) (Q : VK) (E : XK), Room 1 (B.deeper (envOfC "World.start_node" (defScope s_World_start_node) s.heap.objs.size f cdv)) → sp vs H Q E →
      ∃ t, PSs (cxOf CX0 P w K mg base n_World_start_node "World.start_node" (defScope s_World_start_node) f cdv B outer s H E).nox (defBody s_World_start_node) t ∧ t { nx := fun _ H' => Q .non H', rt := Q } (start n_World_start_node vs) H) :
    MtG P w K mg base A.c_World "start_node" 2 ["self", "number"] sp := by
  obtain ⟨f, fd, F, hM⟩ := T.f_World_start_node
  have b := F.binds (ps := ["self", "number"]) fun _ _ _ _ _ _ us hl => match us, hl with | [_, _], _ => rfl
  exact ⟨f, fd, T.cl_World, hM, b, F.ok sc_World_start_node len (fun cdv B outer s H vs Q E hr h => hbody f cdv B outer s H vs Q E hr h)⟩
theorem mk_World_set_running {sp : Sp} (T : Txt K mg A) (len : ∀ vs H Q E, sp vs H Q E → vs.length = 3)
    (hbody : ∀ (f : Addr) (cdv : Value) (B : Around) (outer : List Env) (s : Shared) (H : Hp) (vs : List V) (Q : VK) (E : XK), Room 0 (B.deeper (envOfC "World.set_running" (defScope s_World_set_running) s.heap.objs.size f cdv)) → sp vs H Q E →
      ∃ t, PSs (cxOf CX0 P w K mg base n_World_set_running "World.set_running" (defScope s_World_set_running) f cdv B outer s H E).nox (defBody s_World_set_running) t ∧ t { nx := fun _ H' => Q .non H', rt := Q } (start n_World_set_running vs) H) :
    MtG P w K mg base A.c_World "set_running" 1 ["self", "number", "runs"] sp := by
  obtain ⟨f, fd, F, hM⟩ := T.f_World_set_running
  have b := F.binds (ps := ["self", "number", "runs"]) fun _ _ _ _ _ _ us hl => match us, hl with | [_, _, _], _ => rfl
  exact ⟨f, fd, T.cl_World, hM, b, F.ok sc_World_set_running len (fun cdv B outer s H vs Q E hr h => hbody f cdv B outer s H vs Q E hr h)⟩
theorem mk_World_tell_letters {sp : Sp} (T : Txt K mg A) (len : ∀ vs H Q E, sp vs H Q E → vs.length = 1)
    (hbody : ∀ (f : Addr) (cdv : Value) (B : Around) (outer : List Env) (s : Shared) (H : Hp) (vs : List V) (Q : VK) (E : XK), Room 1 (B.deeper (envOfC "World.tell_letters" (defScope s_World_tell_letters) s.heap.objs.size f cdv)) → sp vs H Q E →
      ∃ t, PSs (cxOf CX0 P w K mg base n_World_tell_letters "World.tell_letters" (defScope s_World_tell_letters) f cdv B outer s H E).nox (defBody s_World_tell_letters) t ∧ t { nx := fun _ H' => Q .non H', rt := Q } (start n_World_tell_letters vs) H) :
    MtG P w K mg base A.c_World "tell_letters" 2 ["self"] sp := by
  obtain ⟨f, fd, F, hM⟩ := T.f_World_tell_letters
  have b := F.binds (ps := ["self"]) fun _ _ _ _ _ _ us hl => match us, hl with | [_], _ => rfl
  exact ⟨f, fd, T.cl_World, hM, b, F.ok sc_World_tell_letters len (fun cdv B outer s H vs Q E hr h => hbody f cdv B outer s H vs Q E hr h)⟩
theorem mk_World_tell_node {sp : Sp} (T : Txt K mg A) (len : ∀ vs H Q E, sp vs H Q E → vs.length = 2)
    (hbody : ∀ (f : Addr) (cdv : Value) (B : Around) (outer : List Env) (s : Shared) (H : Hp) (vs : List V) (Q : VK) (E : XK), Room 2 (B.deeper (envOfC "World.tell_node" (defScope s_World_tell_node) s.heap.objs.size f cdv)) → sp vs H Q E →
      ∃ t, PSs (cxOf CX0 P w K mg base n_World_tell_node "World.tell_node" (defScope s_World_tell_node) f cdv B outer s H E).nox (defBody s_World_tell_node) t ∧ t { nx := fun _ H' => Q .non H', rt := Q } (start n_World_tell_node vs) H) :
    MtG P w K mg base A.c_World "tell_node" 3 ["self", "number"] sp := by
  obtain ⟨f, fd, F, hM⟩ := T.f_World_tell_node
  have b := F.binds (ps := ["self", "number"]) fun _ _ _ _ _ _ us hl => match us, hl with | [_, _], _ => rfl
  exact ⟨f, fd, T.cl_World, hM, b, F.ok sc_World_tell_node len (fun cdv B outer s H vs Q E hr h => hbody f cdv B outer s H vs Q E hr h)⟩
theorem mk_World_tell_client {sp : Sp} (T : Txt K mg A) (len : ∀ vs H Q E, sp vs H Q E → vs.length = 2)
    (hbody : ∀ (f : Addr) (cdv : Value) (B : Around) (outer : List Env) (s : Shared) (H : Hp) (vs : List V) (Q : VK) (E : XK), Room 3 (B.deeper (envOfC "World.tell_client" (defScope s_World_tell_client) s.heap.objs.size f cdv)) → sp vs H Q E →
      ∃ t, PSs (cxOf CX0 P w K mg base n_World_tell_client "World.tell_client" (defScope s_World_tell_client) f cdv B outer s H E).nox (defBody s_World_tell_client) t ∧ t { nx := fun _ H' => Q .non H', rt := Q } (start n_World_tell_client vs) H) :
    MtG P w K mg base A.c_World "tell_client" 4 ["self", "number"] sp := by
  obtain ⟨f, fd, F, hM⟩ := T.f_World_tell_client
  have b := F.binds (ps := ["self", "number"]) fun _ _ _ _ _ _ us hl => match us, hl with | [_, _], _ => rfl
  exact ⟨f, fd, T.cl_World, hM, b, F.ok sc_World_tell_client len (fun cdv B outer s H vs Q E hr h => hbody f cdv B outer s H vs Q E hr h)⟩
theorem mk_World_tell_record {sp : Sp} (T : Txt K mg A) (len : ∀ vs H Q E, sp vs H Q E → vs.length = 1)
    (hbody : ∀ (f : Addr) (cdv : Value) (B : Around) (outer : List Env) (s : Shared) (H : Hp) (vs : List V) (Q : VK) (E : XK), Room 2 (B.deeper (envOfC "World.tell_record" (defScope s_World_tell_record) s.heap.objs.size f cdv)) → sp vs H Q E →
      ∃ t, PSs (cxOf CX0 P w K mg base n_World_tell_record "World.tell_record" (defScope s_World_tell_record) f cdv B outer s H E).nox (defBody s_World_tell_record) t ∧ t { nx := fun _ H' => Q .non H', rt := Q } (start n_World_tell_record vs) H) :
    MtG P w K mg base A.c_World "tell_record" 3 ["self"] sp := by
  obtain ⟨f, fd, F, hM⟩ := T.f_World_tell_record
  have b := F.binds (ps := ["self"]) fun _ _ _ _ _ _ us hl => match us, hl with | [_], _ => rfl
  exact ⟨f, fd, T.cl_World, hM, b, F.ok sc_World_tell_record len (fun cdv B outer s H vs Q E hr h => hbody f cdv B outer s H vs Q E hr h)⟩
theorem mk_World_hand_over {sp : Sp} (T : Txt K mg A) (len : ∀ vs H Q E, sp vs H Q E → vs.length = 2)
    (hbody : ∀ (f : Addr) (cdv : Value) (B : Around) (outer : List Env) (s : Shared) (H : Hp) (vs : List V) (Q : VK) (E : XK), Room 7 (B.deeper (envOfC "World.hand_over" (defScope s_World_hand_over) s.heap.objs.size f cdv)) → sp vs H Q E →
      ∃ t, PSs (cxOf CX0 P w K mg base n_World_hand_over "World.hand_over" (defScope s_World_hand_over) f cdv B outer s H E).nox (defBody s_World_hand_over) t ∧ t { nx := fun _ H' => Q .non H', rt := Q } (start n_World_hand_over vs) H) :
    MtG P w K mg base A.c_World "hand_over" 8 ["self", "letter"] sp := by
  obtain ⟨f, fd, F, hM⟩ := T.f_World_hand_over
  have b := F.binds (ps := ["self", "letter"]) fun _ _ _ _ _ _ us hl => match us, hl with | [_, _], _ => rfl
  exact ⟨f, fd, T.cl_World, hM, b, F.ok sc_World_hand_over len (fun cdv B outer s H vs Q E hr h => hbody f cdv B outer s H vs Q E hr h)⟩
theorem mk_World_hand_to_node {sp : Sp} (T : Txt K mg A) (len : ∀ vs H Q E, sp vs H Q E → vs.length = 2)
    (hbody : ∀ (f : Addr) (cdv : Value) (B : Around) (outer : List Env) (s : Shared) (H : Hp) (vs : List V) (Q : VK) (E : XK), Room 4 (B.deeper (envOfC "World.hand_to_node" (defScope s_World_hand_to_node) s.heap.objs.size f cdv)) → sp vs H Q E →
      ∃ t, PSs (cxOf CX0 P w K mg base n_World_hand_to_node "World.hand_to_node" (defScope s_World_hand_to_node) f cdv B outer s H E).nox (defBody s_World_hand_to_node) t ∧ t { nx := fun _ H' => Q .non H', rt := Q } (start n_World_hand_to_node vs) H) :
    MtG P w K mg base A.c_World "hand_to_node" 5 ["self", "letter"] sp := by
  obtain ⟨f, fd, F, hM⟩ := T.f_World_hand_to_node
  have b := F.binds (ps := ["self", "letter"]) fun _ _ _ _ _ _ us hl => match us, hl with | [_, _], _ => rfl
  exact ⟨f, fd, T.cl_World, hM, b, F.ok sc_World_hand_to_node len (fun cdv B outer s H vs Q E hr h => hbody f cdv B outer s H vs Q E hr h)⟩
theorem mk_World_hand_to_client {sp : Sp} (T : Txt K mg A) (len : ∀ vs H Q E, sp vs H Q E → vs.length = 2)
    (hbody : ∀ (f : Addr) (cdv : Value) (B : Around) (outer : List Env) (s : Shared) (H : Hp) (vs : List V) (Q : VK) (E : XK), Room 6 (B.deeper (envOfC "World.hand_to_client" (defScope s_World_hand_to_client) s.heap.objs.size f cdv)) → sp vs H Q E →
      ∃ t, PSs (cxOf CX0 P w K mg base n_World_hand_to_client "World.hand_to_client" (defScope s_World_hand_to_client) f cdv B outer s H E).nox (defBody s_World_hand_to_client) t ∧ t { nx := fun _ H' => Q .non H', rt := Q } (start n_World_hand_to_client vs) H) :
    MtG P w K mg base A.c_World "hand_to_client" 7 ["self", "letter"] sp := by
  obtain ⟨f, fd, F, hM⟩ := T.f_World_hand_to_client
  have b := F.binds (ps := ["self", "letter"]) fun _ _ _ _ _ _ us hl => match us, hl with | [_, _], _ => rfl
  exact ⟨f, fd, T.cl_World, hM, b, F.ok sc_World_hand_to_client len (fun cdv B outer s H vs Q E hr h => hbody f cdv B outer s H vs Q E hr h)⟩
theorem mk_World_hear {sp : Sp} (T : Txt K mg A) (len : ∀ vs H Q E, sp vs H Q E → vs.length = 3)
    (hbody : ∀ (f : Addr) (cdv : Value) (B : Around) (outer : List Env) (s : Shared) (H : Hp) (vs : List V) (Q : VK) (E : XK), Room 5 (B.deeper (envOfC "World.hear" (defScope s_World_hear) s.heap.objs.size f cdv)) → sp vs H Q E →
      ∃ t, PSs (cxOf CX0 P w K mg base n_World_hear "World.hear" (defScope s_World_hear) f cdv B outer s H E).nox (defBody s_World_hear) t ∧ t { nx := fun _ H' => Q .non H', rt := Q } (start n_World_hear vs) H) :
    MtG P w K mg base A.c_World "hear" 6 ["self", "operation", "letter"] sp := by
  obtain ⟨f, fd, F, hM⟩ := T.f_World_hear
  have b := F.binds (ps := ["self", "operation", "letter"]) fun _ _ _ _ _ _ us hl => match us, hl with | [_, _, _], _ => rfl
  exact ⟨f, fd, T.cl_World, hM, b, F.ok sc_World_hear len (fun cdv B outer s H vs Q E hr h => hbody f cdv B outer s H vs Q E hr h)⟩
theorem mk_World_have_kept {sp : Sp} (T : Txt K mg A) (len : ∀ vs H Q E, sp vs H Q E → vs.length = 3)
    (hbody : ∀ (f : Addr) (cdv : Value) (B : Around) (outer : List Env) (s : Shared) (H : Hp) (vs : List V) (Q : VK) (E : XK), Room 4 (B.deeper (envOfC "World.have_kept" (defScope s_World_have_kept) s.heap.objs.size f cdv)) → sp vs H Q E →
      ∃ t, PSs (cxOf CX0 P w K mg base n_World_have_kept "World.have_kept" (defScope s_World_have_kept) f cdv B outer s H E).nox (defBody s_World_have_kept) t ∧ t { nx := fun _ H' => Q .non H', rt := Q } (start n_World_have_kept vs) H) :
    MtG P w K mg base A.c_World "have_kept" 5 ["self", "operation", "copy"] sp := by
  obtain ⟨f, fd, F, hM⟩ := T.f_World_have_kept
  have b := F.binds (ps := ["self", "operation", "copy"]) fun _ _ _ _ _ _ us hl => match us, hl with | [_, _, _], _ => rfl
  exact ⟨f, fd, T.cl_World, hM, b, F.ok sc_World_have_kept len (fun cdv B outer s H vs Q E hr h => hbody f cdv B outer s H vs Q E hr h)⟩
theorem mk_World_count_keeper {sp : Sp} (T : Txt K mg A) (len : ∀ vs H Q E, sp vs H Q E → vs.length = 3)
    (hbody : ∀ (f : Addr) (cdv : Value) (B : Around) (outer : List Env) (s : Shared) (H : Hp) (vs : List V) (Q : VK) (E : XK), Room 2 (B.deeper (envOfC "World.count_keeper" (defScope s_World_count_keeper) s.heap.objs.size f cdv)) → sp vs H Q E →
      ∃ t, PSs (cxOf CX0 P w K mg base n_World_count_keeper "World.count_keeper" (defScope s_World_count_keeper) f cdv B outer s H E).nox (defBody s_World_count_keeper) t ∧ t { nx := fun _ H' => Q .non H', rt := Q } (start n_World_count_keeper vs) H) :
    MtG P w K mg base A.c_World "count_keeper" 3 ["self", "operation", "letter"] sp := by
  obtain ⟨f, fd, F, hM⟩ := T.f_World_count_keeper
  have b := F.binds (ps := ["self", "operation", "letter"]) fun _ _ _ _ _ _ us hl => match us, hl with | [_, _, _], _ => rfl
  exact ⟨f, fd, T.cl_World, hM, b, F.ok sc_World_count_keeper len (fun cdv B outer s H vs Q E hr h => hbody f cdv B outer s H vs Q E hr h)⟩
theorem mk_World_end {sp : Sp} (T : Txt K mg A) (len : ∀ vs H Q E, sp vs H Q E → vs.length = 3)
    (hbody : ∀ (f : Addr) (cdv : Value) (B : Around) (outer : List Env) (s : Shared) (H : Hp) (vs : List V) (Q : VK) (E : XK), Room 1 (B.deeper (envOfC "World.end" (defScope s_World_end) s.heap.objs.size f cdv)) → sp vs H Q E →
      ∃ t, PSs (cxOf CX0 P w K mg base n_World_end "World.end" (defScope s_World_end) f cdv B outer s H E).nox (defBody s_World_end) t ∧ t { nx := fun _ H' => Q .non H', rt := Q } (start n_World_end vs) H) :
    MtG P w K mg base A.c_World "end" 2 ["self", "operation", "result"] sp := by
  obtain ⟨f, fd, F, hM⟩ := T.f_World_end
  have b := F.binds (ps := ["self", "operation", "result"]) fun _ _ _ _ _ _ us hl => match us, hl with | [_, _, _], _ => rfl
  exact ⟨f, fd, T.cl_World, hM, b, F.ok sc_World_end len (fun cdv B outer s H vs Q E hr h => hbody f cdv B outer s H vs Q E hr h)⟩
theorem mk_can_begin {sp : Sp} (T : Txt K mg A) (len : ∀ vs H Q E, sp vs H Q E → vs.length = 1)
    (hbody : ∀ (f : Addr) (cdv : Value) (B : Around) (outer : List Env) (s : Shared) (H : Hp) (vs : List V) (Q : VK) (E : XK), Room 0 (B.deeper (envOfC "can_begin" (defScope s_can_begin) s.heap.objs.size f cdv)) → sp vs H Q E →
      ∃ t, PSs (cxOf CX0 P w K mg base n_can_begin "can_begin" (defScope s_can_begin) f cdv B outer s H E).nox (defBody s_can_begin) t ∧ t { nx := fun _ H' => Q .non H', rt := Q } (start n_can_begin vs) H) :
    FnG P w K mg base "can_begin" 1 ["weights"] sp := by
  obtain ⟨f, fd, F, hM⟩ := T.f_can_begin
  have b := F.binds (ps := ["weights"]) fun _ _ _ _ _ _ us hl => match us, hl with | [_], _ => rfl
  exact ⟨f, fd, hM, F.kp, b, F.ok sc_can_begin len (fun cdv B outer s H vs Q E hr h => hbody f cdv B outer s H vs Q E hr h)⟩
theorem mk_call_length {sp : Sp} (T : Txt K mg A) (len : ∀ vs H Q E, sp vs H Q E → vs.length = 2)
    (hbody : ∀ (f : Addr) (cdv : Value) (B : Around) (outer : List Env) (s : Shared) (H : Hp) (vs : List V) (Q : VK) (E : XK), Room 0 (B.deeper (envOfC "call_length" (defScope s_call_length) s.heap.objs.size f cdv)) → sp vs H Q E →
      ∃ t, PSs (cxOf CX0 P w K mg base n_call_length "call_length" (defScope s_call_length) f cdv B outer s H E).nox (defBody s_call_length) t ∧ t { nx := fun _ H' => Q .non H', rt := Q } (start n_call_length vs) H) :
    FnG P w K mg base "call_length" 1 ["calls", "start"] sp := by
  obtain ⟨f, fd, F, hM⟩ := T.f_call_length
  have b := F.binds (ps := ["calls", "start"]) fun _ _ _ _ _ _ us hl => match us, hl with | [_, _], _ => rfl
  exact ⟨f, fd, hM, F.kp, b, F.ok sc_call_length len (fun cdv B outer s H vs Q E hr h => hbody f cdv B outer s H vs Q E hr h)⟩
theorem mk_answer_of {sp : Sp} (T : Txt K mg A) (len : ∀ vs H Q E, sp vs H Q E → vs.length = 2)
    (hbody : ∀ (f : Addr) (cdv : Value) (B : Around) (outer : List Env) (s : Shared) (H : Hp) (vs : List V) (Q : VK) (E : XK), Room 9 (B.deeper (envOfC "answer_of" (defScope s_answer_of) s.heap.objs.size f cdv)) → sp vs H Q E →
      ∃ t, PSs (cxOf CX0 P w K mg base n_answer_of "answer_of" (defScope s_answer_of) f cdv B outer s H E).nox (defBody s_answer_of) t ∧ t { nx := fun _ H' => Q .non H', rt := Q } (start n_answer_of vs) H) :
    FnG P w K mg base "answer_of" 10 ["world", "call"] sp := by
  obtain ⟨f, fd, F, hM⟩ := T.f_answer_of
  have b := F.binds (ps := ["world", "call"]) fun _ _ _ _ _ _ us hl => match us, hl with | [_, _], _ => rfl
  exact ⟨f, fd, hM, F.kp, b, F.ok sc_answer_of len (fun cdv B outer s H vs Q E hr h => hbody f cdv B outer s H vs Q E hr h)⟩
theorem mk_answers {sp : Sp} (T : Txt K mg A) (len : ∀ vs H Q E, sp vs H Q E → vs.length = 1)
    (hbody : ∀ (f : Addr) (cdv : Value) (B : Around) (outer : List Env) (s : Shared) (H : Hp) (vs : List V) (Q : VK) (E : XK), Room 10 (B.deeper (envOfC "answers" (defScope s_answers) s.heap.objs.size f cdv)) → sp vs H Q E →
      ∃ t, PSs (cxOf CX0 P w K mg base n_answers "answers" (defScope s_answers) f cdv B outer s H E).nox (defBody s_answers) t ∧ t { nx := fun _ H' => Q .non H', rt := Q } (start n_answers vs) H) :
    FnG P w K mg base "answers" 11 ["calls"] sp := by
  obtain ⟨f, fd, F, hM⟩ := T.f_answers
  have b := F.binds (ps := ["calls"]) fun _ _ _ _ _ _ us hl => match us, hl with | [_], _ => rfl
  exact ⟨f, fd, hM, F.kp, b, F.ok sc_answers len (fun cdv B outer s H vs Q E hr h => hbody f cdv B outer s H vs Q E hr h)⟩
end
end Cb

/-! The program's state over plain lists (the mirror), and that it does what the specification does. -/
namespace Cb
open Ag02 (Copy Letter above same zero)
structure MNode where
  weight : Nat
  up : Bool
  cells : List Copy
structure MOp where
  client : Nat
  number : Nat
  cell : Nat
  writes : Bool
  value : Nat
  began : Nat
  ended : Int
  result : Int
  heard : List Nat
  told : List Copy
  wanted : Option Copy
  keepers : List Nat
structure MClient where
  begun : Nat
  gone : Bool
  under : Option Nat
structure MW where
  nodes : List MNode
  clients : List MClient
  row : List Letter
  ops : List MOp
  events : Nat
/-! ### the program's defs -/
def better (m c : Copy) : Copy := if above c m = true then c else m
def bestOf (l : List Copy) : Copy := l.foldl better (l.headD zero)
def MW.wt (W : MW) (n : Nat) : Nat := match W.nodes[n]? with
  | some x => x.weight
  | none => 0
def MW.most (W : MW) (l : List Nat) : Bool := decide ((W.nodes.map (·.weight)).sum < 2 * (l.map W.wt).sum)
def MOp.counted (o : MOp) : List Nat := match o.wanted with
  | none => o.heard
  | some _ => o.keepers
def MOp.letterTo (o : MOp) (n : Nat) : Letter := match o.wanted with
  | none => ⟨0, n, o.client, o.number, o.cell, zero⟩
  | some c => ⟨2, n, o.client, o.number, o.cell, c⟩
def MOp.told_ (o : MOp) (c : Copy) : List Nat := ((o.heard.zip o.told).filter fun p => same p.2 c).map (·.1)
def MW.send (W : MW) (l : Letter) : MW := if W.row.length < 100 then { W with row := W.row ++ [l] } else W
def MW.missing (W : MW) (o : MOp) : List Nat := (List.range W.nodes.length).filter fun n => !(o.counted.contains n)
def MW.sendTo (W : MW) (o : MOp) : MW := ((W.missing o).map o.letterTo).foldl MW.send W
def MW.setOp (W : MW) (k : Nat) (o : MOp) : MW := { W with ops := W.ops.set k o }
def MW.setClient (W : MW) (i : Nat) (c : MClient) : MW := { W with clients := W.clients.set i c }
def MW.cl (W : MW) (i : Nat) : MClient := W.clients.getD i ⟨0, true, none⟩
def MW.nd (W : MW) (i : Nat) : MNode := W.nodes.getD i ⟨0, false, []⟩
def MW.end_ (W : MW) (k : Nat) (o : MOp) (r : Nat) : MW × List Int :=
  let W1 := { W.setOp k { o with ended := (W.events : Int), result := (r : Int) } with events := W.events + 1 }
  (W1.setClient o.client { W1.cl o.client with under := none }, [4, (r : Int)])
def MW.haveKept (W : MW) (k : Nat) (o : MOp) (c : Copy) : MW × List Int :=
  let o1 := { o with wanted := some c }
  ((W.setOp k o1).sendTo o1, [3])
def MOp.hears (o : MOp) (l : Letter) : MOp := { o with heard := o.heard ++ [l.from_], told := o.told ++ [l.copy] }
def MW.hear (W : MW) (k : Nat) (o : MOp) (l : Letter) : MW × List Int :=
  let o1 := o.hears l
  let W1 := W.setOp k o1
  if W1.most o1.heard = false then (W1, [2]) else
    let b := bestOf o1.told
    if o1.writes = true then W1.haveKept k o1 ⟨b.num + 1, o1.client, o1.value⟩ else
      let o2 := { o1 with keepers := o1.told_ b }
      let W2 := W1.setOp k o2
      if W2.most o2.keepers = true then W2.end_ k o2 b.value else W2.haveKept k o2 b
def MW.countKeeper (W : MW) (k : Nat) (o : MOp) (l : Letter) : MW × List Int :=
  let o1 := { o with keepers := o.keepers ++ [l.from_] }
  let W1 := W.setOp k o1
  if W1.most o1.keepers = false then (W1, [2]) else
    if o1.writes = true then W1.end_ k o1 0 else W1.end_ k o1 (o1.wanted.getD zero).value
def MW.opAt (W : MW) (k : Nat) : MOp := W.ops.getD k ⟨0, 0, 0, false, 0, 0, 0, 0, [], [], none, []⟩
def MOp.awaited (o : MOp) : Nat := match o.wanted with
  | none => 1
  | some _ => 3
def MW.handClient (W : MW) (l : Letter) : MW × List Int :=
  let c := W.cl l.to_
  match c.under with
  | none => (W, [0])
  | some k =>
    if c.gone = true then (W, [0]) else
      let o := W.opAt k
      if l.op ≠ o.number ∨ l.kind ≠ o.awaited then (W, [0]) else
        if o.counted.contains l.from_ = true then (W, [0]) else
          match o.wanted with
          | none => W.hear k o l
          | some _ => W.countKeeper k o l
def MNode.keeps (n : MNode) (l : Letter) : MNode := if above l.copy (n.cells.getD l.cell zero) = true then { n with cells := n.cells.set l.cell l.copy } else n
def MW.handNode (W : MW) (l : Letter) : MW × List Int :=
  let n := W.nd l.to_
  if n.up = false then (W, [0]) else
    if l.kind = 0 then (W.send ⟨1, l.from_, l.to_, l.op, l.cell, n.cells.getD l.cell zero⟩, [1])
    else (MW.send { W with nodes := W.nodes.set l.to_ (n.keeps l) } ⟨3, l.from_, l.to_, l.op, l.cell, zero⟩, [1])
def MW.hand (W : MW) (l : Letter) : MW × List Int := if l.kind = 0 ∨ l.kind = 2 then W.handNode l else W.handClient l
def MW.begins (W : MW) (i cell : Nat) (writes : Bool) (v : Nat) : MW × List Int :=
  if 4 ≤ i ∨ 3 ≤ cell ∨ 99 < v then (W, [-1]) else
    let c := W.cl i
    if c.under.isSome = true ∨ c.gone = true then (W, [-2]) else
      let o : MOp := ⟨i, c.begun + 1, cell, writes, v, W.events, -1, -1, [], [], none, []⟩
      let W1 : MW := { W with clients := W.clients.set i ⟨c.begun + 1, c.gone, some W.ops.length⟩, ops := W.ops ++ [o], events := W.events + 1 }
      (W1.sendTo o, [((c.begun + 1 : Nat) : Int)])
def MW.take (W : MW) (k : Nat) : MW × List Int := match W.row[k]? with
  | none => (W, [-1])
  | some l => MW.hand { W with row := W.row.eraseIdx k } l
def MW.again (W : MW) (k : Nat) : MW × List Int := match W.row[k]? with
  | none => (W, [-1])
  | some l => W.hand l
def MW.lose (W : MW) (k : Nat) : MW × List Int := if W.row.length ≤ k then (W, [-1]) else ({ W with row := W.row.eraseIdx k }, [0])
def MW.nudge (W : MW) (i : Nat) : MW × List Int :=
  if 4 ≤ i then (W, [-1]) else
    match (W.cl i).under with
    | none => (W, [-2])
    | some k => if (W.cl i).gone = true then (W, [-2]) else (W.sendTo (W.opAt k), [((W.missing (W.opAt k)).length : Int)])
def freshW (ws : List Nat) : MW := ⟨ws.map fun n => ⟨n, true, [zero, zero, zero]⟩, [⟨0, false, none⟩, ⟨0, false, none⟩, ⟨0, false, none⟩, ⟨0, false, none⟩], [], [], 0⟩
/-! ### what the specification sees of it -/
def opOf (o : MOp) : Ag13.Op := ⟨o.client, o.cell, if o.writes = true then 1 else 0, o.value, 0, o.began, if o.ended < 0 then none else some (o.ended.toNat, o.result)⟩
def busyOf (k : Nat) (o : MOp) : Ag02.Busy := ⟨o.number, o.cell, if o.writes = true then some o.value else none, k, o.wanted.isSome, o.heard.zip o.told, o.wanted.getD zero, o.keepers⟩
def cliOf (ops : List MOp) (c : MClient) : Ag02.Client := ⟨c.begun, c.gone, c.under.bind fun k => ops[k]?.map (busyOf k)⟩
def nodeOf (n : MNode) : Ag02.Node := ⟨n.up, n.cells⟩
def MW.abs (W : MW) : Ag02.State := ⟨W.nodes.map (·.weight), W.nodes.map nodeOf, W.clients.map (cliOf W.ops), W.row, ⟨[0, 0, 0], W.ops.map opOf, W.events⟩⟩
/-! ### what always holds -/
def CpOk (c : Copy) : Prop := c.num = 0 → c = zero
structure LtOk (n : Nat) (l : Letter) : Prop where
  kind : l.kind < 4
  cell : l.cell < 3
  copy : CpOk l.copy
  even : l.kind % 2 = 0 → l.to_ < n ∧ l.from_ < 4
  odd : l.kind % 2 = 1 → l.to_ < 4 ∧ l.from_ < n
structure OpOk (n i : Nat) (o : MOp) : Prop where
  client : o.client = i
  cell : o.cell < 3
  ended : o.ended = -1
  len : o.heard.length = o.told.length
  hnd : o.heard.Nodup
  hin : ∀ x ∈ o.heard, x < n
  knd : o.keepers.Nodup
  kin : ∀ x ∈ o.keepers, x < n
  none_ : o.wanted = none → o.keepers = []
  told : ∀ c ∈ o.told, CpOk c
  wanted : ∀ c, o.wanted = some c → CpOk c
  val : o.writes = false → o.value = 0
structure Ok (W : MW) : Prop where
  nlen : W.nodes.length ≤ 5
  clen : W.clients.length = 4
  cells : ∀ n ∈ W.nodes, n.cells.length = 3 ∧ ∀ c ∈ n.cells, CpOk c
  row : W.row.length ≤ 100
  lts : ∀ l ∈ W.row, LtOk W.nodes.length l
  ops : ∀ i c k, W.clients[i]? = some c → c.under = some k → ∃ o, W.ops[k]? = some o ∧ OpOk W.nodes.length i o
end Cb

namespace Cb
open Ag02 (Copy Letter above same zero)
/-! ### sums -/
theorem foldl_add (l : List Nat) : ∀ a : Nat, l.foldl (fun (a b : Nat) => a + b) a = a + l.sum := by
  induction l with
  | nil => intro a; simp
  | cons x r ih =>
    intro a
    rw [List.foldl_cons, ih, List.sum_cons]
    omega
theorem sum_eq (l : List Nat) : Ag02.sum l = l.sum := by
  unfold Ag02.sum
  rw [foldl_add]
  omega
theorem ind_sum_notin (f : Nat → Nat) (a : Nat) (l : List Nat) : ∀ r : List Nat, ¬ a ∈ r → (r.map fun i => if (a :: l).contains i = true then f i else 0).sum = (r.map fun i => if l.contains i = true then f i else 0).sum
  | [], _ => rfl
  | x :: r, h => by
    have hx : ¬ x = a := fun q => h (by rw [q]; exact List.mem_cons_self ..)
    have hr : ¬ a ∈ r := fun q => h (List.mem_cons_of_mem _ q)
    rw [List.map_cons, List.map_cons, List.sum_cons, List.sum_cons, ind_sum_notin f a l r hr]
    have e : (a :: l).contains x = l.contains x := by
      rw [List.contains_cons]
      have : (x == a) = false := beq_eq_false_iff_ne.mpr hx
      rw [this, Bool.false_or]
    rw [e]
theorem ind_sum_cons (f : Nat → Nat) (a : Nat) (l : List Nat) (ha : ¬ a ∈ l) : ∀ r : List Nat, r.Nodup → a ∈ r → (r.map fun i => if (a :: l).contains i = true then f i else 0).sum = f a + (r.map fun i => if l.contains i = true then f i else 0).sum
  | [], _, h => nomatch h
  | x :: r, nd, h => by
    have nd' := List.nodup_cons.mp nd
    rw [List.map_cons, List.map_cons, List.sum_cons, List.sum_cons]
    by_cases hx : x = a
    · subst hx
      rw [ind_sum_notin f x l r nd'.1]
      have e1 : (x :: l).contains x = true := by simp
      have e2 : l.contains x = false := by
        cases q : l.contains x with
        | false => rfl
        | true => exact absurd (List.contains_iff_mem.mp q) ha
      rw [e1, e2, if_pos rfl, if_neg Bool.false_ne_true]
      omega
    · have har : a ∈ r := by
        rcases List.mem_cons.mp h with q | q
        · exact absurd q.symm hx
        · exact q
      rw [ind_sum_cons f a l ha r nd'.2 har]
      have e : (a :: l).contains x = l.contains x := by
        rw [List.contains_cons]
        have : (x == a) = false := beq_eq_false_iff_ne.mpr hx
        rw [this, Bool.false_or]
      rw [e]
      omega
theorem ind_sum (f : Nat → Nat) (n : Nat) : ∀ l : List Nat, l.Nodup → (∀ x ∈ l, x < n) → ((List.range n).map fun i => if l.contains i = true then f i else 0).sum = (l.map f).sum
  | [], _, _ => by
    simp
    induction n with
    | zero => rfl
    | succ n ih => simp [List.range_succ, ih]
  | a :: l, nd, h => by
    have nd' := List.nodup_cons.mp nd
    rw [ind_sum_cons f a l nd'.1 (List.range n) List.nodup_range (List.mem_range.mpr (h a (List.mem_cons_self ..))), ind_sum f n l nd'.2 (fun x hx => h x (List.mem_cons_of_mem _ hx)), List.map_cons, List.sum_cons]
theorem abs_weight (W : MW) (i : Nat) : W.abs.weights.getD i 0 = W.wt i := by
  show (W.nodes.map (·.weight)).getD i 0 = W.wt i
  unfold MW.wt
  rw [List.getD_eq_getElem?_getD, List.getElem?_map]
  cases W.nodes[i]? <;> rfl
theorem most_eq {W : MW} {l : List Nat} (nd : l.Nodup) (h : ∀ x ∈ l, x < W.nodes.length) : Ag02.most W.abs l = W.most l := by
  unfold Ag02.most Ag02.weigh MW.most
  rw [sum_eq, sum_eq]
  have e : W.abs.nodes.length = W.nodes.length := List.length_map ..
  rw [e]
  have e2 : ((List.range W.nodes.length).map fun (i : Nat) => if l.contains i = true then W.abs.weights.getD i 0 else 0) = ((List.range W.nodes.length).map fun (i : Nat) => if l.contains i = true then W.wt i else 0) := by
    refine List.map_congr_left fun i _ => ?_
    rw [abs_weight]
  rw [e2, ind_sum W.wt W.nodes.length l nd h]
  rfl
/-! ### the best -/
theorem above_self (c : Copy) : above c c = false := by
  unfold Ag02.above
  simp
theorem better_self (c : Copy) : better c c = c := by
  unfold better
  rw [above_self, if_neg Bool.false_ne_true]
theorem better_zero {c : Copy} (h : CpOk c) : better zero c = c := by
  unfold better
  by_cases q : above c zero = true
  · rw [if_pos q]
  · rw [if_neg q]
    have hn : c.num = 0 := by
      unfold Ag02.above at q
      simp [Ag02.zero] at q
      have := of_decide_eq_false q.1
      omega
    exact (h hn).symm
theorem best_zip : ∀ {hs : List Nat} {l : List Copy} (m : Copy), hs.length = l.length → (hs.zip l).foldl (fun (m : Copy) (x : Nat × Copy) => if above x.2 m = true then x.2 else m) m = l.foldl better m
  | [], [], _, _ => rfl
  | _ :: _, [], _, h => nomatch h
  | [], _ :: _, _, h => nomatch h
  | a :: hs, c :: l, m, h => by
    rw [List.zip_cons_cons, List.foldl_cons, List.foldl_cons]
    exact best_zip (hs := hs) (l := l) _ (Nat.succ.inj h)
theorem top_eq {hs : List Nat} {l : List Copy} (hl : hs.length = l.length) (ok : ∀ c ∈ l, CpOk c) : Ag02.top (hs.zip l) = bestOf l := by
  unfold Ag02.top bestOf
  rw [best_zip zero hl]
  cases l with
  | nil => rfl
  | cons c l =>
    rw [List.foldl_cons, List.foldl_cons, better_zero (ok c (List.mem_cons_self ..))]
    show l.foldl better c = l.foldl better (better c c)
    rw [better_self]
theorem better_mem (m c : Copy) : better m c = m ∨ better m c = c := by
  unfold better
  split
  · exact .inr rfl
  · exact .inl rfl
theorem best_fold_ok {P : Copy → Prop} : ∀ (l : List Copy) (m : Copy), P m → (∀ c ∈ l, P c) → P (l.foldl better m)
  | [], _, h, _ => h
  | c :: l, m, h, hl => by
    rw [List.foldl_cons]
    refine best_fold_ok l _ ?_ fun x hx => hl x (List.mem_cons_of_mem _ hx)
    rcases better_mem m c with q | q
    · rw [q]; exact h
    · rw [q]; exact hl c (List.mem_cons_self ..)
theorem bestOf_ok {l : List Copy} (h : ∀ c ∈ l, CpOk c) : CpOk (bestOf l) := by
  unfold bestOf
  refine best_fold_ok l _ ?_ h
  cases l with
  | nil => intro _; rfl
  | cons c l => exact h c (List.mem_cons_self ..)
/-! ### sending -/
theorem send_abs (W : MW) (l : Letter) (h : W.row.length ≤ 100) : (W.send l).abs = Ag02.send W.abs [l] := by
  unfold MW.send Ag02.send
  by_cases c : W.row.length < 100
  · rw [if_pos c]
    have e : (W.row ++ [l]).take 100 = W.row ++ [l] := List.take_of_length_le (by rw [List.length_append, List.length_singleton]; omega)
    show _ = { W.abs with letters := (W.row ++ [l]).take 100 }
    rw [e]
    rfl
  · rw [if_neg c]
    have e : (W.row ++ [l]).take 100 = W.row := by
      rw [List.take_append_of_le_length (by omega), List.take_of_length_le h]
    show _ = { W.abs with letters := (W.row ++ [l]).take 100 }
    rw [e]
    rfl
theorem send_row (W : MW) (l : Letter) (h : W.row.length ≤ 100) : (W.send l) = { W with row := (W.row ++ [l]).take 100 } := by
  unfold MW.send
  by_cases c : W.row.length < 100
  · rw [if_pos c, List.take_of_length_le (by rw [List.length_append, List.length_singleton]; omega)]
  · rw [if_neg c, List.take_append_of_le_length (by omega), List.take_of_length_le h]
theorem sends_row : ∀ (ls : List Letter) (W : MW), W.row.length ≤ 100 → ls.foldl MW.send W = { W with row := (W.row ++ ls).take 100 }
  | [], W, h => by
    rw [List.foldl_nil, List.append_nil, List.take_of_length_le h]
  | l :: ls, W, h => by
    rw [List.foldl_cons, send_row W l h, sends_row ls _ (by show ((W.row ++ [l]).take 100).length ≤ 100; exact List.length_take_le ..)]
    show { W with row := ((W.row ++ [l]).take 100 ++ ls).take 100 } = { W with row := (W.row ++ (l :: ls)).take 100 }
    have e : ((W.row ++ [l]).take 100 ++ ls).take 100 = (W.row ++ (l :: ls)).take 100 := by
      by_cases c : W.row.length < 100
      · rw [List.take_of_length_le (l := W.row ++ [l]) (by rw [List.length_append, List.length_singleton]; omega), List.append_assoc]
        rfl
      · have e1 : (W.row ++ [l]).take 100 = W.row := by rw [List.take_append_of_le_length (by omega), List.take_of_length_le h]
        rw [e1, List.take_append_of_le_length (by omega), List.take_append_of_le_length (by omega)]
    rw [e]
theorem sendTo_row (W : MW) (o : MOp) (h : W.row.length ≤ 100) : W.sendTo o = { W with row := (W.row ++ (W.missing o).map o.letterTo).take 100 } := sends_row _ W h
theorem zip_any {n : Nat} : ∀ {hs : List Nat} {l : List Copy}, hs.length = l.length → ((hs.zip l).any fun (x : Nat × Copy) => x.1 == n) = hs.contains n
  | [], [], _ => rfl
  | _ :: _, [], h => nomatch h
  | [], _ :: _, h => nomatch h
  | a :: hs, c :: l, h => by
    rw [List.zip_cons_cons, List.any_cons, List.contains_cons, zip_any (hs := hs) (l := l) (Nat.succ.inj h)]
    have e : (a == n) = (n == a) := by
      by_cases q : a = n
      · subst q; rfl
      · have h1 : (a == n) = false := beq_eq_false_iff_ne.mpr q
        have h2 : (n == a) = false := beq_eq_false_iff_ne.mpr fun z => q z.symm
        rw [h1, h2]
    show (a == n || _) = _
    rw [e]
theorem calls_abs {W : MW} {i k : Nat} {o : MOp} (hl : o.heard.length = o.told.length) (hc : o.client = i) : Ag02.calls W.abs i (busyOf k o) = (W.missing o).map o.letterTo := by
  have en : W.abs.nodes.length = W.nodes.length := List.length_map ..
  unfold Ag02.calls MW.missing
  rw [en]
  cases hw : o.wanted with
  | none =>
    have e1 : (busyOf k o).keeping = false := by show o.wanted.isSome = false; rw [hw]; rfl
    rw [e1, if_neg Bool.false_ne_true]
    have e2 : o.counted = o.heard := by unfold MOp.counted; rw [hw]
    have e3 : (fun n => (⟨0, n, i, (busyOf k o).op, (busyOf k o).cell, zero⟩ : Letter)) = o.letterTo := by
      funext n
      unfold MOp.letterTo
      rw [hw]
      subst hc
      rfl
    rw [e3, e2]
    congr 1
    refine List.filter_congr fun n _ => ?_
    show (!((o.heard.zip o.told).any fun (x : Nat × Copy) => x.1 == n)) = _
    rw [zip_any hl]
  | some c =>
    have e1 : (busyOf k o).keeping = true := by show o.wanted.isSome = true; rw [hw]; rfl
    rw [e1, if_pos rfl]
    have e2 : o.counted = o.keepers := by unfold MOp.counted; rw [hw]
    have e3 : (fun n => (⟨2, n, i, (busyOf k o).op, (busyOf k o).cell, (busyOf k o).best⟩ : Letter)) = o.letterTo := by
      funext n
      unfold MOp.letterTo
      rw [hw]
      subst hc
      show (⟨2, n, o.client, o.number, o.cell, o.wanted.getD zero⟩ : Letter) = _
      rw [hw]
      rfl
    rw [e3, e2]
    rfl
theorem sendTo_abs {W : MW} {i k : Nat} {o : MOp} (h : W.row.length ≤ 100) (hl : o.heard.length = o.told.length) (hc : o.client = i) : (W.sendTo o).abs = Ag02.send W.abs (Ag02.calls W.abs i (busyOf k o)) := by
  rw [sendTo_row W o h, calls_abs hl hc]
  rfl
end Cb

namespace Cb
open Ag02 (Copy Letter above same zero)
theorem client_abs (W : MW) (i : Nat) : Ag02.client W.abs i = cliOf W.ops (W.cl i) := by
  unfold Ag02.client MW.cl
  show (W.clients.map (cliOf W.ops)).getD i _ = _
  rw [List.getD_eq_getElem?_getD, List.getElem?_map, List.getD_eq_getElem?_getD]
  cases W.clients[i]? <;> rfl
theorem node_abs (W : MW) (i : Nat) : Ag02.node W.abs i = nodeOf (W.nd i) := by
  unfold Ag02.node MW.nd
  show (W.nodes.map nodeOf).getD i _ = _
  rw [List.getD_eq_getElem?_getD, List.getElem?_map, List.getD_eq_getElem?_getD]
  cases W.nodes[i]? <;> rfl
theorem cl_some {W : MW} (ok : Ok W) {i : Nat} (h : i < 4) : W.clients[i]? = some (W.cl i) := by
  have hl : i < W.clients.length := by rw [ok.clen]; exact h
  unfold MW.cl
  rw [List.getD_eq_getElem?_getD, List.getElem?_eq_getElem hl]
  rfl
theorem nd_some {W : MW} {i : Nat} (h : i < W.nodes.length) : W.nodes[i]? = some (W.nd i) := by
  unfold MW.nd
  rw [List.getD_eq_getElem?_getD, List.getElem?_eq_getElem h]
  rfl
theorem opAt_of {W : MW} {k : Nat} {o : MOp} (h : W.ops[k]? = some o) : W.opAt k = o := by
  unfold MW.opAt
  rw [List.getD_eq_getElem?_getD, h]
  rfl
theorem under_uniq {W : MW} (ok : Ok W) {i j k : Nat} {c d : MClient} (hi : W.clients[i]? = some c) (ci : c.under = some k) (hj : W.clients[j]? = some d) (dj : d.under = some k) : i = j := by
  obtain ⟨o, ho, h1⟩ := ok.ops i c k hi ci
  obtain ⟨o', ho', h2⟩ := ok.ops j d k hj dj
  rw [ho] at ho'
  cases ho'
  exact h1.client.symm.trans h2.client
theorem cliOf_other {ops : List MOp} {c : MClient} {k : Nat} {o : MOp} (h : c.under ≠ some k) : cliOf (ops.set k o) c = cliOf ops c := by
  unfold cliOf
  cases hu : c.under with
  | none => rfl
  | some j =>
    have hj : k ≠ j := fun q => h (by rw [hu, q])
    show (⟨c.begun, c.gone, (ops.set k o)[j]?.map (busyOf j)⟩ : Ag02.Client) = ⟨c.begun, c.gone, ops[j]?.map (busyOf j)⟩
    rw [List.getElem?_set_ne hj]
theorem set_same {α : Type} {l : List α} {k : Nat} {x : α} (h : l[k]? = some x) : l.set k x = l := by
  refine List.ext_getElem? fun j => ?_
  by_cases q : k = j
  · subst q
    rw [List.getElem?_set_self (List.getElem?_eq_some_iff.mp h).1, h]
  · rw [List.getElem?_set_ne q]
/-- the clients as the specification sees them, one of them changed with its operation -/
theorem clients_set {W : MW} (ok : Ok W) {i k : Nat} {c d : MClient} {o : MOp} (hi : W.clients[i]? = some c) (ci : c.under = some k) :
    (W.clients.set i d).map (cliOf (W.ops.set k o)) = (W.clients.map (cliOf W.ops)).set i (cliOf (W.ops.set k o) d) := by
  rw [List.map_set]
  refine List.ext_getElem? fun j => ?_
  by_cases q : i = j
  · subst q
    have hl := (List.getElem?_eq_some_iff.mp hi).1
    rw [List.getElem?_set_self (by rw [List.length_map]; exact hl), List.getElem?_set_self (by rw [List.length_map]; exact hl)]
  · rw [List.getElem?_set_ne q, List.getElem?_set_ne q, List.getElem?_map, List.getElem?_map]
    cases hj : W.clients[j]? with
    | none => rfl
    | some e =>
      show some _ = some _
      rw [cliOf_other fun z => q (under_uniq ok hi ci hj z)]
theorem cliOf_at {ops : List MOp} {c : MClient} {k : Nat} {o : MOp} (hk : k < ops.length) (h : c.under = some k) : cliOf (ops.set k o) c = { cliOf ops c with busy := some (busyOf k o) } := by
  unfold cliOf
  rw [h]
  show (⟨c.begun, c.gone, (ops.set k o)[k]?.map (busyOf k)⟩ : Ag02.Client) = _
  rw [List.getElem?_set_self hk]
  rfl
theorem cl_of {W : MW} {i : Nat} {c : MClient} (h : W.clients[i]? = some c) : W.cl i = c := by
  unfold MW.cl
  rw [List.getD_eq_getElem?_getD, h]
  rfl
theorem abs_setOp {W : MW} (ok : Ok W) {i k : Nat} {c : MClient} {o o' : MOp} (hi : W.clients[i]? = some c) (ci : c.under = some k) (ho : W.ops[k]? = some o) (he : opOf o' = opOf o) :
    (W.setOp k o').abs = Ag02.setClient W.abs i { Ag02.client W.abs i with busy := some (busyOf k o') } := by
  have hk := (List.getElem?_eq_some_iff.mp ho).1
  have e1 : W.clients.map (cliOf (W.ops.set k o')) = (W.clients.map (cliOf W.ops)).set i { cliOf W.ops c with busy := some (busyOf k o') } := by
    have := clients_set ok (d := c) (o := o') hi ci
    rw [set_same hi, cliOf_at hk ci] at this
    exact this
  have e2 : (W.ops.set k o').map opOf = W.ops.map opOf := by
    rw [List.map_set, he]
    exact set_same (by rw [List.getElem?_map, ho]; rfl)
  rw [client_abs, cl_of hi]
  unfold MW.abs MW.setOp Ag02.setClient
  dsimp only
  rw [e1, e2]
theorem setOp_setOp (W : MW) (k : Nat) (a b : MOp) : (W.setOp k a).setOp k b = W.setOp k b := by
  unfold MW.setOp
  dsimp only
  rw [List.set_set]
theorem abs_end {W : MW} (ok : Ok W) {i k : Nat} {c : MClient} {o o' : MOp} (hi : W.clients[i]? = some c) (ci : c.under = some k) (ho : W.ops[k]? = some o) (he : opOf o' = opOf o) (h1 : o'.ended = -1) (h2 : o'.client = i) (r : Nat) (b : Ag02.Busy) (hb : b.place = k) :
    (((W.setOp k o').end_ k o' r).1.abs, ((W.setOp k o').end_ k o' r).2) = (Ag02.ended W.abs i b r, [4, (r : Int)]) := by
  have hk := (List.getElem?_eq_some_iff.mp ho).1
  refine Prod.ext ?_ rfl
  subst h2
  have ecl : ({ (W.setOp k o').setOp k { o' with ended := (W.events : Int), result := (r : Int) } with events := W.events + 1 } : MW).cl o'.client = c := cl_of (W := { (W.setOp k o').setOp k { o' with ended := (W.events : Int), result := (r : Int) } with events := W.events + 1 }) hi
  show (MW.setClient { (W.setOp k o').setOp k { o' with ended := (W.events : Int), result := (r : Int) } with events := W.events + 1 } o'.client { (MW.cl { (W.setOp k o').setOp k { o' with ended := (W.events : Int), result := (r : Int) } with events := W.events + 1 } o'.client) with under := none }).abs = Ag02.ended W.abs o'.client b r
  rw [ecl, setOp_setOp]
  have e1 := clients_set ok (d := { c with under := none }) (o := { o' with ended := (W.events : Int), result := (r : Int) }) hi ci
  have e2 : (W.ops.set k { o' with ended := (W.events : Int), result := (r : Int) }).map opOf = (W.ops.map opOf).set k { opOf o with ended := some (W.events, (r : Int)) } := by
    rw [List.map_set]
    congr 1
    rw [← he]
    unfold opOf
    dsimp only
    rw [if_neg (show ¬ ((W.events : Int) < 0) by omega)]
    rfl
  unfold Ag02.ended Ag02.setClient MW.setClient MW.setOp MW.abs
  dsimp only
  rw [e1, e2, hb]
  have e3 : Ag13.op ⟨[0, 0, 0], W.ops.map opOf, W.events⟩ k = opOf o := by
    unfold Ag13.op
    dsimp only
    rw [List.getD_eq_getElem?_getD, List.getElem?_map, ho]
    rfl
  rw [e3]
  have e4 : Ag02.client (⟨W.nodes.map (·.weight), W.nodes.map nodeOf, W.clients.map (cliOf W.ops), W.row, ⟨[0, 0, 0], (W.ops.map opOf).set k { opOf o with ended := some (W.events, (r : Int)) }, W.events + 1⟩⟩ : Ag02.State) o'.client = cliOf W.ops c := by
    have := client_abs W o'.client
    rw [cl_of hi] at this
    exact this
  rw [e4]
  rfl
theorem most_setOp (W : MW) (k : Nat) (o : MOp) (l : List Nat) : (W.setOp k o).most l = W.most l := rfl
theorem keep_abs {W : MW} (ok : Ok W) {i k : Nat} {c : MClient} {o o' : MOp} (hi : W.clients[i]? = some c) (ci : c.under = some k) (ho : W.ops[k]? = some o) (he : opOf o' = opOf o) (hl : o'.heard.length = o'.told.length) (h2 : o'.client = i) :
    ((W.setOp k o').sendTo o').abs = Ag02.send (Ag02.setClient W.abs i { Ag02.client W.abs i with busy := some (busyOf k o') }) (Ag02.calls W.abs i (busyOf k o')) := by
  rw [sendTo_row (W.setOp k o') o' ok.row, calls_abs hl h2, ← abs_setOp ok hi ci ho he]
  rfl
theorem zip_told {o : MOp} {m : Copy} : ((o.heard.zip o.told).filter fun (x : Nat × Copy) => same x.2 m).map (fun (x : Nat × Copy) => x.1) = o.told_ m := rfl
/-- what is known of the operation once it has heard -/
structure Heard (n i : Nat) (o : MOp) : Prop where
  client : o.client = i
  ended : o.ended = -1
  len : o.heard.length = o.told.length
  hnd : o.heard.Nodup
  hin : ∀ x ∈ o.heard, x < n
  told : ∀ c ∈ o.told, CpOk c
  kz : o.keepers = []
  wz : o.wanted = none
theorem told_nd {o : MOp} (h : o.heard.Nodup) (m : Copy) : (o.told_ m).Nodup := by
  unfold MOp.told_
  have key : ∀ (hs : List Nat) (ts : List Copy), hs.Nodup → (((hs.zip ts).filter fun p => same p.2 m).map (·.1)).Nodup ∧ ∀ x ∈ ((hs.zip ts).filter fun p => same p.2 m).map (·.1), x ∈ hs := by
    intro hs
    induction hs with
    | nil => intro ts _; simp
    | cons a hs ih =>
      intro ts nd
      cases ts with
      | nil => simp
      | cons c ts =>
        have nd' := List.nodup_cons.mp nd
        obtain ⟨i1, i2⟩ := ih ts nd'.2
        rw [List.zip_cons_cons, List.filter_cons]
        split
        · rw [List.map_cons]
          refine ⟨List.nodup_cons.mpr ⟨fun q => nd'.1 (i2 _ q), i1⟩, fun x hx => ?_⟩
          rcases List.mem_cons.mp hx with q | q
          · rw [q]; exact List.mem_cons_self ..
          · exact List.mem_cons_of_mem _ (i2 x q)
        · exact ⟨i1, fun x hx => List.mem_cons_of_mem _ (i2 x hx)⟩
  exact (key _ _ h).1
theorem told_in {o : MOp} (m : Copy) : ∀ x ∈ o.told_ m, x ∈ o.heard := by
  intro x hx
  unfold MOp.told_ at hx
  obtain ⟨p, hp, e⟩ := List.mem_map.mp hx
  have := (List.mem_filter.mp hp).1
  rw [← e]
  exact (List.of_mem_zip (a := p.1) (b := p.2) this).1
theorem goOn_abs {W : MW} (ok : Ok W) {i k : Nat} {c : MClient} {o o1 : MOp} (hi : W.clients[i]? = some c) (ci : c.under = some k) (ho : W.ops[k]? = some o) (he : opOf o1 = opOf o) (H : Heard W.nodes.length i o1) :
    Ag02.goOn W.abs i (busyOf k o1) =
      (let r := (if o1.writes = true then (W.setOp k o1).haveKept k o1 ⟨(bestOf o1.told).num + 1, o1.client, o1.value⟩ else
        if (W.setOp k o1).most (o1.told_ (bestOf o1.told)) = true then ((W.setOp k o1).setOp k { o1 with keepers := o1.told_ (bestOf o1.told) }).end_ k { o1 with keepers := o1.told_ (bestOf o1.told) } (bestOf o1.told).value
        else ((W.setOp k o1).setOp k { o1 with keepers := o1.told_ (bestOf o1.told) }).haveKept k { o1 with keepers := o1.told_ (bestOf o1.told) } (bestOf o1.told))
       (r.1.abs, r.2)) := by
  have et : Ag02.top (busyOf k o1).heard = bestOf o1.told := top_eq H.len H.told
  by_cases hw : o1.writes = true
  · rw [if_pos hw]
    have ew : (busyOf k o1).write = some o1.value := by show (if o1.writes = true then some o1.value else none) = _; rw [if_pos hw]
    have q := keep_abs ok hi ci ho (o' := { o1 with wanted := some ⟨(bestOf o1.told).num + 1, o1.client, o1.value⟩ }) he H.len H.client
    have eb : (busyOf k { o1 with wanted := some ⟨(bestOf o1.told).num + 1, o1.client, o1.value⟩ }) = ⟨o1.number, o1.cell, some o1.value, k, true, o1.heard.zip o1.told, ⟨(bestOf o1.told).num + 1, i, o1.value⟩, []⟩ := by
      unfold busyOf
      dsimp only
      rw [H.kz, H.client, if_pos hw]
      rfl
    rw [eb] at q
    unfold Ag02.goOn
    rw [ew, et]
    refine Prod.ext (Eq.trans q.symm ?_) rfl
    unfold MW.haveKept
    dsimp only
    rw [setOp_setOp]
  · rw [if_neg hw]
    have ew : (busyOf k o1).write = none := by show (if o1.writes = true then some o1.value else none) = _; rw [if_neg hw]
    have em : Ag02.most W.abs (o1.told_ (bestOf o1.told)) = W.most (o1.told_ (bestOf o1.told)) := most_eq (told_nd H.hnd _) fun x hx => H.hin x (told_in _ x hx)
    unfold Ag02.goOn
    rw [ew, et]
    dsimp only
    rw [show ((busyOf k o1).heard.filter fun (x : Nat × Copy) => same x.2 (bestOf o1.told)).map (fun (x : Nat × Copy) => x.1) = o1.told_ (bestOf o1.told) from rfl, em, most_setOp, setOp_setOp]
    by_cases hm : W.most (o1.told_ (bestOf o1.told)) = true
    · rw [if_pos hm, if_pos hm]
      exact (abs_end ok hi ci ho (o' := { o1 with keepers := o1.told_ (bestOf o1.told) }) he H.ended H.client _ (busyOf k o1) rfl).symm
    · rw [if_neg hm, if_neg hm]
      have q := keep_abs ok hi ci ho (o' := { o1 with keepers := o1.told_ (bestOf o1.told), wanted := some (bestOf o1.told) }) he H.len H.client
      have eb : (busyOf k { o1 with keepers := o1.told_ (bestOf o1.told), wanted := some (bestOf o1.told) }) = ⟨o1.number, o1.cell, none, k, true, o1.heard.zip o1.told, bestOf o1.told, o1.told_ (bestOf o1.told)⟩ := by
        unfold busyOf
        dsimp only
        rw [if_neg hw]
        rfl
      rw [eb] at q
      refine Prod.ext (Eq.trans q.symm ?_) rfl
      unfold MW.haveKept
      dsimp only
      rw [setOp_setOp]
theorem zip_fst : ∀ {hs : List Nat} {l : List Copy}, hs.length = l.length → (hs.zip l).map (fun (y : Nat × Copy) => y.1) = hs
  | [], [], _ => rfl
  | _ :: _, [], h => nomatch h
  | [], _ :: _, h => nomatch h
  | a :: hs, c :: l, h => by
    rw [List.zip_cons_cons, List.map_cons, zip_fst (hs := hs) (l := l) (Nat.succ.inj h)]
theorem hears_ok {n i : Nat} {o : MOp} {l : Letter} (h : OpOk n i o) (hw : o.wanted = none) (hf : o.heard.contains l.from_ = false) (hn : l.from_ < n) (hc : CpOk l.copy) : Heard n i (o.hears l) := by
  have nf : ¬ l.from_ ∈ o.heard := fun q => by
    rw [List.contains_iff_mem.mpr q] at hf
    cases hf
  refine ⟨h.client, h.ended, ?_, ?_, ?_, ?_, h.none_ hw, hw⟩
  · show (o.heard ++ [l.from_]).length = (o.told ++ [l.copy]).length
    rw [List.length_append, List.length_append, h.len]
    rfl
  · show (o.heard ++ [l.from_]).Nodup
    rw [List.nodup_append]
    exact ⟨h.hnd, by simp, fun a ha b hb q => nf (by rw [← List.mem_singleton.mp hb, ← q]; exact ha)⟩
  · intro x hx
    rcases List.mem_append.mp hx with q | q
    · exact h.hin x q
    · rw [List.mem_singleton.mp q]; exact hn
  · intro c hx
    rcases List.mem_append.mp hx with q | q
    · exact h.told c q
    · rw [List.mem_singleton.mp q]; exact hc
theorem hear_abs {W : MW} (ok : Ok W) {i k : Nat} {c : MClient} {o : MOp} {l : Letter} (hi : W.clients[i]? = some c) (ci : c.under = some k) (ho : W.ops[k]? = some o) (hw : o.wanted = none) (hf : o.heard.contains l.from_ = false) (hn : l.from_ < W.nodes.length) (hc : CpOk l.copy)
    (h : OpOk W.nodes.length i o) {n : Ag02.Busy} (en : n = { busyOf k o with heard := (busyOf k o).heard ++ [(l.from_, l.copy)] }) :
    (if Ag02.most W.abs (n.heard.map fun (y : Nat × Copy) => y.1) = true then Ag02.goOn W.abs i n else (Ag02.setClient W.abs i { Ag02.client W.abs i with busy := some n }, [2])) = ((W.hear k o l).1.abs, (W.hear k o l).2) := by
  have H := hears_ok h hw hf hn hc
  have eb : ({ busyOf k o with heard := (busyOf k o).heard ++ [(l.from_, l.copy)] } : Ag02.Busy) = busyOf k (o.hears l) := by
    unfold busyOf MOp.hears
    dsimp only
    rw [List.zip_append h.len]
    rfl
  rw [eb] at en
  subst en
  have e1 : (busyOf k (o.hears l)).heard.map (fun (y : Nat × Copy) => y.1) = (o.hears l).heard := zip_fst H.len
  rw [e1, most_eq H.hnd H.hin]
  unfold MW.hear
  dsimp only
  rw [most_setOp]
  cases hm : W.most (o.hears l).heard with
  | false =>
    rw [if_neg Bool.false_ne_true, if_pos rfl]
    exact Prod.ext (abs_setOp ok hi ci ho (o' := o.hears l) rfl).symm rfl
  | true =>
    rw [if_pos rfl, if_neg (by simp)]
    have := goOn_abs ok hi ci ho (o1 := o.hears l) rfl H
    rw [this]
    rfl
theorem count_abs {W : MW} (ok : Ok W) {i k : Nat} {c : MClient} {o : MOp} {l : Letter} {cp : Copy} (hi : W.clients[i]? = some c) (ci : c.under = some k) (ho : W.ops[k]? = some o) (hw : o.wanted = some cp) (hf : o.keepers.contains l.from_ = false) (hn : l.from_ < W.nodes.length)
    (h : OpOk W.nodes.length i o) {n : Ag02.Busy} (en : n = { busyOf k o with kept := (busyOf k o).kept ++ [l.from_] }) {v : Nat} (hv : v = match n.write with | some _ => 0 | none => n.best.value) :
    (if Ag02.most W.abs n.kept = true then (Ag02.ended W.abs i n v, [4, (v : Int)]) else (Ag02.setClient W.abs i { Ag02.client W.abs i with busy := some n }, [2])) = ((W.countKeeper k o l).1.abs, (W.countKeeper k o l).2) := by
  have nf : ¬ l.from_ ∈ o.keepers := fun q => by
    rw [List.contains_iff_mem.mpr q] at hf
    cases hf
  have knd : (o.keepers ++ [l.from_]).Nodup := by
    rw [List.nodup_append]
    exact ⟨h.knd, by simp, fun a ha b hb q => nf (by rw [← List.mem_singleton.mp hb, ← q]; exact ha)⟩
  have kin : ∀ x ∈ o.keepers ++ [l.from_], x < W.nodes.length := fun x hx => by
    rcases List.mem_append.mp hx with q | q
    · exact h.kin x q
    · rw [List.mem_singleton.mp q]; exact hn
  have eb : ({ busyOf k o with kept := (busyOf k o).kept ++ [l.from_] } : Ag02.Busy) = busyOf k { o with keepers := o.keepers ++ [l.from_] } := rfl
  have ek : (busyOf k { o with keepers := o.keepers ++ [l.from_] }).kept = o.keepers ++ [l.from_] := rfl
  rw [eb] at en
  subst en
  rw [ek, most_eq knd kin]
  unfold MW.countKeeper
  dsimp only
  rw [most_setOp]
  cases hm : W.most (o.keepers ++ [l.from_]) with
  | false =>
    rw [if_neg Bool.false_ne_true, if_pos rfl]
    exact Prod.ext (abs_setOp ok hi ci ho (o' := { o with keepers := o.keepers ++ [l.from_] }) rfl).symm rfl
  | true =>
    rw [if_pos rfl, if_neg (by simp)]
    have ew : (busyOf k { o with keepers := o.keepers ++ [l.from_] }).write = if o.writes = true then some o.value else none := rfl
    have ev : (busyOf k { o with keepers := o.keepers ++ [l.from_] }).best = o.wanted.getD zero := rfl
    rw [ew, ev] at hv
    by_cases q : o.writes = true
    · rw [if_pos q] at hv
      subst hv
      rw [if_pos q]
      exact (abs_end ok hi ci ho (o' := { o with keepers := o.keepers ++ [l.from_] }) rfl h.ended h.client 0 (busyOf k { o with keepers := o.keepers ++ [l.from_] }) rfl).symm
    · rw [if_neg q] at hv
      subst hv
      rw [if_neg q]
      exact (abs_end ok hi ci ho (o' := { o with keepers := o.keepers ++ [l.from_] }) rfl h.ended h.client _ (busyOf k { o with keepers := o.keepers ++ [l.from_] }) rfl).symm
end Cb

namespace Cb
open Ag02 (Copy Letter above same zero)
theorem nodes_set_abs {W : MW} {t : Nat} {n' : MNode} (ht : t < W.nodes.length) (hw : n'.weight = (W.nd t).weight) :
    ({ W with nodes := W.nodes.set t n' } : MW).abs = { W.abs with nodes := W.abs.nodes.set t (nodeOf n') } := by
  unfold MW.abs
  dsimp only
  rw [List.map_set, List.map_set, hw, set_same (l := W.nodes.map (·.weight)) (by rw [List.getElem?_map, nd_some ht]; rfl)]
theorem hand_abs {W : MW} {l : Letter} (ok : Ok W) (hl : LtOk W.nodes.length l) : Ag02.hand W.abs l = ((W.hand l).1.abs, (W.hand l).2) := by
  unfold Ag02.hand MW.hand
  by_cases he : l.kind % 2 = 0
  · rw [if_pos he]
    obtain ⟨ht, hf⟩ := hl.even he
    have h02 : l.kind = 0 ∨ l.kind = 2 := by have := hl.kind; omega
    rw [if_pos h02]
    unfold MW.handNode
    rw [node_abs]
    dsimp only
    have eu : (nodeOf (W.nd l.to_)).up = (W.nd l.to_).up := rfl
    rw [eu]
    by_cases hu : (W.nd l.to_).up = false
    · rw [if_pos hu, if_pos hu]
    · rw [if_neg hu, if_neg hu]
      by_cases h0 : l.kind = 0
      · rw [if_pos h0, if_pos h0]
        exact Prod.ext (send_abs W _ ok.row).symm rfl
      · rw [if_neg h0, if_neg h0]
        refine Prod.ext ?_ rfl
        show Ag02.send _ _ = (MW.send _ _).abs
        rw [send_abs _ _ (show ({ W with nodes := W.nodes.set l.to_ ((W.nd l.to_).keeps l) } : MW).row.length ≤ 100 from ok.row), nodes_set_abs ht]
        · congr 1
          unfold MNode.keeps
          by_cases ha : above l.copy ((W.nd l.to_).cells.getD l.cell zero) = true
          · have e : (nodeOf (W.nd l.to_)).cells = (W.nd l.to_).cells := rfl
            rw [e, if_pos ha, if_pos ha]
            rfl
          · have e : (nodeOf (W.nd l.to_)).cells = (W.nd l.to_).cells := rfl
            rw [e, if_neg ha, if_neg ha]
            rfl
        · unfold MNode.keeps
          split <;> rfl
  · rw [if_neg he]
    obtain ⟨ht, hf⟩ := hl.odd (by omega)
    have h13 : l.kind = 1 ∨ l.kind = 3 := by have := hl.kind; omega
    rw [if_neg (by omega)]
    unfold MW.handClient
    rw [client_abs]
    dsimp only
    have hi := cl_some ok ht
    have eg : (cliOf W.ops (W.cl l.to_)).gone = (W.cl l.to_).gone := rfl
    cases hu : (W.cl l.to_).under with
    | none =>
      have eb : (cliOf W.ops (W.cl l.to_)).busy = none := by unfold cliOf; rw [hu]; rfl
      rw [eb]
    | some k =>
      obtain ⟨o, ho, hok⟩ := ok.ops _ _ k hi hu
      have eb : (cliOf W.ops (W.cl l.to_)).busy = some (busyOf k o) := by
        unfold cliOf
        rw [hu]
        show W.ops[k]?.map (busyOf k) = _
        rw [ho]
        rfl
      rw [eb, eg]
      dsimp only
      rw [opAt_of ho]
      by_cases hg : (W.cl l.to_).gone = true
      · rw [if_pos (Or.inr hg), if_pos hg]
      · rw [if_neg hg]
        have ebo : (busyOf k o).op = o.number := rfl
        rw [ebo]
        by_cases hop : o.number = l.op
        · rw [if_neg (show ¬ (o.number ≠ l.op ∨ (W.cl l.to_).gone = true) from fun q => q.elim (fun z => z hop) hg)]
          rcases h13 with h1 | h3
          · rw [if_pos h1]
            cases hw : o.wanted with
            | some cp =>
              have ek : (busyOf k o).keeping = true := by show o.wanted.isSome = true; rw [hw]; rfl
              have ea : o.awaited = 3 := by unfold MOp.awaited; rw [hw]
              rw [ek, if_pos (Or.inl rfl), ea, if_pos (Or.inr (by omega))]
            | none =>
              have ek : (busyOf k o).keeping = false := by show o.wanted.isSome = false; rw [hw]; rfl
              have ea : o.awaited = 1 := by unfold MOp.awaited; rw [hw]
              have ec : o.counted = o.heard := by unfold MOp.counted; rw [hw]
              have ez : ((busyOf k o).heard.any fun (y : Nat × Copy) => y.1 == l.from_) = o.heard.contains l.from_ := zip_any hok.len
              rw [ea, ec, if_neg (show ¬ (l.op ≠ o.number ∨ l.kind ≠ 1) by rw [hop, h1]; simp)]
              by_cases hc : o.heard.contains l.from_ = true
              · rw [if_pos (show (busyOf k o).keeping = true ∨ ((busyOf k o).heard.any fun (y : Nat × Copy) => y.1 == l.from_) = true from .inr (ez.trans hc)), if_pos hc]
              · rw [if_neg (show ¬ ((busyOf k o).keeping = true ∨ ((busyOf k o).heard.any fun (y : Nat × Copy) => y.1 == l.from_) = true) from fun z => z.elim (fun z => by rw [ek] at z; cases z) fun z => hc (ez.symm.trans z)), if_neg hc]
                have hc : o.heard.contains l.from_ = false := by simpa using hc
                have q := hear_abs ok hi hu ho hw hc hf hl.copy hok (n := { busyOf k o with heard := (busyOf k o).heard ++ [(l.from_, l.copy)] }) rfl
                rw [client_abs] at q
                exact q
          · rw [if_neg (show ¬ l.kind = 1 by omega)]
            cases hw : o.wanted with
            | none =>
              have ek : (busyOf k o).keeping = false := by show o.wanted.isSome = false; rw [hw]; rfl
              have ea : o.awaited = 1 := by unfold MOp.awaited; rw [hw]
              rw [ek, if_pos (Or.inl rfl), ea, if_pos (Or.inr (by omega))]
            | some cp =>
              have ek : (busyOf k o).keeping = true := by show o.wanted.isSome = true; rw [hw]; rfl
              have ea : o.awaited = 3 := by unfold MOp.awaited; rw [hw]
              have ec : o.counted = o.keepers := by unfold MOp.counted; rw [hw]
              have ez : (busyOf k o).kept = o.keepers := rfl
              rw [ea, ec, if_neg (show ¬ (l.op ≠ o.number ∨ l.kind ≠ 3) by rw [hop, h3]; simp)]
              by_cases hc : o.keepers.contains l.from_ = true
              · rw [if_pos (show (busyOf k o).keeping = false ∨ (busyOf k o).kept.contains l.from_ = true from .inr hc), if_pos hc]
              · rw [if_neg (show ¬ ((busyOf k o).keeping = false ∨ (busyOf k o).kept.contains l.from_ = true) from fun z => z.elim (fun z => by rw [ek] at z; cases z) hc), if_neg hc]
                have hc : o.keepers.contains l.from_ = false := by simpa using hc
                have q := count_abs ok hi hu ho hw hc hf hok (n := { busyOf k o with kept := (busyOf k o).kept ++ [l.from_] }) rfl rfl
                rw [client_abs] at q
                exact q
        · rw [if_pos (Or.inl hop), if_pos (Or.inl fun q => hop q.symm)]
end Cb

namespace Cb
open Ag02 (Copy Letter above same zero)
theorem zero_ok : CpOk zero := fun _ => rfl
theorem ok_rowOf {W : MW} (ok : Ok W) {r : List Letter} (h1 : r.length ≤ 100) (h2 : ∀ l ∈ r, LtOk W.nodes.length l) : Ok { W with row := r } := ⟨ok.nlen, ok.clen, ok.cells, h1, h2, ok.ops⟩
theorem ok_send {W : MW} (ok : Ok W) {l : Letter} (h : LtOk W.nodes.length l) : Ok (W.send l) := by
  unfold MW.send
  split
  · refine ok_rowOf ok (by rw [List.length_append, List.length_singleton]; omega) fun x hx => ?_
    rcases List.mem_append.mp hx with q | q
    · exact ok.lts x q
    · rw [List.mem_singleton.mp q]; exact h
  · exact ok
theorem send_nodes (W : MW) (l : Letter) : (W.send l).nodes = W.nodes := by unfold MW.send; split <;> rfl
theorem send_ops (W : MW) (l : Letter) : (W.send l).ops = W.ops := by unfold MW.send; split <;> rfl
theorem letterTo_ok {n i x : Nat} {o : MOp} (h : OpOk n i o) (hi : i < 4) (hx : x < n) : LtOk n (o.letterTo x) := by
  unfold MOp.letterTo
  cases hw : o.wanted with
  | none => exact ⟨by show 0 < 4; decide, h.cell, zero_ok, fun _ => ⟨hx, by show o.client < 4; rw [h.client]; exact hi⟩, fun q => by cases q⟩
  | some c => exact ⟨by show 2 < 4; decide, h.cell, h.wanted c hw, fun _ => ⟨hx, by show o.client < 4; rw [h.client]; exact hi⟩, fun (q : 2 % 2 = 1) => absurd q (by decide)⟩
theorem ok_sendTo {W : MW} (ok : Ok W) {i : Nat} {o : MOp} (hi : i < 4) (h : OpOk W.nodes.length i o) : Ok (W.sendTo o) := by
  rw [sendTo_row W o ok.row]
  refine ok_rowOf ok (List.length_take_le ..) fun x hx => ?_
  rcases List.mem_append.mp (List.mem_of_mem_take hx) with q | q
  · exact ok.lts x q
  · obtain ⟨n, hn, e⟩ := List.mem_map.mp q
    rw [← e]
    exact letterTo_ok h hi (List.mem_range.mp (List.mem_filter.mp hn).1)
theorem ok_setOp {W : MW} (ok : Ok W) {i k : Nat} {c : MClient} {o' : MOp} (hi : W.clients[i]? = some c) (ci : c.under = some k) (h : OpOk W.nodes.length i o') : Ok (W.setOp k o') := by
  refine ⟨ok.nlen, ok.clen, ok.cells, ok.row, ok.lts, fun j d m hj dj => ?_⟩
  obtain ⟨o, ho, hok⟩ := ok.ops j d m hj dj
  by_cases q : k = m
  · subst q
    have e := under_uniq ok hi ci hj dj
    subst e
    exact ⟨o', by show (W.ops.set k o')[k]? = _; rw [List.getElem?_set_self (List.getElem?_eq_some_iff.mp ho).1], h⟩
  · exact ⟨o, by show (W.ops.set k o')[m]? = _; rw [List.getElem?_set_ne q]; exact ho, hok⟩
theorem end_is {W : MW} {k : Nat} {o : MOp} {r : Nat} {c : MClient} (hi : W.clients[o.client]? = some c) :
    (W.end_ k o r).1 = { W with ops := W.ops.set k { o with ended := (W.events : Int), result := (r : Int) }, events := W.events + 1, clients := W.clients.set o.client { c with under := none } } := by
  unfold MW.end_ MW.setClient MW.setOp
  dsimp only
  have e : ({ W with ops := W.ops.set k { o with ended := (W.events : Int), result := (r : Int) }, events := W.events + 1 } : MW).cl o.client = c := cl_of (W := { W with ops := W.ops.set k { o with ended := (W.events : Int), result := (r : Int) }, events := W.events + 1 }) hi
  rw [e]
theorem ok_end {W : MW} (ok : Ok W) {k r : Nat} {c : MClient} {o : MOp} (hi : W.clients[o.client]? = some c) (ci : c.under = some k) : Ok ((W.setOp k o).end_ k o r).1 := by
  rw [end_is (W := W.setOp k o) hi]
  refine ⟨ok.nlen, by show (W.clients.set _ _).length = 4; rw [List.length_set]; exact ok.clen, ok.cells, ok.row, ok.lts, fun j d m hj dj => ?_⟩
  have hj : (W.clients.set o.client { c with under := none })[j]? = some d := hj
  by_cases q : o.client = j
  · subst q
    rw [List.getElem?_set_self (List.getElem?_eq_some_iff.mp hi).1] at hj
    cases hj
    cases dj
  · rw [List.getElem?_set_ne q] at hj
    obtain ⟨o1, ho, hok⟩ := ok.ops j d m hj dj
    have hkm : k ≠ m := fun z => by
      subst z
      exact q (under_uniq ok hi ci hj dj)
    exact ⟨o1, by show ((W.ops.set k o).set k _)[m]? = _; rw [List.getElem?_set_ne hkm, List.getElem?_set_ne hkm]; exact ho, hok⟩
theorem hears_opok {n i : Nat} {o : MOp} {l : Letter} (h : OpOk n i o) (hw : o.wanted = none) (hf : o.heard.contains l.from_ = false) (hn : l.from_ < n) (hc : CpOk l.copy) : OpOk n i (o.hears l) := by
  have H := hears_ok h hw hf hn hc
  exact ⟨H.client, h.cell, H.ended, H.len, H.hnd, H.hin, h.knd, h.kin, h.none_, H.told, h.wanted, h.val⟩
theorem wants_opok {n i : Nat} {o : MOp} {c : Copy} (h : OpOk n i o) (hc : CpOk c) : OpOk n i { o with wanted := some c } :=
  ⟨h.client, h.cell, h.ended, h.len, h.hnd, h.hin, h.knd, h.kin, (fun q => by cases q), h.told, (fun d q => by cases q; exact hc), h.val⟩
theorem ok_haveKept {W : MW} (ok : Ok W) {i k : Nat} {c : MClient} {o : MOp} {cp : Copy} (hi : W.clients[i]? = some c) (ci : c.under = some k) (h4 : i < 4) (h : OpOk W.nodes.length i o) (hc : CpOk cp) : Ok (W.haveKept k o cp).1 := by
  unfold MW.haveKept
  exact ok_sendTo (ok_setOp ok hi ci (wants_opok h hc)) h4 (wants_opok h hc)
theorem ok_hear {W : MW} (ok : Ok W) {i k : Nat} {c : MClient} {o : MOp} {l : Letter} (hi : W.clients[i]? = some c) (ci : c.under = some k) (hw : o.wanted = none) (hf : o.heard.contains l.from_ = false) (hn : l.from_ < W.nodes.length) (hc : CpOk l.copy)
    (h4 : i < 4) (h : OpOk W.nodes.length i o) : Ok (W.hear k o l).1 := by
  have h1 := hears_opok h hw hf hn hc
  have o1 := ok_setOp ok hi ci h1
  unfold MW.hear
  dsimp only
  split
  · exact o1
  · split
    · exact ok_haveKept o1 hi ci h4 h1 fun q => by cases q
    · have hb : CpOk (bestOf (o.hears l).told) := bestOf_ok h1.told
      have hx := told_nd h1.hnd (bestOf (o.hears l).told)
      split
      · have e : (o.hears l).client = i := h1.client
        rw [setOp_setOp]
        exact ok_end ok (o := { (o.hears l) with keepers := (o.hears l).told_ (bestOf (o.hears l).told) }) (by show W.clients[(o.hears l).client]? = _; rw [e]; exact hi) ci
      · have hk : OpOk W.nodes.length i { { (o.hears l) with keepers := (o.hears l).told_ (bestOf (o.hears l).told) } with wanted := some (bestOf (o.hears l).told) } :=
          ⟨h1.client, h1.cell, h1.ended, h1.len, h1.hnd, h1.hin, hx, fun x q => h1.hin x (told_in _ x q), (fun q => by cases q), h1.told, (fun d q => by cases q; exact hb), h1.val⟩
        unfold MW.haveKept
        dsimp only
        rw [setOp_setOp, setOp_setOp]
        exact ok_sendTo (ok_setOp ok hi ci hk) h4 hk
theorem ok_count {W : MW} (ok : Ok W) {i k : Nat} {c : MClient} {o : MOp} {l : Letter} {cp : Copy} (hi : W.clients[i]? = some c) (ci : c.under = some k) (hw : o.wanted = some cp) (hf : o.keepers.contains l.from_ = false) (hn : l.from_ < W.nodes.length)
    (h : OpOk W.nodes.length i o) : Ok (W.countKeeper k o l).1 := by
  have nf : ¬ l.from_ ∈ o.keepers := fun q => by
    rw [List.contains_iff_mem.mpr q] at hf
    cases hf
  have h1 : OpOk W.nodes.length i { o with keepers := o.keepers ++ [l.from_] } := by
    refine ⟨h.client, h.cell, h.ended, h.len, h.hnd, h.hin, ?_, fun x hx => ?_, (fun q => by rw [show ({ o with keepers := o.keepers ++ [l.from_] } : MOp).wanted = o.wanted from rfl, hw] at q; cases q), h.told, h.wanted, h.val⟩
    · show (o.keepers ++ [l.from_]).Nodup
      rw [List.nodup_append]
      exact ⟨h.knd, by simp, fun a ha b hb q => nf (by rw [← List.mem_singleton.mp hb, ← q]; exact ha)⟩
    · rcases List.mem_append.mp hx with q | q
      · exact h.kin x q
      · rw [List.mem_singleton.mp q]; exact hn
  have hi' : W.clients[({ o with keepers := o.keepers ++ [l.from_] } : MOp).client]? = some c := by
    show W.clients[o.client]? = _
    rw [h.client]
    exact hi
  unfold MW.countKeeper
  dsimp only
  split
  · exact ok_setOp ok hi ci h1
  · split
    · exact ok_end ok hi' ci
    · exact ok_end ok hi' ci
theorem getD_ok {P : Copy → Prop} {l : List Copy} {k : Nat} (h : ∀ c ∈ l, P c) (hz : P zero) : P (l.getD k zero) := by
  rw [List.getD_eq_getElem?_getD]
  cases q : l[k]? with
  | none => exact hz
  | some c => exact h c (List.mem_of_getElem? q)
theorem keeps_ok {n : MNode} {l : Letter} (hl : CpOk l.copy) (h : n.cells.length = 3 ∧ ∀ c ∈ n.cells, CpOk c) : (n.keeps l).cells.length = 3 ∧ ∀ c ∈ (n.keeps l).cells, CpOk c := by
  unfold MNode.keeps
  split
  · refine ⟨by show (n.cells.set _ _).length = 3; rw [List.length_set]; exact h.1, fun c hc => ?_⟩
    rcases List.mem_or_eq_of_mem_set hc with q | q
    · exact h.2 c q
    · rw [q]; exact hl
  · exact h
theorem nd_mem {W : MW} {i : Nat} (h : i < W.nodes.length) : W.nd i ∈ W.nodes := List.mem_of_getElem? (nd_some h)
theorem ok_nodes {W : MW} (ok : Ok W) {t : Nat} {n' : MNode} (h : n'.cells.length = 3 ∧ ∀ c ∈ n'.cells, CpOk c) : Ok { W with nodes := W.nodes.set t n' } := by
  have e : (W.nodes.set t n').length = W.nodes.length := List.length_set ..
  refine ⟨by show (W.nodes.set t n').length ≤ 5; rw [e]; exact ok.nlen, ok.clen, fun n hn => ?_, ok.row, fun l hl => by show LtOk (W.nodes.set t n').length l; rw [e]; exact ok.lts l hl, fun i c k h1 h2 => by show ∃ o, _ ∧ OpOk (W.nodes.set t n').length i o; rw [e]; exact ok.ops i c k h1 h2⟩
  rcases List.mem_or_eq_of_mem_set hn with q | q
  · exact ok.cells n q
  · rw [q]; exact h
theorem ok_hand {W : MW} {l : Letter} (ok : Ok W) (hl : LtOk W.nodes.length l) : Ok (W.hand l).1 := by
  unfold MW.hand
  split
  · rename_i h02
    have he : l.kind % 2 = 0 := by omega
    obtain ⟨ht, hf⟩ := hl.even he
    unfold MW.handNode
    dsimp only
    split
    · exact ok
    · split
      · exact ok_send ok ⟨by show 1 < 4; decide, hl.cell, getD_ok (ok.cells _ (nd_mem ht)).2 zero_ok, fun (q : 1 % 2 = 0) => absurd q (by decide), fun _ => ⟨hf, ht⟩⟩
      · have o1 := ok_nodes ok (t := l.to_) (keeps_ok hl.copy (ok.cells _ (nd_mem ht)))
        refine ok_send o1 ⟨by show 3 < 4; decide, hl.cell, zero_ok, fun (q : 3 % 2 = 0) => absurd q (by decide), fun _ => ⟨hf, ?_⟩⟩
        show l.to_ < (W.nodes.set _ _).length
        rw [List.length_set]
        exact ht
  · rename_i h02
    have hk := hl.kind
    obtain ⟨ht, hf⟩ := hl.odd (by omega)
    have hi := cl_some ok ht
    unfold MW.handClient
    dsimp only
    split
    · exact ok
    · rename_i k hu
      obtain ⟨o, ho, hok⟩ := ok.ops _ _ k hi hu
      rw [opAt_of ho]
      split
      · exact ok
      · split
        · exact ok
        · split
          · exact ok
          · rename_i hc
            split
            · rename_i hw
              have ec : o.counted = o.heard := by unfold MOp.counted; rw [hw]
              rw [ec] at hc
              exact ok_hear ok hi hu hw (by simpa using hc) hf hl.copy ht hok
            · rename_i cp hw
              have ec : o.counted = o.keepers := by unfold MOp.counted; rw [hw]
              rw [ec] at hc
              exact ok_count ok hi hu hw (by simpa using hc) hf hok
end Cb

namespace Cb
open Ag02 (Copy Letter above same zero)
theorem busy_abs {W : MW} (ok : Ok W) {i : Nat} (h : i < 4) : (Ag02.client W.abs i).busy = (W.cl i).under.map fun k => busyOf k (W.opAt k) := by
  rw [client_abs]
  unfold cliOf
  dsimp only
  cases hu : (W.cl i).under with
  | none => rfl
  | some k =>
    obtain ⟨o, ho, _⟩ := ok.ops i _ k (cl_some ok h) hu
    show W.ops[k]?.map (busyOf k) = some (busyOf k (W.opAt k))
    rw [ho, opAt_of ho]
    rfl
/-- the world once an operation has begun, ahead of its letters -/
def MW.begun1 (W : MW) (i cell : Nat) (writes : Bool) (v : Nat) : MW :=
  { W with clients := W.clients.set i ⟨(W.cl i).begun + 1, (W.cl i).gone, some W.ops.length⟩, ops := W.ops ++ [⟨i, (W.cl i).begun + 1, cell, writes, v, W.events, -1, -1, [], [], none, []⟩], events := W.events + 1 }
def MW.newOp (W : MW) (i cell : Nat) (writes : Bool) (v : Nat) : MOp := ⟨i, (W.cl i).begun + 1, cell, writes, v, W.events, -1, -1, [], [], none, []⟩
theorem under_lt {W : MW} (ok : Ok W) {j k : Nat} {d : MClient} (hj : W.clients[j]? = some d) (dj : d.under = some k) : k < W.ops.length := by
  obtain ⟨o, ho, _⟩ := ok.ops j d k hj dj
  exact (List.getElem?_eq_some_iff.mp ho).1
theorem begun_clients {W : MW} (ok : Ok W) {i cell v : Nat} {writes : Bool} (hi : i < 4) :
    (W.begun1 i cell writes v).clients.map (cliOf (W.begun1 i cell writes v).ops) = (W.clients.map (cliOf W.ops)).set i ⟨(W.cl i).begun + 1, (W.cl i).gone, some (busyOf W.ops.length (W.newOp i cell writes v))⟩ := by
  unfold MW.begun1
  dsimp only
  rw [List.map_set]
  refine List.ext_getElem? fun j => ?_
  have hl : i < W.clients.length := by rw [ok.clen]; exact hi
  by_cases q : i = j
  · subst q
    rw [List.getElem?_set_self (by rw [List.length_map]; exact hl), List.getElem?_set_self (by rw [List.length_map]; exact hl)]
    unfold cliOf
    dsimp only
    show some (⟨_, _, ((W.ops ++ [W.newOp i cell writes v])[W.ops.length]?).map (busyOf W.ops.length)⟩ : Ag02.Client) = _
    rw [List.getElem?_append_right (Nat.le_refl _), Nat.sub_self]
    rfl
  · rw [List.getElem?_set_ne q, List.getElem?_set_ne q, List.getElem?_map, List.getElem?_map]
    cases hj : W.clients[j]? with
    | none => rfl
    | some d =>
      show some _ = some _
      congr 1
      unfold cliOf
      cases hu : d.under with
      | none => rfl
      | some k =>
        have hk := under_lt ok hj hu
        show (⟨d.begun, d.gone, ((W.ops ++ [W.newOp i cell writes v])[k]?).map (busyOf k)⟩ : Ag02.Client) = ⟨d.begun, d.gone, W.ops[k]?.map (busyOf k)⟩
        rw [List.getElem?_append_left hk]
theorem begun_absR {W : MW} (ok : Ok W) {i cell : Nat} (hi : i < 4) :
    ((W.begun1 i cell false 0).sendTo (W.newOp i cell false 0)).abs = Ag02.begun W.abs i cell none := by
  rw [sendTo_row (W.begun1 i cell false 0) _ ok.row]
  unfold Ag02.begun
  dsimp only
  have ec : Ag02.client W.abs i = cliOf W.ops (W.cl i) := client_abs W i
  have eb : (⟨(Ag02.client W.abs i).count + 1, cell, none, W.abs.record.ops.length, false, [], zero, []⟩ : Ag02.Busy) = busyOf W.ops.length (W.newOp i cell false 0) := by
    rw [ec]
    show (⟨(W.cl i).begun + 1, cell, _, (W.ops.map opOf).length, false, [], zero, []⟩ : Ag02.Busy) = _
    rw [List.length_map]
    rfl
  rw [eb]
  have ecalls : Ag02.calls ({ W.abs with record := { W.abs.record with ops := W.abs.record.ops ++ [opOf (W.newOp i cell false 0)], time := W.abs.record.time + 1 } } : Ag02.State) i (busyOf W.ops.length (W.newOp i cell false 0)) = ((W.begun1 i cell false 0).missing (W.newOp i cell false 0)).map (W.newOp i cell false 0).letterTo :=
    calls_abs (W := W) (o := W.newOp i cell false 0) rfl rfl
  have ecl := begun_clients ok (cell := cell) (v := 0) (writes := false) hi
  have e3 : (W.begun1 i cell false 0).ops.map opOf = W.ops.map opOf ++ [opOf (W.newOp i cell false 0)] := by
    show (W.ops ++ [W.newOp i cell false 0]).map opOf = _
    rw [List.map_append]
    rfl
  have e4 : Ag02.client ({ W.abs with record := { W.abs.record with ops := W.abs.record.ops ++ [opOf (W.newOp i cell false 0)], time := W.abs.record.time + 1 } } : Ag02.State) i = cliOf W.ops (W.cl i) := client_abs W i
  show _ = Ag02.send (Ag02.setClient ({ W.abs with record := { W.abs.record with ops := W.abs.record.ops ++ [opOf (W.newOp i cell false 0)], time := W.abs.record.time + 1 } } : Ag02.State) i { Ag02.client W.abs i with count := (Ag02.client W.abs i).count + 1, busy := some (busyOf W.ops.length (W.newOp i cell false 0)) }) (Ag02.calls ({ W.abs with record := { W.abs.record with ops := W.abs.record.ops ++ [opOf (W.newOp i cell false 0)], time := W.abs.record.time + 1 } } : Ag02.State) i (busyOf W.ops.length (W.newOp i cell false 0)))
  rw [ecalls, ec]
  unfold Ag02.send Ag02.setClient
  dsimp only
  unfold MW.abs
  dsimp only
  rw [ecl, e3]
  rfl
theorem begun_absW {W : MW} (ok : Ok W) {i cell v : Nat} (hi : i < 4) :
    ((W.begun1 i cell true v).sendTo (W.newOp i cell true v)).abs = Ag02.begun W.abs i cell (some v) := by
  rw [sendTo_row (W.begun1 i cell true v) _ ok.row]
  unfold Ag02.begun
  dsimp only
  have ec : Ag02.client W.abs i = cliOf W.ops (W.cl i) := client_abs W i
  have eb : (⟨(Ag02.client W.abs i).count + 1, cell, (some v), W.abs.record.ops.length, false, [], zero, []⟩ : Ag02.Busy) = busyOf W.ops.length (W.newOp i cell true v) := by
    rw [ec]
    show (⟨(W.cl i).begun + 1, cell, _, (W.ops.map opOf).length, false, [], zero, []⟩ : Ag02.Busy) = _
    rw [List.length_map]
    rfl
  rw [eb]
  have ecalls : Ag02.calls ({ W.abs with record := { W.abs.record with ops := W.abs.record.ops ++ [opOf (W.newOp i cell true v)], time := W.abs.record.time + 1 } } : Ag02.State) i (busyOf W.ops.length (W.newOp i cell true v)) = ((W.begun1 i cell true v).missing (W.newOp i cell true v)).map (W.newOp i cell true v).letterTo :=
    calls_abs (W := W) (o := W.newOp i cell true v) rfl rfl
  have ecl := begun_clients ok (cell := cell) (v := v) (writes := true) hi
  have e3 : (W.begun1 i cell true v).ops.map opOf = W.ops.map opOf ++ [opOf (W.newOp i cell true v)] := by
    show (W.ops ++ [W.newOp i cell true v]).map opOf = _
    rw [List.map_append]
    rfl
  have e4 : Ag02.client ({ W.abs with record := { W.abs.record with ops := W.abs.record.ops ++ [opOf (W.newOp i cell true v)], time := W.abs.record.time + 1 } } : Ag02.State) i = cliOf W.ops (W.cl i) := client_abs W i
  show _ = Ag02.send (Ag02.setClient ({ W.abs with record := { W.abs.record with ops := W.abs.record.ops ++ [opOf (W.newOp i cell true v)], time := W.abs.record.time + 1 } } : Ag02.State) i { Ag02.client W.abs i with count := (Ag02.client W.abs i).count + 1, busy := some (busyOf W.ops.length (W.newOp i cell true v)) }) (Ag02.calls ({ W.abs with record := { W.abs.record with ops := W.abs.record.ops ++ [opOf (W.newOp i cell true v)], time := W.abs.record.time + 1 } } : Ag02.State) i (busyOf W.ops.length (W.newOp i cell true v)))
  rw [ecalls, ec]
  unfold Ag02.send Ag02.setClient
  dsimp only
  unfold MW.abs
  dsimp only
  rw [ecl, e3]
  rfl
theorem begun_abs {W : MW} (ok : Ok W) {i cell v : Nat} {writes : Bool} (hi : i < 4) {w : Option Nat} (hw : w = if writes = true then some v else none) (hv : writes = false → v = 0) :
    ((W.begun1 i cell writes v).sendTo (W.newOp i cell writes v)).abs = Ag02.begun W.abs i cell w := by
  subst hw
  cases writes with
  | true => exact begun_absW ok hi
  | false =>
    have := hv rfl
    subst this
    exact begun_absR ok hi
theorem begins_is {W : MW} {i cell v : Nat} {writes : Bool} (h1 : ¬ (4 ≤ i ∨ 3 ≤ cell ∨ 99 < v)) (h2 : ¬ ((W.cl i).under.isSome = true ∨ (W.cl i).gone = true)) :
    W.begins i cell writes v = ((W.begun1 i cell writes v).sendTo (W.newOp i cell writes v), [(((W.cl i).begun + 1 : Nat) : Int)]) := by
  unfold MW.begins
  rw [if_neg h1]
  dsimp only
  rw [if_neg h2]
  rfl
theorem newOp_ok {W : MW} {i cell v : Nat} {writes : Bool} (hc : cell < 3) (hv : writes = false → v = 0) : OpOk W.nodes.length i (W.newOp i cell writes v) :=
  ⟨rfl, hc, rfl, rfl, List.nodup_nil, (fun _ h => nomatch h), List.nodup_nil, (fun _ h => nomatch h), fun _ => rfl, (fun _ h => nomatch h), (fun _ h => nomatch h), hv⟩
theorem ok_begun1 {W : MW} (ok : Ok W) {i cell v : Nat} {writes : Bool} (hi : i < 4) (hc : cell < 3) (hv : writes = false → v = 0) : Ok (W.begun1 i cell writes v) := by
  refine ⟨ok.nlen, by show (W.clients.set _ _).length = 4; rw [List.length_set]; exact ok.clen, ok.cells, ok.row, ok.lts, fun j d m hj dj => ?_⟩
  have hl : i < W.clients.length := by rw [ok.clen]; exact hi
  have hj : (W.clients.set i ⟨(W.cl i).begun + 1, (W.cl i).gone, some W.ops.length⟩)[j]? = some d := hj
  by_cases q : i = j
  · subst q
    rw [List.getElem?_set_self hl] at hj
    cases hj
    cases dj
    exact ⟨W.newOp i cell writes v, by show (W.ops ++ [W.newOp i cell writes v])[W.ops.length]? = _; rw [List.getElem?_append_right (Nat.le_refl _), Nat.sub_self]; rfl, newOp_ok (W := W) hc hv⟩
  · rw [List.getElem?_set_ne q] at hj
    obtain ⟨o, ho, hok⟩ := ok.ops j d m hj dj
    exact ⟨o, by show (W.ops ++ [W.newOp i cell writes v])[m]? = _; rw [List.getElem?_append_left (List.getElem?_eq_some_iff.mp ho).1]; exact ho, hok⟩
theorem ok_begins {W : MW} (ok : Ok W) {i cell v : Nat} {writes : Bool} (hv : writes = false → v = 0) : Ok (W.begins i cell writes v).1 := by
  by_cases h1 : 4 ≤ i ∨ 3 ≤ cell ∨ 99 < v
  · unfold MW.begins
    rw [if_pos h1]
    exact ok
  · by_cases h2 : (W.cl i).under.isSome = true ∨ (W.cl i).gone = true
    · unfold MW.begins
      rw [if_neg h1]
      dsimp only
      rw [if_pos h2]
      exact ok
    · rw [begins_is h1 h2]
      exact ok_sendTo (ok_begun1 ok (by omega) (by omega) hv) (i := i) (by omega) (newOp_ok (W := W) (by omega) hv)
/-! ### the calls -/
def canBegin (w : List Nat) : Bool := decide (¬ (w.isEmpty = true ∨ (5 < w.length ∨ (w.any (fun (n : Nat) => decide (9 < n)) = true ∨ Ag02.sum w = 0))))
def MW.quit (W : MW) (i : Nat) : MW × List Int := if 4 ≤ i then (W, [-1]) else if (W.cl i).gone = true then (W, [-2]) else (W.setClient i { W.cl i with gone := true }, [0])
def MW.setUp (W : MW) (i : Nat) (b : Bool) : MW × List Int := if W.nodes.length ≤ i then (W, [-1]) else if (W.nd i).up = b then (W, [-2]) else ({ W with nodes := W.nodes.set i { W.nd i with up := b } }, [0])
def mstep (o : Option MW) (c : Ag02.Call) : Option MW × List Int := match c, o with
  | .begin_ w, _ => if canBegin w = true then (some (freshW w), [0]) else (o, [-1])
  | _, none => (none, [-9])
  | .read i x, some W => (some (W.begins i x false 0).1, (W.begins i x false 0).2)
  | .write i x v, some W => (some (W.begins i x true v).1, (W.begins i x true v).2)
  | .take k, some W => (some (W.take k).1, (W.take k).2)
  | .again k, some W => (some (W.again k).1, (W.again k).2)
  | .lose k, some W => (some (W.lose k).1, (W.lose k).2)
  | .nudge i, some W => (some (W.nudge i).1, (W.nudge i).2)
  | .quit i, some W => (some (W.quit i).1, (W.quit i).2)
  | .halt_ i, some W => (some (W.setUp i false).1, (W.setUp i false).2)
  | .start i, some W => (some (W.setUp i true).1, (W.setUp i true).2)
  | .letters, some W => (o, (Ag02.step (some W.abs) .letters).2)
  | .node i, some W => (o, (Ag02.step (some W.abs) (.node i)).2)
  | .client i, some W => (o, (Ag02.step (some W.abs) (.client i)).2)
  | .record, some W => (o, (Ag02.step (some W.abs) .record).2)
def OkO (o : Option MW) : Prop := ∀ W, o = some W → Ok W
theorem fresh_ok {w : List Nat} (h : w.length ≤ 5) : Ok (freshW w) := by
  unfold freshW
  refine ⟨by show (w.map _).length ≤ 5; rw [List.length_map]; exact h, rfl, fun n hn => ?_, by show 0 ≤ 100; decide, (fun _ h => nomatch h), fun i c k hi ci => ?_⟩
  · obtain ⟨x, _, e⟩ := List.mem_map.mp hn
    rw [← e]
    refine ⟨rfl, fun c hc => ?_⟩
    simp at hc
    rw [hc]
    exact zero_ok
  · have hc : c ∈ [(⟨0, false, none⟩ : MClient), ⟨0, false, none⟩, ⟨0, false, none⟩, ⟨0, false, none⟩] := List.mem_of_getElem? hi
    simp at hc
    rw [hc] at ci
    cases ci
theorem fresh_abs (w : List Nat) : (freshW w).abs = ⟨w, w.map fun (_ : Nat) => ⟨true, List.replicate Ag02.CELLS zero⟩, List.replicate Ag02.CLIENTS ⟨0, false, none⟩, [], ⟨List.replicate Ag02.CELLS 0, [], 0⟩⟩ := by
  unfold freshW MW.abs
  dsimp only
  rw [List.map_map, List.map_map]
  have e : w.map ((fun x => x.weight) ∘ fun n => (⟨n, true, [zero, zero, zero]⟩ : MNode)) = w := by
    show w.map (fun n => n) = w
    exact List.map_id' w
  rw [e]
  rfl
theorem begins_step {W : MW} (ok : Ok W) {i x v : Nat} {writes : Bool} {w : Option Nat} (hw : w = if writes = true then some v else none) (hv : writes = false → v = 0) :
    (if Ag02.CLIENTS ≤ i ∨ (Ag02.CELLS ≤ x ∨ 99 < v) then (some W.abs, ([-1] : List Int)) else if (Ag02.client W.abs i).busy.isSome = true ∨ (Ag02.client W.abs i).gone = true then (some W.abs, [-2]) else (some (Ag02.begun W.abs i x w), [((Ag02.client W.abs i).count + 1 : Nat)])) = ((some (W.begins i x writes v).1.abs : Option Ag02.State), (W.begins i x writes v).2) := by
  by_cases h1 : 4 ≤ i ∨ 3 ≤ x ∨ 99 < v
  · rw [if_pos (show Ag02.CLIENTS ≤ i ∨ (Ag02.CELLS ≤ x ∨ 99 < v) from h1)]
    unfold MW.begins
    rw [if_pos h1]
  · rw [if_neg (show ¬ (Ag02.CLIENTS ≤ i ∨ (Ag02.CELLS ≤ x ∨ 99 < v)) from h1)]
    have hi : i < 4 := by omega
    have eb : (Ag02.client W.abs i).busy.isSome = (W.cl i).under.isSome := by
      rw [busy_abs ok hi]
      cases (W.cl i).under <;> rfl
    have eg : (Ag02.client W.abs i).gone = (W.cl i).gone := by rw [client_abs]; rfl
    have ecn : (Ag02.client W.abs i).count = (W.cl i).begun := by rw [client_abs]; rfl
    rw [eb, eg, ecn]
    by_cases h2 : (W.cl i).under.isSome = true ∨ (W.cl i).gone = true
    · rw [if_pos h2]
      unfold MW.begins
      rw [if_neg h1]
      dsimp only
      rw [if_pos h2]
    · rw [if_neg h2, begins_is h1 h2]
      dsimp only
      rw [begun_abs ok hi hw hv]
theorem step_abs {o : Option MW} (ok : OkO o) (c : Ag02.Call) : Ag02.step (o.map MW.abs) c = ((mstep o c).1.map MW.abs, (mstep o c).2) := by
  cases o with
  | none =>
    cases c with
    | begin_ w =>
      by_cases h : w.isEmpty = true ∨ (5 < w.length ∨ (w.any (fun (n : Nat) => decide (9 < n)) = true ∨ Ag02.sum w = 0))
      · have e : mstep none (.begin_ w) = (none, [-1]) := if_neg (show ¬ canBegin w = true from fun q => of_decide_eq_true q h)
        rw [e]
        exact if_pos h
      · have e : mstep none (.begin_ w) = (some (freshW w), [0]) := if_pos (decide_eq_true h)
        rw [e]
        show _ = (some (freshW w).abs, [0])
        rw [fresh_abs]
        exact if_neg h
    | _ => rfl
  | some W =>
    have okW := ok W rfl
    cases c with
    | begin_ w =>
      by_cases h : w.isEmpty = true ∨ (5 < w.length ∨ (w.any (fun (n : Nat) => decide (9 < n)) = true ∨ Ag02.sum w = 0))
      · have e : mstep (some W) (.begin_ w) = (some W, [-1]) := if_neg (show ¬ canBegin w = true from fun q => of_decide_eq_true q h)
        rw [e]
        exact if_pos h
      · have e : mstep (some W) (.begin_ w) = (some (freshW w), [0]) := if_pos (decide_eq_true h)
        rw [e]
        show _ = (some (freshW w).abs, [0])
        rw [fresh_abs]
        exact if_neg h
    | read i x =>
      have q := begins_step okW (i := i) (x := x) (v := 0) (writes := false) (w := none) rfl (fun _ => rfl)
      refine Eq.trans ?_ q
      show (if Ag02.CLIENTS ≤ i ∨ Ag02.CELLS ≤ x then _ else _) = _
      by_cases h : Ag02.CLIENTS ≤ i ∨ Ag02.CELLS ≤ x
      · rw [if_pos h, if_pos (h.elim .inl fun z => .inr (.inl z))]
        rfl
      · rw [if_neg h, if_neg (show ¬ (Ag02.CLIENTS ≤ i ∨ (Ag02.CELLS ≤ x ∨ 99 < 0)) from fun z => h (z.elim .inl fun z => z.elim .inr fun z => absurd z (by omega)))]
        rfl
    | write i x v => exact begins_step okW (i := i) (x := x) (v := v) (writes := true) (w := some v) rfl (fun q => by cases q)
    | take k =>
      show (match W.row[k]? with | none => _ | some x => _) = _
      unfold mstep MW.take
      dsimp only
      cases hk : W.row[k]? with
      | none => rfl
      | some l =>
        have o1 : Ok { W with row := W.row.eraseIdx k } := ok_rowOf okW (by have := List.length_eraseIdx_le W.row k; have := okW.row; omega) fun l hl => okW.lts l (List.mem_of_mem_eraseIdx hl)
        have q := hand_abs o1 (l := l) (okW.lts l (List.mem_of_getElem? hk))
        show (some (Ag02.hand ({ W with row := W.row.eraseIdx k } : MW).abs l).1, (Ag02.hand ({ W with row := W.row.eraseIdx k } : MW).abs l).2) = _
        rw [q]
        rfl
    | again k =>
      show (match W.row[k]? with | none => _ | some x => _) = _
      unfold mstep MW.again
      dsimp only
      cases hk : W.row[k]? with
      | none => rfl
      | some l =>
        have q := hand_abs okW (l := l) (okW.lts l (List.mem_of_getElem? hk))
        show (some (Ag02.hand W.abs l).1, (Ag02.hand W.abs l).2) = _
        rw [q]
        rfl
    | lose k =>
      show (if W.row.length ≤ k then _ else _) = _
      unfold mstep MW.lose
      dsimp only
      split <;> rfl
    | nudge i =>
      show (if Ag02.CLIENTS ≤ i then _ else _) = _
      unfold mstep MW.nudge
      dsimp only
      by_cases h : 4 ≤ i
      · rw [if_pos (show Ag02.CLIENTS ≤ i from h), if_pos h]
        try rfl
      · rw [if_neg (show ¬ Ag02.CLIENTS ≤ i from h), if_neg h]
        have hi : i < 4 := by omega
        have eg : (Ag02.client W.abs i).gone = (W.cl i).gone := by rw [client_abs]; rfl
        rw [busy_abs okW hi, eg]
        cases hu : (W.cl i).under with
        | none => rfl
        | some k =>
          obtain ⟨p, ho, hok⟩ := okW.ops i _ k (cl_some okW hi) hu
          have eo := opAt_of ho
          subst eo
          cases hg : (W.cl i).gone with
          | true => rfl
          | false =>
            show (some (Ag02.send W.abs (Ag02.calls W.abs i (busyOf k (W.opAt k)))), [((Ag02.calls W.abs i (busyOf k (W.opAt k))).length : Int)]) = (some (W.sendTo (W.opAt k)).abs, [((W.missing (W.opAt k)).length : Int)])
            rw [sendTo_abs (k := k) okW.row hok.len hok.client, calls_abs hok.len hok.client, List.length_map]
    | quit i =>
      show (if Ag02.CLIENTS ≤ i then _ else _) = _
      unfold mstep MW.quit
      dsimp only
      by_cases h : 4 ≤ i
      · rw [if_pos (show Ag02.CLIENTS ≤ i from h), if_pos h]
        try rfl
      · rw [if_neg (show ¬ Ag02.CLIENTS ≤ i from h), if_neg h]
        have eg : (Ag02.client W.abs i).gone = (W.cl i).gone := by rw [client_abs]; rfl
        rw [eg]
        by_cases hg : (W.cl i).gone = true
        · rw [if_pos hg, if_pos hg]
          try rfl
        · rw [if_neg hg, if_neg hg]
          have ea : (W.setClient i { W.cl i with gone := true }).abs = Ag02.setClient W.abs i { Ag02.client W.abs i with gone := true } := by
            rw [client_abs]
            unfold MW.abs MW.setClient Ag02.setClient
            dsimp only
            rw [List.map_set]
            rfl
          show _ = (some (W.setClient i { W.cl i with gone := true }).abs, [0])
          rw [ea]
    | halt_ i =>
      show (if W.abs.nodes.length ≤ i then _ else _) = _
      have en : W.abs.nodes.length = W.nodes.length := List.length_map ..
      unfold mstep MW.setUp
      dsimp only
      rw [en, node_abs]
      by_cases h : W.nodes.length ≤ i
      · rw [if_pos h, if_pos h]
        try rfl
      · rw [if_neg h, if_neg h]
        by_cases hu : (W.nd i).up = false
        · rw [if_pos (show (nodeOf (W.nd i)).up = false from hu), if_pos hu]
          try rfl
        · rw [if_neg (show ¬ (nodeOf (W.nd i)).up = false from hu), if_neg hu]
          have ea := nodes_set_abs (W := W) (t := i) (n' := { W.nd i with up := false }) (by omega) rfl
          show _ = (some (MW.abs { W with nodes := W.nodes.set i { W.nd i with up := false } }), [0])
          rw [ea]
          rfl
    | start i =>
      show (if W.abs.nodes.length ≤ i then _ else _) = _
      have en : W.abs.nodes.length = W.nodes.length := List.length_map ..
      unfold mstep MW.setUp
      dsimp only
      rw [en, node_abs]
      by_cases h : W.nodes.length ≤ i
      · rw [if_pos h, if_pos h]
        try rfl
      · rw [if_neg h, if_neg h]
        by_cases hu : (W.nd i).up = true
        · rw [if_pos (show (nodeOf (W.nd i)).up = true from hu), if_pos hu]
          try rfl
        · rw [if_neg (show ¬ (nodeOf (W.nd i)).up = true from hu), if_neg hu]
          have ea := nodes_set_abs (W := W) (t := i) (n' := { W.nd i with up := true }) (by omega) rfl
          show _ = (some (MW.abs { W with nodes := W.nodes.set i { W.nd i with up := true } }), [0])
          rw [ea]
          rfl
    | letters => rfl
    | node i => rfl
    | client i => rfl
    | record => rfl
end Cb

/-! The mirror's ways, one by one. -/
namespace Cb
open Ag02 (Copy Letter above same zero)
section
variable {W : MW} {k : Nat} {o : MOp} {l : Letter}
theorem count_few (h : W.most (o.keepers ++ [l.from_]) = false) : W.countKeeper k o l = (W.setOp k { o with keepers := o.keepers ++ [l.from_] }, [2]) := if_pos h
theorem count_w (h : W.most (o.keepers ++ [l.from_]) = true) (hw : o.writes = true) : W.countKeeper k o l = (W.setOp k { o with keepers := o.keepers ++ [l.from_] }).end_ k { o with keepers := o.keepers ++ [l.from_] } 0 :=
  (if_neg (show ¬ (W.setOp k { o with keepers := o.keepers ++ [l.from_] }).most (o.keepers ++ [l.from_]) = false by rw [most_setOp, h]; decide)).trans (if_pos hw)
theorem count_r {cp : Copy} (h : W.most (o.keepers ++ [l.from_]) = true) (hw : o.writes = false) (hc : o.wanted = some cp) :
    W.countKeeper k o l = (W.setOp k { o with keepers := o.keepers ++ [l.from_] }).end_ k { o with keepers := o.keepers ++ [l.from_] } cp.value := by
  refine (if_neg (show ¬ (W.setOp k { o with keepers := o.keepers ++ [l.from_] }).most (o.keepers ++ [l.from_]) = false by rw [most_setOp, h]; decide)).trans ((if_neg (show ¬ o.writes = true by rw [hw]; decide)).trans ?_)
  show MW.end_ _ _ _ (o.wanted.getD zero).value = _
  have e : o.wanted.getD zero = cp := by rw [hc]; rfl
  rw [e]
theorem hear_few (h : W.most (o.hears l).heard = false) : W.hear k o l = (W.setOp k (o.hears l), [2]) := if_pos h
theorem hear_w (h : W.most (o.hears l).heard = true) (hw : o.writes = true) : W.hear k o l = (W.setOp k (o.hears l)).haveKept k (o.hears l) ⟨(bestOf (o.hears l).told).num + 1, o.client, o.value⟩ :=
  (if_neg (show ¬ (W.setOp k (o.hears l)).most (o.hears l).heard = false by rw [most_setOp, h]; decide)).trans (if_pos hw)
def MOp.knows (o : MOp) : MOp := { o with keepers := o.told_ (bestOf o.told) }
theorem hear_end (h : W.most (o.hears l).heard = true) (hw : o.writes = false) (hm : W.most ((o.hears l).told_ (bestOf (o.hears l).told)) = true) :
    W.hear k o l = (W.setOp k (o.hears l).knows).end_ k (o.hears l).knows (bestOf (o.hears l).told).value := by
  refine (if_neg (show ¬ (W.setOp k (o.hears l)).most (o.hears l).heard = false by rw [most_setOp, h]; decide)).trans ((if_neg (show ¬ o.writes = true by rw [hw]; decide)).trans ((if_pos hm).trans ?_))
  rw [setOp_setOp]
  rfl
theorem hear_keep (h : W.most (o.hears l).heard = true) (hw : o.writes = false) (hm : W.most ((o.hears l).told_ (bestOf (o.hears l).told)) = false) :
    W.hear k o l = (W.setOp k (o.hears l).knows).haveKept k (o.hears l).knows (bestOf (o.hears l).told) := by
  refine (if_neg (show ¬ (W.setOp k (o.hears l)).most (o.hears l).heard = false by rw [most_setOp, h]; decide)).trans ((if_neg (show ¬ o.writes = true by rw [hw]; decide)).trans ((if_neg (show ¬ ((W.setOp k (o.hears l)).setOp k (o.hears l).knows).most ((o.hears l).told_ (bestOf (o.hears l).told)) = true by rw [most_setOp, most_setOp, hm]; decide)).trans ?_))
  rw [setOp_setOp]
  rfl
theorem handC_none (h : (W.cl l.to_).under = none) : W.handClient l = (W, [0]) := by
  unfold MW.handClient
  dsimp only
  rw [h]
theorem handC_gone {k : Nat} (h : (W.cl l.to_).under = some k) (hg : (W.cl l.to_).gone = true) : W.handClient l = (W, [0]) := by
  unfold MW.handClient
  dsimp only
  rw [h]
  exact if_pos hg
theorem handC_other (h : (W.cl l.to_).under = some k) (hg : (W.cl l.to_).gone = false) (ho : W.ops[k]? = some o) (hx : l.op ≠ o.number ∨ l.kind ≠ o.awaited) : W.handClient l = (W, [0]) := by
  unfold MW.handClient
  dsimp only
  rw [h]
  refine (if_neg (by rw [hg]; decide)).trans ?_
  rw [opAt_of ho]
  exact if_pos hx
theorem handC_twice (h : (W.cl l.to_).under = some k) (hg : (W.cl l.to_).gone = false) (ho : W.ops[k]? = some o) (hx : ¬ (l.op ≠ o.number ∨ l.kind ≠ o.awaited)) (hc : o.counted.contains l.from_ = true) : W.handClient l = (W, [0]) := by
  unfold MW.handClient
  dsimp only
  rw [h]
  refine (if_neg (by rw [hg]; decide)).trans ?_
  rw [opAt_of ho]
  exact (if_neg hx).trans (if_pos hc)
theorem handC_hear (h : (W.cl l.to_).under = some k) (hg : (W.cl l.to_).gone = false) (ho : W.ops[k]? = some o) (hx : ¬ (l.op ≠ o.number ∨ l.kind ≠ o.awaited)) (hc : o.counted.contains l.from_ = false) (hw : o.wanted = none) : W.handClient l = W.hear k o l := by
  unfold MW.handClient
  dsimp only
  rw [h]
  refine (if_neg (by rw [hg]; decide)).trans ?_
  rw [opAt_of ho]
  refine (if_neg hx).trans ((if_neg (by rw [hc]; decide)).trans ?_)
  rw [hw]
theorem handC_count {cp : Copy} (h : (W.cl l.to_).under = some k) (hg : (W.cl l.to_).gone = false) (ho : W.ops[k]? = some o) (hx : ¬ (l.op ≠ o.number ∨ l.kind ≠ o.awaited)) (hc : o.counted.contains l.from_ = false) (hw : o.wanted = some cp) : W.handClient l = W.countKeeper k o l := by
  unfold MW.handClient
  dsimp only
  rw [h]
  refine (if_neg (by rw [hg]; decide)).trans ?_
  rw [opAt_of ho]
  refine (if_neg hx).trans ((if_neg (by rw [hc]; decide)).trans ?_)
  rw [hw]
end
end Cb

/-! How the mirror lies in the heap. -/
namespace Cb
open PySem L2
open Ag02 (Copy Letter above same zero)
abbrev Tag := Nat × Nat
/-! ### lists side by side -/
structure Al {α β : Type} (R : Nat → α → β → Prop) (l : List α) (m : List β) : Prop where
  len : l.length = m.length
  at_ : ∀ j a b, l[j]? = some a → m[j]? = some b → R j a b
section
variable {α β : Type} {R S : Nat → α → β → Prop} {l : List α} {m : List β}
theorem Al.get (h : Al R l m) {j : Nat} {b : β} (hb : m[j]? = some b) : ∃ a, l[j]? = some a ∧ R j a b := by
  have hj : j < l.length := by rw [h.len]; exact (List.getElem?_eq_some_iff.mp hb).1
  exact ⟨l[j], List.getElem?_eq_getElem hj, h.at_ j _ b (List.getElem?_eq_getElem hj) hb⟩
theorem Al.getL (h : Al R l m) {j : Nat} {a : α} (ha : l[j]? = some a) : ∃ b, m[j]? = some b ∧ R j a b := by
  have hj : j < m.length := by rw [← h.len]; exact (List.getElem?_eq_some_iff.mp ha).1
  exact ⟨m[j], List.getElem?_eq_getElem hj, h.at_ j a _ ha (List.getElem?_eq_getElem hj)⟩
theorem Al.imp (h : Al R l m) (f : ∀ j a b, l[j]? = some a → m[j]? = some b → R j a b → S j a b) : Al S l m := ⟨h.len, fun j a b x y => f j a b x y (h.at_ j a b x y)⟩
theorem Al.nil : Al R [] [] := ⟨rfl, fun j a b x _ => by simp at x⟩
theorem Al.push (h : Al R l m) {a : α} {b : β} (r : R l.length a b) : Al R (l ++ [a]) (m ++ [b]) := by
  refine ⟨by rw [List.length_append, List.length_append, h.len]; rfl, fun j x y hx hy => ?_⟩
  by_cases q : j < l.length
  · rw [List.getElem?_append_left q] at hx
    rw [List.getElem?_append_left (by rw [← h.len]; exact q)] at hy
    exact h.at_ j x y hx hy
  · have e : j = l.length := by
      have := (List.getElem?_eq_some_iff.mp hx).1
      rw [List.length_append, List.length_singleton] at this
      omega
    subst e
    rw [List.getElem?_append_right (Nat.le_refl _), Nat.sub_self] at hx
    rw [h.len, List.getElem?_append_right (Nat.le_refl _), Nat.sub_self] at hy
    cases hx
    cases hy
    exact r
theorem Al.set2 (h : Al R l m) {k : Nat} {a : α} {b : β} (r : R k a b) : Al R (l.set k a) (m.set k b) := by
  refine ⟨by rw [List.length_set, List.length_set]; exact h.len, fun j x y hx hy => ?_⟩
  by_cases q : k = j
  · subst q
    have h1 := (List.getElem?_eq_some_iff.mp hx).1
    have h2 := (List.getElem?_eq_some_iff.mp hy).1
    rw [List.length_set] at h1 h2
    rw [List.getElem?_set_self h1] at hx
    rw [List.getElem?_set_self h2] at hy
    cases hx
    cases hy
    exact r
  · rw [List.getElem?_set_ne q] at hx hy
    exact h.at_ j x y hx hy
/-- one place changed on the right, what stands for it changed in the relation -/
theorem Al.setR (h : Al R l m) {k : Nat} {b : β} (o : ∀ j a c, j ≠ k → l[j]? = some a → m[j]? = some c → R j a c → S j a c) (r : ∀ a, l[k]? = some a → S k a b) : Al S l (m.set k b) := by
  refine ⟨by rw [List.length_set]; exact h.len, fun j x y hx hy => ?_⟩
  by_cases q : k = j
  · subst q
    have h2 := (List.getElem?_eq_some_iff.mp hy).1
    rw [List.length_set] at h2
    rw [List.getElem?_set_self h2] at hy
    cases hy
    exact r x hx
  · rw [List.getElem?_set_ne q] at hy
    exact o j x y (fun z => q z.symm) hx hy (h.at_ j x y hx hy)
end
theorem Al.erase {α β : Type} {R : α → β → Prop} {l : List α} {m : List β} (h : Al (fun _ => R) l m) (k : Nat) : Al (fun _ => R) (l.eraseIdx k) (m.eraseIdx k) := by
  refine ⟨by rw [List.length_eraseIdx, List.length_eraseIdx, h.len], fun j x y hx hy => ?_⟩
  rw [List.getElem?_eraseIdx] at hx hy
  split at hx
  · rename_i q
    rw [if_pos q] at hy
    exact h.at_ _ x y hx hy
  · rename_i q
    rw [if_neg q] at hy
    exact h.at_ _ x y hx hy
/-! ### the objects -/
def cpV (c : Copy) : List V := [.int c.num, .int c.who, .int c.value]
def nsV (l : List Nat) : List V := l.map fun (n : Nat) => V.int (n : Int)
section
variable (A : Adr) (τ : Addr → Tag) (H : Hp)
def CpAt (a : Addr) (c : Copy) : Prop := (a = A.z_ZERO_COPY ∧ c = zero) ∨ (H a = some (.tup (cpV c)) ∧ τ a = (0, 0))
def LtAt (a : Addr) (l : Letter) : Prop := ∃ dx e, τ a = (0, 0) ∧ H a = some (.ins A.c_Letter dx (F_Letter (.int l.kind) (.int l.to_) (.int l.from_) (.int l.op) (.int l.cell) (.ref e))) ∧ CpAt A τ H e l.copy
def NodeAt (i : Nat) (a : Addr) (n : MNode) : Prop := ∃ dx l cs, τ a = (4, i) ∧ H a = some (.ins A.c_Node dx (F_Node (.int n.weight) (.bl n.up) (.ref l))) ∧ τ l = (5, i) ∧ H l = some (.lst (cs.map V.ref)) ∧ Al (fun _ => CpAt A τ H) cs n.cells
def undV (oa : List Addr) (u : V) : Option Nat → Prop
  | none => u = .non
  | some k => ∃ b, oa[k]? = some b ∧ u = .ref b
def ClAt (oa : List Addr) (i : Nat) (a : Addr) (c : MClient) : Prop := ∃ dx u, τ a = (6, i) ∧ H a = some (.ins A.c_Client dx (F_Client (.int c.begun) (.bl c.gone) u)) ∧ undV oa u c.under
def wanV (w : V) : Option Copy → Prop
  | none => w = .non
  | some c => ∃ e, w = .ref e ∧ CpAt A τ H e c
def opF (o : MOp) (h t w q : V) : List (Str × V) := F_Operation (.int o.client) (.int o.number) (.int o.cell) (.bl o.writes) (.int o.value) (.int o.began) (.int o.ended) (.int o.result) h t w q
def OpAt (k : Nat) (a : Addr) (o : MOp) : Prop := ∃ dx h t q w ts, τ a = (7, k) ∧ H a = some (.ins A.c_Operation dx (opF o (.ref h) (.ref t) w (.ref q))) ∧ τ h = (8, k) ∧ H h = some (.lst (nsV o.heard)) ∧
  τ t = (9, k) ∧ H t = some (.lst (ts.map V.ref)) ∧ Al (fun _ => CpAt A τ H) ts o.told ∧ τ q = (10, k) ∧ H q = some (.lst (nsV o.keepers)) ∧ wanV A τ H w o.wanted
end
structure Lay where
  (p ln lc lr lo : Addr)
  (na ca la oa : List Addr)
  tg : Addr → Tag
structure WAt (A : Adr) (L : Lay) (H : Hp) (W : MW) : Prop where
  tp : L.tg L.p = (1, 0)
  tr : L.tg L.lr = (2, 0)
  to_ : L.tg L.lo = (3, 0)
  tn : L.tg L.ln = (12, 0)
  tc : L.tg L.lc = (13, 0)
  ob : ∃ dx, H L.p = some (.ins A.c_World dx (F_World (.ref L.ln) (.ref L.lc) (.ref L.lr) (.ref L.lo) (.int W.events)))
  hn : H L.ln = some (.lst (L.na.map V.ref))
  hc : H L.lc = some (.lst (L.ca.map V.ref))
  hr : H L.lr = some (.lst (L.la.map V.ref))
  ho : H L.lo = some (.lst (L.oa.map V.ref))
  an : Al (NodeAt A L.tg H) L.na W.nodes
  ac : Al (ClAt A L.tg H L.oa) L.ca W.clients
  al : Al (fun _ => LtAt A L.tg H) L.la W.row
  ao : Al (OpAt A L.tg H) L.oa W.ops
  fr : ∀ a, H a = none → L.tg a = (0, 0)
/-! ### moving -/
/-- what has a tag of S stands as it stood, with its tag -/
def Mv (S : Tag → Prop) (τ τ' : Addr → Tag) (H H' : Hp) : Prop := ∀ b o, H b = some o → S (τ b) → H' b = some o ∧ τ' b = τ b
abbrev Fr (τ τ' : Addr → Tag) (H H' : Hp) : Prop := Mv (· = (0, 0)) τ τ' H H'
theorem Mv.mono {S S' : Tag → Prop} {τ τ' : Addr → Tag} {H H' : Hp} (m : Mv S τ τ' H H') (f : ∀ t, S' t → S t) : Mv S' τ τ' H H' := fun b o h s => m b o h (f _ s)
theorem Mv.trans {S : Tag → Prop} {τ τ1 τ2 : Addr → Tag} {H H1 H2 : Hp} (a : Mv S τ τ1 H H1) (b : Mv S τ1 τ2 H1 H2) : Mv S τ τ2 H H2 := fun x o h s => by
  obtain ⟨h1, e1⟩ := a x o h s
  obtain ⟨h2, e2⟩ := b x o h1 (by rw [e1]; exact s)
  exact ⟨h2, e2.trans e1⟩
theorem Mv.same {S : Tag → Prop} {τ : Addr → Tag} {H H' : Hp} (s : Same H H') : Mv S τ τ H H' := fun b o h _ => ⟨s b o h, rfl⟩
theorem Mv.upd {τ : Addr → Tag} {H : Hp} {a : Addr} {o : HO} {t : Tag} (ha : τ a = t) : Mv (· ≠ t) τ τ H (upd H a o) := fun b u h s => ⟨by rw [upd_ne (fun q => s (by rw [q]; exact ha))]; exact h, rfl⟩
theorem Same.upd {H : Hp} {a : Addr} {o : HO} (h : H a = none) : Same H (upd H a o) := fun b u e => by
  rw [upd_ne (ne_of_none e h)]
  exact e
theorem Same.upd2 {H H1 : Hp} {a : Addr} {o : HO} (s : Same H H1) (h : H1 a = none) : Same H (L2.upd H1 a o) := s.trans (Same.upd h)
section
variable {A : Adr} {S : Tag → Prop} {τ τ' : Addr → Tag} {H H' : Hp}
theorem CpAt.mv {a : Addr} {c : Copy} (h : CpAt A τ H a c) (m : Mv S τ τ' H H') (s0 : S (0, 0)) : CpAt A τ' H' a c := by
  rcases h with h | ⟨h, t⟩
  · exact .inl h
  · obtain ⟨h1, h2⟩ := m a _ h (by rw [t]; exact s0)
    exact .inr ⟨h1, h2.trans t⟩
theorem cps_mv {cs : List Addr} {l : List Copy} (h : Al (fun _ => CpAt A τ H) cs l) (m : Mv S τ τ' H H') (s0 : S (0, 0)) : Al (fun _ => CpAt A τ' H') cs l := h.imp fun _ _ _ _ _ r => r.mv m s0
theorem LtAt.mv {a : Addr} {l : Letter} (h : LtAt A τ H a l) (m : Mv S τ τ' H H') (s0 : S (0, 0)) : LtAt A τ' H' a l := by
  obtain ⟨dx, e, t, h, c⟩ := h
  obtain ⟨h1, h2⟩ := m a _ h (by rw [t]; exact s0)
  exact ⟨dx, e, h2.trans t, h1, c.mv m s0⟩
theorem NodeAt.mv {i : Nat} {a : Addr} {n : MNode} (h : NodeAt A τ H i a n) (m : Mv S τ τ' H H') (s0 : S (0, 0)) (s4 : S (4, i)) (s5 : S (5, i)) : NodeAt A τ' H' i a n := by
  obtain ⟨dx, l, cs, t1, h1, t2, h2, c⟩ := h
  obtain ⟨h1, e1⟩ := m a _ h1 (by rw [t1]; exact s4)
  obtain ⟨h2, e2⟩ := m l _ h2 (by rw [t2]; exact s5)
  exact ⟨dx, l, cs, e1.trans t1, h1, e2.trans t2, h2, cps_mv c m s0⟩
theorem ClAt.mv {oa : List Addr} {i : Nat} {a : Addr} {c : MClient} (h : ClAt A τ H oa i a c) (m : Mv S τ τ' H H') (s6 : S (6, i)) : ClAt A τ' H' oa i a c := by
  obtain ⟨dx, u, t, h, c⟩ := h
  obtain ⟨h1, h2⟩ := m a _ h (by rw [t]; exact s6)
  exact ⟨dx, u, h2.trans t, h1, c⟩
theorem wanV.mv {w : V} {o : Option Copy} (h : wanV A τ H w o) (m : Mv S τ τ' H H') (s0 : S (0, 0)) : wanV A τ' H' w o := by
  cases o with
  | none => exact h
  | some c =>
    obtain ⟨e, h1, h2⟩ := h
    exact ⟨e, h1, h2.mv m s0⟩
theorem OpAt.mv {k : Nat} {a : Addr} {o : MOp} (h : OpAt A τ H k a o) (m : Mv S τ τ' H H') (s0 : S (0, 0)) (s7 : S (7, k)) (s8 : S (8, k)) (s9 : S (9, k)) (s10 : S (10, k)) : OpAt A τ' H' k a o := by
  obtain ⟨dx, x, t, q, w, ts, t1, h1, t2, h2, t3, h3, c3, t4, h4, c4⟩ := h
  obtain ⟨h1, e1⟩ := m a _ h1 (by rw [t1]; exact s7)
  obtain ⟨h2, e2⟩ := m x _ h2 (by rw [t2]; exact s8)
  obtain ⟨h3, e3⟩ := m t _ h3 (by rw [t3]; exact s9)
  obtain ⟨h4, e4⟩ := m q _ h4 (by rw [t4]; exact s10)
  exact ⟨dx, x, t, q, w, ts, e1.trans t1, h1, e2.trans t2, h2, e3.trans t3, h3, cps_mv c3 m s0, e4.trans t4, h4, c4.mv m s0⟩
end
section
variable {A : Adr} {L : Lay} {H H' : Hp} {W : MW}
theorem fr_upd {τ : Addr → Tag} {a : Addr} {o : HO} (f : ∀ a, H a = none → τ a = (0, 0)) : ∀ b, upd H a o b = none → τ b = (0, 0) := fun b hb => by
  by_cases q : b = a
  · rw [q, upd_same] at hb
    cases hb
  · rw [upd_ne q] at hb
    exact f b hb
/-- new objects beside it -/
theorem WAt.same (w : WAt A L H W) (s : Same H H') : WAt A L H' W :=
  have m : Mv (fun _ => True) L.tg L.tg H H' := Mv.same s
  ⟨w.tp, w.tr, w.to_, w.tn, w.tc, w.ob.imp fun _ h => s _ _ h, s _ _ w.hn, s _ _ w.hc, s _ _ w.hr, s _ _ w.ho,
    w.an.imp fun _ _ _ _ _ r => r.mv m trivial trivial trivial, w.ac.imp fun _ _ _ _ _ r => r.mv m trivial, w.al.imp fun _ _ _ _ _ r => r.mv m trivial,
    w.ao.imp fun _ _ _ _ _ r => r.mv m trivial trivial trivial trivial trivial, fun a h => w.fr a (s.free h)⟩
/-- an object that is none of its own changes its content, a list's -/
theorem WAt.foreign (w : WAt A L H W) {g : Addr} {xs ys : List V} (hg : H g = some (.lst xs)) (tg : L.tg g = (0, 0)) : WAt A L (upd H g (.lst ys)) W := by
  have m : Mv (· ≠ (0, 0)) L.tg L.tg H (upd H g (.lst ys)) := Mv.upd tg
  have cp : ∀ a c, CpAt A L.tg H a c → CpAt A L.tg (upd H g (.lst ys)) a c := fun a c h => by
    rcases h with h | ⟨h, t⟩
    · exact .inl h
    · exact .inr ⟨by rw [upd_ne (ne_of h hg (by intro q; cases q))]; exact h, t⟩
  refine ⟨w.tp, w.tr, w.to_, w.tn, w.tc, ?_, ?_, ?_, ?_, ?_, ?_, ?_, ?_, ?_, fr_upd w.fr⟩
  · obtain ⟨dx, h⟩ := w.ob
    exact ⟨dx, (m _ _ h (by rw [w.tp]; decide)).1⟩
  · exact (m _ _ w.hn (by rw [w.tn]; decide)).1
  · exact (m _ _ w.hc (by rw [w.tc]; decide)).1
  · exact (m _ _ w.hr (by rw [w.tr]; decide)).1
  · exact (m _ _ w.ho (by rw [w.to_]; decide)).1
  · refine w.an.imp fun i a n _ _ r => ?_
    obtain ⟨dx, l, cs, t1, h1, t2, h2, c⟩ := r
    exact ⟨dx, l, cs, t1, (m _ _ h1 (by rw [t1]; simp)).1, t2, (m _ _ h2 (by rw [t2]; simp)).1, c.imp fun _ _ _ _ _ r => cp _ _ r⟩
  · exact w.ac.imp fun i a c _ _ r => r.mv m (by simp)
  · refine w.al.imp fun i a l _ _ r => ?_
    obtain ⟨dx, e, t, h, c⟩ := r
    exact ⟨dx, e, t, by rw [upd_ne (ne_of h hg (by intro q; cases q))]; exact h, cp _ _ c⟩
  · refine w.ao.imp fun k a o _ _ r => ?_
    obtain ⟨dx, x, t, q, v, ts, t1, h1, t2, h2, t3, h3, c3, t4, h4, c4⟩ := r
    refine ⟨dx, x, t, q, v, ts, t1, (m _ _ h1 (by rw [t1]; simp)).1, t2, (m _ _ h2 (by rw [t2]; simp)).1, t3, (m _ _ h3 (by rw [t3]; simp)).1, c3.imp fun _ _ _ _ _ r => cp _ _ r, t4, (m _ _ h4 (by rw [t4]; simp)).1, ?_⟩
    cases hw : o.wanted with
    | none =>
      rw [hw] at c4
      exact c4
    | some c =>
      rw [hw] at c4
      obtain ⟨e, z1, z2⟩ := c4
      exact ⟨e, z1, cp _ _ z2⟩
/-- the row -/
theorem WAt.row (w : WAt A L H W) {la : List Addr} {r : List Letter} (h : Al (fun _ => LtAt A L.tg H) la r) : WAt A { L with la := la } (upd H L.lr (.lst (la.map V.ref))) { W with row := r } := by
  have m : Mv (· ≠ (2, 0)) L.tg L.tg H (upd H L.lr (.lst (la.map V.ref))) := Mv.upd w.tr
  refine ⟨w.tp, w.tr, w.to_, w.tn, w.tc, ?_, ?_, ?_, upd_same, ?_, ?_, ?_, ?_, ?_, fr_upd w.fr⟩
  · obtain ⟨dx, h⟩ := w.ob
    exact ⟨dx, (m _ _ h (by rw [w.tp]; decide)).1⟩
  · exact (m _ _ w.hn (by rw [w.tn]; decide)).1
  · exact (m _ _ w.hc (by rw [w.tc]; decide)).1
  · exact (m _ _ w.ho (by rw [w.to_]; decide)).1
  · exact w.an.imp fun i a n _ _ r => r.mv m (by decide) (by simp) (by simp)
  · exact w.ac.imp fun i a n _ _ r => r.mv m (by simp)
  · exact h.imp fun _ _ _ _ _ r => r.mv m (by decide)
  · exact w.ao.imp fun i a n _ _ r => r.mv m (by decide) (by simp) (by simp) (by simp) (by simp)
theorem fr_row (w : WAt A L H W) {o : HO} : Fr L.tg L.tg H (upd H L.lr o) := (Mv.upd w.tr).mono fun t e => by rw [e]; decide
/-- the events -/
theorem WAt.event (w : WAt A L H W) {dx : Addr} {n : Nat} : WAt A L (upd H L.p (.ins A.c_World dx (F_World (.ref L.ln) (.ref L.lc) (.ref L.lr) (.ref L.lo) (.int (n : Int))))) { W with events := n } := by
  have m : Mv (· ≠ (1, 0)) L.tg L.tg H (upd H L.p (.ins A.c_World dx (F_World (.ref L.ln) (.ref L.lc) (.ref L.lr) (.ref L.lo) (.int (n : Int))))) := Mv.upd w.tp
  refine ⟨w.tp, w.tr, w.to_, w.tn, w.tc, ⟨dx, upd_same⟩, ?_, ?_, ?_, ?_, ?_, ?_, ?_, ?_, fr_upd w.fr⟩
  · exact (m _ _ w.hn (by rw [w.tn]; decide)).1
  · exact (m _ _ w.hc (by rw [w.tc]; decide)).1
  · exact (m _ _ w.hr (by rw [w.tr]; decide)).1
  · exact (m _ _ w.ho (by rw [w.to_]; decide)).1
  · exact w.an.imp fun i a n _ _ r => r.mv m (by decide) (by simp) (by simp)
  · exact w.ac.imp fun i a n _ _ r => r.mv m (by simp)
  · exact w.al.imp fun _ _ _ _ _ r => r.mv m (by decide)
  · exact w.ao.imp fun i a n _ _ r => r.mv m (by decide) (by simp) (by simp) (by simp) (by simp)
theorem fr_p (w : WAt A L H W) {o : HO} : Fr L.tg L.tg H (upd H L.p o) := (Mv.upd w.tp).mono fun t e => by rw [e]; decide
/-- a client -/
theorem WAt.client (w : WAt A L H W) {i : Nat} {a : Addr} {c : MClient} {o : HO} (ha : L.ca[i]? = some a) (ta : L.tg a = (6, i)) (h : ClAt A L.tg (upd H a o) L.oa i a c) : WAt A L (upd H a o) { W with clients := W.clients.set i c } := by
  have m : Mv (· ≠ (6, i)) L.tg L.tg H (upd H a o) := Mv.upd ta
  refine ⟨w.tp, w.tr, w.to_, w.tn, w.tc, ?_, ?_, ?_, ?_, ?_, ?_, ?_, ?_, ?_, fr_upd w.fr⟩
  · obtain ⟨dx, h⟩ := w.ob
    exact ⟨dx, (m _ _ h (by rw [w.tp]; simp)).1⟩
  · exact (m _ _ w.hn (by rw [w.tn]; simp)).1
  · exact (m _ _ w.hc (by rw [w.tc]; simp)).1
  · exact (m _ _ w.hr (by rw [w.tr]; simp)).1
  · exact (m _ _ w.ho (by rw [w.to_]; simp)).1
  · exact w.an.imp fun i a n _ _ r => r.mv m (by simp) (by simp) (by simp)
  · refine w.ac.setR (fun j b d hj _ _ r => r.mv m (by simp [hj])) fun b hb => ?_
    rw [ha] at hb
    cases hb
    exact h
  · exact w.al.imp fun _ _ _ _ _ r => r.mv m (by simp)
  · exact w.ao.imp fun i a n _ _ r => r.mv m (by simp) (by simp) (by simp) (by simp) (by simp)
theorem fr_cl {a : Addr} {i : Nat} (t : L.tg a = (6, i)) {o : HO} : Fr L.tg L.tg H (upd H a o) := (Mv.upd t).mono fun t e => by rw [e]; simp
/-- an operation: its object, its lists -/
theorem WAt.op (w : WAt A L H W) {k : Nat} {o : MOp} {τ' : Addr → Tag} (m : Mv (fun t => t ≠ (7, k) ∧ t ≠ (8, k) ∧ t ≠ (9, k) ∧ t ≠ (10, k)) L.tg τ' H H') (h : ∀ a, L.oa[k]? = some a → OpAt A τ' H' k a o) (f : ∀ a, H' a = none → τ' a = (0, 0)) :
    WAt A { L with tg := τ' } H' { W with ops := W.ops.set k o } := by
  obtain ⟨dx, hob⟩ := w.ob
  have e1 := m _ _ hob (by rw [w.tp]; simp)
  have e2 := m _ _ w.hn (by rw [w.tn]; simp)
  have e3 := m _ _ w.hc (by rw [w.tc]; simp)
  have e4 := m _ _ w.hr (by rw [w.tr]; simp)
  have e5 := m _ _ w.ho (by rw [w.to_]; simp)
  refine ⟨e1.2.trans w.tp, e4.2.trans w.tr, e5.2.trans w.to_, e2.2.trans w.tn, e3.2.trans w.tc, ⟨dx, e1.1⟩, e2.1, e3.1, e4.1, e5.1, ?_, ?_, ?_, ?_, f⟩
  · exact w.an.imp fun i a n _ _ r => r.mv m (by simp) (by simp) (by simp)
  · exact w.ac.imp fun i a n _ _ r => r.mv m (by simp)
  · exact w.al.imp fun _ _ _ _ _ r => r.mv m (by simp)
  · exact w.ao.setR (fun j b d hj _ _ r => r.mv m (by simp) (by simp [hj]) (by simp [hj]) (by simp [hj]) (by simp [hj])) h
/-- a node -/
theorem WAt.node (w : WAt A L H W) {i : Nat} {n : MNode} (m : Mv (fun t => t ≠ (4, i) ∧ t ≠ (5, i)) L.tg L.tg H H') (h : ∀ a, L.na[i]? = some a → NodeAt A L.tg H' i a n) (f : ∀ a, H' a = none → L.tg a = (0, 0)) :
    WAt A L H' { W with nodes := W.nodes.set i n } := by
  obtain ⟨dx, hob⟩ := w.ob
  refine ⟨w.tp, w.tr, w.to_, w.tn, w.tc, ⟨dx, (m _ _ hob (by rw [w.tp]; simp)).1⟩, (m _ _ w.hn (by rw [w.tn]; simp)).1, (m _ _ w.hc (by rw [w.tc]; simp)).1, (m _ _ w.hr (by rw [w.tr]; simp)).1, (m _ _ w.ho (by rw [w.to_]; simp)).1, ?_, ?_, ?_, ?_, f⟩
  · exact w.an.setR (fun j b d hj _ _ r => r.mv m (by simp) (by simp [hj]) (by simp [hj])) h
  · exact w.ac.imp fun i a n _ _ r => r.mv m (by simp)
  · exact w.al.imp fun _ _ _ _ _ r => r.mv m (by simp)
  · exact w.ao.imp fun i a n _ _ r => r.mv m (by simp) (by simp) (by simp) (by simp) (by simp)
end
/-! ### reading fields -/
theorem rd {K : PySem.W.Frag} {C dx a : Addr} {H : Hp} {fs : List (Str × V)} {f : Str} {v : V} {Q : V → Hp → Prop} (h : H a = some (.ins C dx fs)) (c : Cls K C) (n : NoAttr K C f) (l : fs.lookup f = some v) (q : Q v H) :
    ∃ a' C' dx' fs' v', V.ref a = .ref a' ∧ H a' = some (.ins C' dx' fs') ∧ Cls K C' ∧ NoAttr K C' f ∧ fs'.lookup f = some v' ∧ Q v' H := ⟨a, C, dx, fs, v, rfl, h, c, n, l, q⟩
theorem CpAt.sq {K : PySem.W.Frag} {mg : Str → Option Value} {A : Adr} (T : Txt K mg A) {τ : Addr → Tag} {H : Hp} {a : Addr} {c : Copy} (h : CpAt A τ H a c) : SqT K H a (cpV c) := by
  rcases h with ⟨h1, h2⟩ | ⟨h, _⟩
  · subst h1
    subst h2
    exact T.t_ZERO_COPY H
  · exact SqT.of h
theorem ixT {K : PySem.W.Frag} {H : Hp} {a : Addr} {xs : List V} {j : Nat} {i : Int} {v : V} {Q : VK} (h : SqT K H a xs) (e : i = (j : Int)) (hv : xs[j]? = some v) (q : Q v H) : rIxT K (.ref a) (.int i) H Q := ⟨a, xs, i, v, rfl, rfl, h, at_of e hv, q⟩
theorem ixL {K : PySem.W.Frag} {H : Hp} {a : Addr} {xs : List V} {j : Nat} {i : Int} {v : V} {Q : VK} (h : H a = some (.lst xs)) (e : i = (j : Int)) (hv : xs[j]? = some v) (q : Q v H) : rIxL K (.ref a) (.int i) H Q := ⟨a, xs, i, v, rfl, rfl, SqL.of h, at_of e hv, q⟩
end Cb

namespace Cb
open PySem L2
open Ag02 (Copy Letter above same zero)
section
variable {P : Program} {w : World} {K : PySem.W.Frag} {mg : Str → Option Value} {base : Heap} {A : Adr}
/-! ### stamps -/
def sp_greater (K : PySem.W.Frag) : Sp := fun vs H Q _ => ∃ (a b : Addr) (c d : Copy), vs = [.ref a, .ref b] ∧ SqT K H a (cpV c) ∧ SqT K H b (cpV d) ∧ Q (.bl (above c d)) H
def sp_same (K : PySem.W.Frag) : Sp := fun vs H Q _ => ∃ (a b : Addr) (c d : Copy), vs = [.ref a, .ref b] ∧ SqT K H a (cpV c) ∧ SqT K H b (cpV d) ∧ Q (.bl (same c d)) H
theorem above_eq {c d : Copy} (h : c.num = d.num) : above c d = decide ((d.who : Int) < (c.who : Int)) := by
  unfold Ag02.above
  rw [h]
  simp
theorem above_ne {c d : Copy} (h : ¬ c.num = d.num) : above c d = decide ((d.num : Int) < (c.num : Int)) := by
  unfold Ag02.above
  have : (c.num == d.num) = false := beq_eq_false_iff_ne.mpr h
  rw [this]
  simp
theorem ok_has_greater_stamp (T : Txt K mg A) : FnG P w K mg base "has_greater_stamp" 1 ["copy", "other"] (sp_greater K) := by
  refine mk_has_greater_stamp T (fun vs H Q E h => ?_) (fun f cdv B outer s H vs Q E hr h => ?_)
  · obtain ⟨a, b, c, d, rfl, _⟩ := h
    rfl
  · obtain ⟨a, b, c, d, rfl, ha, hb, k⟩ := h
    refine ⟨_, (pss_cons (ps_if (pt_cmpR op_eq (pe_ix ix_tup (pv 0) pe_int (fun _ _ => rfl)) (pe_ix ix_tup (pv 1) pe_int (fun _ _ => rfl)) (nomark _))
        (pss_one (ps_ret (pe_cmpR op_gt (pe_ix ix_tup (pv 0) pe_int (fun _ _ => rfl)) (pe_ix ix_tup (pv 1) pe_int (fun _ _ => rfl)) (nomark _))))
        pss_nil)
      (pss_one (ps_ret (pe_cmpR op_gt (pe_ix ix_tup (pv 0) pe_int (fun _ _ => rfl)) (pe_ix ix_tup (pv 1) pe_int (fun _ _ => rfl)) (nomark _))))), ?_⟩
    refine ⟨_, rfl, _, _, _, _, rfl, rfl, ha, at_of (j := 0) rfl rfl, _, rfl, _, _, _, _, rfl, rfl, hb, at_of (j := 0) rfl rfl, rfl, _, rfl, ?_⟩
    refine ite2 (fun e => ?_) (fun e => ?_)
    · have e : c.num = d.num := by
        have q := of_decide_eq_true e
        injection q with q
        omega
      refine ⟨_, rfl, _, _, _, _, rfl, rfl, ha, at_of (j := 1) rfl rfl, _, rfl, _, _, _, _, rfl, rfl, hb, at_of (j := 1) rfl rfl, _, _, rfl, rfl, ?_⟩
      rw [above_eq e] at k
      exact k
    · have e : ¬ c.num = d.num := fun q => e (decide_eq_true (by rw [q]))
      refine ⟨_, rfl, _, _, _, _, rfl, rfl, ha, at_of (j := 0) rfl rfl, _, rfl, _, _, _, _, rfl, rfl, hb, at_of (j := 0) rfl rfl, _, _, rfl, rfl, ?_⟩
      rw [above_ne e] at k
      exact k
theorem ok_has_same_stamp (T : Txt K mg A) : FnG P w K mg base "has_same_stamp" 1 ["copy", "other"] (sp_same K) := by
  refine mk_has_same_stamp T (fun vs H Q E h => ?_) (fun f cdv B outer s H vs Q E hr h => ?_)
  · obtain ⟨a, b, c, d, rfl, _⟩ := h
    rfl
  · obtain ⟨a, b, c, d, rfl, ha, hb, k⟩ := h
    refine ⟨_, (pss_one (ps_ret (pe_and (pe_cmpR op_eq (pe_ix ix_tup (pv 0) pe_int (fun _ _ => rfl)) (pe_ix ix_tup (pv 1) pe_int (fun _ _ => rfl)) (nomark _)) (pe_one (pe_cmpR op_eq (pe_ix ix_tup (pv 0) pe_int (fun _ _ => rfl)) (pe_ix ix_tup (pv 1) pe_int (fun _ _ => rfl)) (nomark _)))))), ?_⟩
    refine ⟨_, rfl, _, _, _, _, rfl, rfl, ha, at_of (j := 0) rfl rfl, _, rfl, _, _, _, _, rfl, rfl, hb, at_of (j := 0) rfl rfl, rfl, _, rfl, ?_⟩
    refine ite2 (fun e => ?_) (fun e => ?_)
    · have e : c.num = d.num := by
        have q := of_decide_eq_true e
        injection q with q
        omega
      refine ⟨_, rfl, _, _, _, _, rfl, rfl, ha, at_of (j := 1) rfl rfl, _, rfl, _, _, _, _, rfl, rfl, hb, at_of (j := 1) rfl rfl, rfl, ?_⟩
      have e2 : same c d = decide ((V.int (c.who : Int)) = V.int (d.who : Int)) := by
        unfold Ag02.same
        rw [e]
        by_cases q : c.who = d.who
        · rw [q]; simp
        · have h1 : (c.who == d.who) = false := beq_eq_false_iff_ne.mpr q
          rw [h1, decide_eq_false (fun z => q (by injection z with z; omega))]
          simp
      rw [e2] at k
      exact k
    · have e : ¬ c.num = d.num := fun q => e (decide_eq_true (by rw [q]))
      have e2 : same c d = false := by
        unfold Ag02.same
        have h1 : (c.num == d.num) = false := beq_eq_false_iff_ne.mpr e
        rw [h1]
        rfl
      rw [e2] at k
      exact k
/-! ### words -/
/-- self.f = v, within __init__ -/
theorem stfp {H0 : Hp} {p C dx : Addr} {f : Str} {fs fs' : List (Str × V)} {y : V} {tv : TE} {D : Ends} {σ : L2.St} (hv : Val tv σ (upd H0 p (.ins C dx fs)) y) (h0 : σ[0]? = some (some (.ref p))) (hc : Cls K C) (hn : NoAttr K C f) (hl : fs.length < 1000) (hp : putF f y fs = fs')
    (q : D.nx σ (upd H0 p (.ins C dx fs'))) : sFld K (tVar 0) tv f D σ (upd H0 p (.ins C dx fs)) := by
  refine st_fld hv (val_var h0) upd_same hc hn hl ?_
  rw [upd_upd, hp]
  exact q
theorem val_neg {σ : L2.St} {H : Hp} {i : Int} {ta : TE} (h : Val ta σ H (.int i)) : Val (tUn (rU fun i => .int (-i)) ta) σ H (.int (-i)) := fun Q q => h _ ⟨i, rfl, q⟩
theorem tyes {X Y : Hp → Prop} {σ : L2.St} {H : Hp} (h : X H) : tYes σ H (fun b H3 => if b = true then X H3 else Y H3) := by
  show (if true = true then X H else Y H)
  rw [if_pos rfl]
  exact h
theorem take_more {α : Type} {l : List α} {i : Nat} {x : α} (h : l[i]? = some x) : l.take (i + 1) = l.take i ++ [x] := by
  rw [List.take_add_one, h]
  rfl
theorem map_get {α β : Type} {f : α → β} {l : List α} {i : Nat} {y : β} (h : (l.map f)[i]? = some y) : ∃ x, l[i]? = some x ∧ y = f x := by
  rw [List.getElem?_map] at h
  cases e : l[i]? with
  | none =>
    rw [e] at h
    cases h
  | some x =>
    rw [e] at h
    exact ⟨x, rfl, (Option.some.inj h).symm⟩
theorem better_pos {m c : Copy} (h : above c m = true) : better m c = c := if_pos h
theorem better_neg {m c : Copy} (h : ¬ above c m = true) : better m c = m := if_neg h
/-! ### best_of -/
def sp_best (K : PySem.W.Frag) : Sp := fun vs H Q _ => ∃ (l : Addr) (ts : List Addr) (cs : List Copy), vs = [.ref l] ∧ H l = some (.lst (ts.map V.ref)) ∧ Al (fun _ a c => SqT K H a (cpV c)) ts cs ∧ cs ≠ [] ∧
  ∀ (j : Nat) (a : Addr), ts[j]? = some a → cs[j]? = some (bestOf cs) → Q (.ref a) H
theorem ok_best_of (T : Txt K mg A) : FnG P w K mg base "best_of" 2 ["copies"] (sp_best K) := by
  have G_has_greater_stamp := ok_has_greater_stamp (P := P) (w := w) (base := base) T
  obtain ⟨f_has_greater_stamp, d_has_greater_stamp, h_has_greater_stamp, k_has_greater_stamp, b_has_greater_stamp, F_has_greater_stamp⟩ := G_has_greater_stamp.ex
  refine mk_best_of T (fun vs H Q E h => ?_) (fun f cdv B outer s H vs Q E hr h => ?_)
  · obtain ⟨l, ts, cs, rfl, _⟩ := h
    rfl
  · obtain ⟨l, ts, cs, rfl, hl, al, ne, k⟩ := h
    obtain ⟨c0, cr, rfl⟩ : ∃ c0 cr, cs = c0 :: cr := by
      cases cs with
      | nil => exact absurd rfl ne
      | cons c0 cr => exact ⟨c0, cr, rfl⟩
    obtain ⟨a0, h0, _⟩ := al.get (j := 0) (b := c0) rfl
    refine ⟨_, (pss_cons (ps_set (i := 1) sc_best_of.nd rfl (Or.inl rfl) (pe_ix ix_list (pv 0) pe_int (fun _ _ => rfl)))
      (pss_cons (ps_for PassesOwn.never rfl (pi_list (pv 0)) (pg_name (i := 2) sc_best_of.nd rfl (Or.inl rfl))
        (pss_one (ps_if (pt_val (pe_call F_has_greater_stamp (hr.mono (by decide)) (by rfl) h_has_greater_stamp k_has_greater_stamp b_has_greater_stamp .nil pass0 (pa_cons (pv 2) (pa_cons (pv 1) pa_nil))))
          (pss_one (ps_set (i := 1) sc_best_of.nd rfl (Or.inl rfl) (pv 2)))
          pss_nil)))
      (pss_one (ps_ret (pv 1))))), ?_⟩
    refine ⟨_, rfl, _, _, _, _, rfl, rfl, SqL.of hl, at_of (show (0 : Int) = ((0 : Nat) : Int) from rfl) (show (ts.map V.ref)[0]? = some (V.ref a0) by rw [List.getElem?_map, h0]; rfl), ?_⟩
    refine ⟨_, rfl, l, rfl, ⟨_, SqL.of hl⟩, for_list (K := K) (a := l) (xs := ts.map V.ref) (fun i σ H' => ∃ (b : Addr) (v : Option V) (j : Nat), σ = [some (.ref l), some (.ref b), v] ∧ H' = H ∧ ts[j]? = some b ∧ (c0 :: cr)[j]? = some (((c0 :: cr).take i).foldl better c0))
      ⟨a0, none, 0, rfl, rfl, h0, rfl⟩ (fun i σ H' _ ⟨_, _, _, _, e, _⟩ => by rw [e]; exact SqL.of hl) ?_ ?_⟩
    · rintro i y σ H' hi ⟨b, v, j, rfl, rfl, hb, hm⟩
      obtain ⟨a, ha, rfl⟩ := map_get hi
      obtain ⟨c, hc, hac⟩ := al.getL ha
      have hbm := al.at_ j b _ hb hm
      refine ⟨_, rfl, _, rfl, a, b, c, _, rfl, hac, hbm, _, rfl, ?_⟩
      have e := take_more hc
      refine ite2 (fun q => ?_) (fun q => ?_)
      · refine ⟨_, rfl, a, _, i, rfl, rfl, ha, ?_⟩
        rw [e, List.foldl_append, hc]
        exact congrArg some (better_pos q).symm
      · refine ⟨b, _, j, rfl, rfl, hb, ?_⟩
        rw [e, List.foldl_append, hm]
        exact congrArg some (better_neg q).symm
    · rintro σ H' ⟨b, v, j, rfl, rfl, hb, hm⟩
      rw [List.length_map, al.len, List.take_length] at hm
      exact ⟨_, rfl, k j b hb hm⟩
/-! ### letters -/
def sp_letter (A : Adr) : Sp := fun vs H Q _ => ∃ (p dx : Addr) (H0 : Hp) (v0 v1 v2 v3 v4 v5 : V), vs = [.ref p, v0, v1, v2, v3, v4, v5] ∧ H = upd H0 p (.ins A.c_Letter dx []) ∧ Q .non (upd H0 p (.ins A.c_Letter dx (F_Letter v0 v1 v2 v3 v4 v5)))
theorem ok_Letter_init (T : Txt K mg A) : MkG P w K mg base "Letter" A.c_Letter 1 ["self", "kind", "to", "sender", "operation", "cell", "enclosed"] (sp_letter A) := by
  refine mk_Letter_init T (fun vs H Q E h => ?_) (fun f cdv B outer s H vs Q E hr h => ?_)
  · obtain ⟨p, dx, H0, v0, v1, v2, v3, v4, v5, rfl, _⟩ := h
    rfl
  · obtain ⟨p, dx, H0, v0, v1, v2, v3, v4, v5, rfl, rfl, k⟩ := h
    refine ⟨_, (pss_cons (ps_fld (pv 0) (pv 1) rfl)
      (pss_cons (ps_fld (pv 0) (pv 2) rfl)
      (pss_cons (ps_fld (pv 0) (pv 3) rfl)
      (pss_cons (ps_fld (pv 0) (pv 4) rfl)
      (pss_cons (ps_fld (pv 0) (pv 5) rfl)
      (pss_one (ps_fld (pv 0) (pv 6) rfl))))))), ?_⟩
    refine ⟨_, rfl, _, rfl, p, _, dx, _, rfl, upd_same, T.cl_Letter, T.na_Letter_kind, (show 0 < 1000 by decide), ?_⟩
    rw [upd_upd, F_Letter_new_kind]
    refine ⟨_, rfl, _, rfl, p, _, dx, _, rfl, upd_same, T.cl_Letter, T.na_Letter_to, (show 1 < 1000 by decide), ?_⟩
    rw [upd_upd, F_Letter_new_to]
    refine ⟨_, rfl, _, rfl, p, _, dx, _, rfl, upd_same, T.cl_Letter, T.na_Letter_sender, (show 2 < 1000 by decide), ?_⟩
    rw [upd_upd, F_Letter_new_sender]
    refine ⟨_, rfl, _, rfl, p, _, dx, _, rfl, upd_same, T.cl_Letter, T.na_Letter_operation, (show 3 < 1000 by decide), ?_⟩
    rw [upd_upd, F_Letter_new_operation]
    refine ⟨_, rfl, _, rfl, p, _, dx, _, rfl, upd_same, T.cl_Letter, T.na_Letter_cell, (show 4 < 1000 by decide), ?_⟩
    rw [upd_upd, F_Letter_new_cell]
    refine ⟨_, rfl, _, rfl, p, _, dx, _, rfl, upd_same, T.cl_Letter, T.na_Letter_enclosed, (show 5 < 1000 by decide), ?_⟩
    rw [upd_upd, F_Letter_new_enclosed]
    exact k
/-- a new letter of these values stands at p -/
def NewLt (A : Adr) (H H' : Hp) (p : Addr) (v0 v1 v2 v3 v4 v5 : V) : Prop := H p = none ∧ Same H H' ∧ ∃ dx, H' p = some (.ins A.c_Letter dx (F_Letter v0 v1 v2 v3 v4 v5))
theorem newlt_made {H : Hp} {x dx : Addr} {v0 v1 v2 v3 v4 v5 : V} (nx : H x = none) (nd : H dx = none) (ne : dx ≠ x) : NewLt A H (upd (upd H dx (.own x)) x (.ins A.c_Letter dx (F_Letter v0 v1 v2 v3 v4 v5))) x v0 v1 v2 v3 v4 v5 :=
  ⟨nx, Same.upd2 (Same.upd nd) (by rw [upd_ne fun q => ne q.symm]; exact nx), dx, upd_same⟩
def sp_reply (A : Adr) : Sp := fun vs H Q _ => ∃ (a e e0 dx : Addr) (k v0 v1 v2 v3 v4 : V), vs = [.ref a, k, .ref e] ∧ H a = some (.ins A.c_Letter dx (F_Letter v0 v1 v2 v3 v4 (.ref e0))) ∧
  ∀ (p : Addr) (H' : Hp), NewLt A H H' p k v2 v1 v3 v4 (.ref e) → Q (.ref p) H'
theorem ok_reply_to (T : Txt K mg A) : FnG P w K mg base "reply_to" 3 ["letter", "kind", "enclosed"] (sp_reply A) := by
  have G_Letter_init := ok_Letter_init (P := P) (w := w) (base := base) T
  obtain ⟨f_Letter_init, d_Letter_init, M_Letter_init, h_Letter_init, b_Letter_init, F_Letter_init⟩ := G_Letter_init.ex
  refine mk_reply_to T (fun vs H Q E h => ?_) (fun f cdv B outer s H vs Q E hr h => ?_)
  · obtain ⟨a, e, e0, dx, k, v0, v1, v2, v3, v4, rfl, _⟩ := h
    rfl
  · obtain ⟨a, e, e0, dx, kd, v0, v1, v2, v3, v4, rfl, ha, k⟩ := h
    refine ⟨_, (pss_one (ps_ret (pe_make M_Letter_init F_Letter_init (hr.mono (by decide)) (by rfl) h_Letter_init b_Letter_init .nil pass0 (pa_cons (pv 1) (pa_cons (pe_fld (pv 0) rfl) (pa_cons (pe_fld (pv 0) rfl) (pa_cons (pe_fld (pv 0) rfl) (pa_cons (pe_fld (pv 0) rfl) (pa_cons (pv 2) pa_nil))))))))), ?_⟩
    refine ⟨_, rfl, _, rfl, _, _, _, _, _, rfl, ha, T.cl_Letter, T.na_Letter_sender, F_Letter_sender, _, rfl, _, _, _, _, _, rfl, ha, T.cl_Letter, T.na_Letter_to, F_Letter_to, _, rfl, _, _, _, _, _, rfl, ha, T.cl_Letter, T.na_Letter_operation, F_Letter_operation, _, rfl, _, _, _, _, _, rfl, ha, T.cl_Letter, T.na_Letter_cell, F_Letter_cell, _, rfl, fun x d nx nd ne => ?_⟩
    exact ⟨x, d, _, _, _, _, _, _, _, rfl, rfl, rfl, k x _ (newlt_made nx nd ne)⟩
/-! ### nodes -/
def MNode.answer (n : MNode) (l : Letter) : Letter := if l.kind = 0 then ⟨1, l.from_, l.to_, l.op, l.cell, n.cells.getD l.cell zero⟩ else ⟨3, l.from_, l.to_, l.op, l.cell, zero⟩
def MNode.after (n : MNode) (l : Letter) : MNode := if l.kind = 0 then n else n.keeps l
def sp_node (A : Adr) : Sp := fun vs H Q _ => ∃ (p dx : Addr) (v : V), vs = [.ref p, v] ∧ H p = some (.ins A.c_Node dx []) ∧
  ∀ (l : Addr) (H' : Hp), H l = none → l ≠ p → H' p = some (.ins A.c_Node dx (F_Node v (.bl true) (.ref l))) → H' l = some (.lst [.ref A.z_ZERO_COPY, .ref A.z_ZERO_COPY, .ref A.z_ZERO_COPY]) → (∀ b o, H b = some o → b ≠ p → H' b = some o) → Q .non H'
theorem rep_push {α : Type} (n : Nat) (a : α) : List.replicate n a ++ [a] = List.replicate (n + 1) a := by
  rw [List.replicate_succ']
theorem ok_Node_init (T : Txt K mg A) : MkG P w K mg base "Node" A.c_Node 1 ["self", "weight"] (sp_node A) := by
  refine mk_Node_init T (fun vs H Q E h => ?_) (fun f cdv B outer s H vs Q E hr h => ?_)
  · obtain ⟨p, dx, v, rfl, _⟩ := h
    rfl
  · obtain ⟨p, dx, v, rfl, hp, k⟩ := h
    refine ⟨_, (pss_cons (ps_fld (pv 0) (pv 1) rfl)
      (pss_cons (ps_fld (pv 0) pe_bl rfl)
      (pss_one (ps_fld (pv 0) (pe_lc (own := [("cell", 2)]) rfl sc_Node_init.nd (pi_range1 (by rfl) T.b_range (pa_cons (pe_gint rfl T.g_CELLS) pa_nil)) (blkOk_by (N := n_Node_init) (sc := defScope s_Node_init) (by decide +kernel)) (fun _ _ _ _ _ => pg_name (i := 2) sc_Node_init.nd rfl (Or.inl rfl)) (fun _ _ _ _ _ => pts_nil) (fun _ _ _ _ _ => (pe_glob (v := .ref A.z_ZERO_COPY) rfl T.g_ZERO_COPY rfl))) rfl)))), ?_⟩
    refine ⟨_, rfl, _, rfl, p, _, dx, _, rfl, hp, T.cl_Node, T.na_Node_weight, (show 0 < 1000 by decide), ?_⟩
    refine ⟨_, rfl, p, _, dx, _, rfl, upd_same, T.cl_Node, T.na_Node_runs, (show 1 < 1000 by decide), ?_⟩
    rw [upd_upd, F_Node_new_weight, F_Node_new_runs]
    refine ⟨3, rfl, by decide, by decide, fun D hD => ?_⟩
    have npD : p ≠ D := fun q => by
      rw [q, upd_same] at hD
      cases hD
    have hD0 : H D = none := by
      rw [upd_ne fun q => npD q.symm] at hD
      exact hD
    refine lc_range (lo := 0) (n := 3) (fun i H' => H' = upd (upd H p (.ins A.c_Node dx [("weight", v), ("runs", .bl true)])) D (.lst (List.replicate i (.ref A.z_ZERO_COPY)))) rfl ?_ ?_
    · rintro i H' hi rfl
      refine ⟨rfl, tyes ?_⟩
      refine ⟨_, upd_same, ?_, ?_⟩
      · rw [List.length_replicate]
        exact Nat.lt_trans hi (by decide)
      · rw [upd_upd, rep_push]
    · rintro H' rfl
      refine ⟨_, rfl, p, _, dx, _, rfl, Eq.trans (upd_ne npD) upd_same, T.cl_Node, T.na_Node_copies, (show 2 < 1000 by decide), ?_⟩
      rw [F_Node_new_copies]
      refine k D _ hD0 (fun q => npD q.symm) upd_same (by rw [upd_ne fun q => npD q.symm]; exact upd_same) fun b o e hb => ?_
      rw [upd_ne hb, upd_ne (ne_of_none e hD0), upd_ne hb]
      exact e
def sp_answer (A : Adr) : Sp := fun vs H Q _ => ∃ (a b : Addr) (i : Nat) (n : MNode) (l : Letter) (τ : Addr → Tag), vs = [.ref a, .ref b] ∧ NodeAt A τ H i a n ∧ LtAt A τ H b l ∧ l.cell < 3 ∧ n.cells.length = 3 ∧ (l.kind = 0 ∨ l.kind = 2) ∧ (∀ a, H a = none → τ a = (0, 0)) ∧
  ∀ (p : Addr) (H' : Hp), Mv (· ≠ (5, i)) τ τ H H' → NodeAt A τ H' i a (n.after l) → H p = none → LtAt A τ H' p (n.answer l) → (∀ b, H' b = none → H b = none) → Q (.ref p) H'
theorem NewLt.at_ {τ : Addr → Tag} {H H' : Hp} {p e : Addr} {l : Letter} (h : NewLt A H H' p (.int l.kind) (.int l.to_) (.int l.from_) (.int l.op) (.int l.cell) (.ref e)) (f : ∀ a, H a = none → τ a = (0, 0)) (c : CpAt A τ H e l.copy) : LtAt A τ H' p l := by
  obtain ⟨h1, h2, dx, h3⟩ := h
  exact ⟨dx, e, f p h1, h3, c.mv (Mv.same (S := fun _ => True) h2) trivial⟩
theorem Same.none {H H' : Hp} (s : Same H H') : ∀ b, H' b = none → H b = none := fun _ h => s.free h
theorem upd_none {H : Hp} {a : Addr} {o : HO} : ∀ b, upd H a o b = none → H b = none := fun b h => by
  by_cases q : b = a
  · rw [q, upd_same] at h
    cases h
  · rw [upd_ne q] at h
    exact h
theorem ok_Node_answer_to (T : Txt K mg A) : MtG P w K mg base A.c_Node "answer_to" 4 ["self", "letter"] (sp_answer A) := by
  have G_has_greater_stamp := ok_has_greater_stamp (P := P) (w := w) (base := base) T
  have G_reply_to := ok_reply_to (P := P) (w := w) (base := base) T
  obtain ⟨f_has_greater_stamp, d_has_greater_stamp, h_has_greater_stamp, k_has_greater_stamp, b_has_greater_stamp, F_has_greater_stamp⟩ := G_has_greater_stamp.ex
  obtain ⟨f_reply_to, d_reply_to, h_reply_to, k_reply_to, b_reply_to, F_reply_to⟩ := G_reply_to.ex
  refine mk_Node_answer_to T (fun vs H Q E h => ?_) (fun f cdv B outer s H vs Q E hr h => ?_)
  · obtain ⟨a, b, i, n, l, τ, rfl, _⟩ := h
    rfl
  · obtain ⟨a, b, i, n, l, τ, rfl, hn, hl, hc, hz, h02, f0, k⟩ := h
    obtain ⟨dx, lc, cs, t1, h1, t2, h2, al⟩ := id hn
    obtain ⟨dl, e, t3, h3, ce⟩ := id hl
    have hj : l.cell < n.cells.length := by omega
    have hcell : n.cells[l.cell]? = some (n.cells.getD l.cell zero) := by
      rw [List.getD_eq_getElem?_getD, List.getElem?_eq_getElem hj]
      rfl
    obtain ⟨q, hq, cq⟩ := al.get hcell
    have hqv : (cs.map V.ref)[l.cell]? = some (V.ref q) := by rw [List.getElem?_map, hq]; rfl
    refine ⟨_, (pss_cons (ps_if (pt_cmpR op_eq (pe_fld (pv 1) rfl) (pe_gint rfl T.g_ASKS) (nomark _))
        (pss_one (ps_ret (pe_call F_reply_to (hr.mono (by decide)) (by rfl) h_reply_to k_reply_to b_reply_to .nil pass0 (pa_cons (pv 1) (pa_cons (pe_gint rfl T.g_TELLS) (pa_cons (pe_ix ix_list (pe_fld (pv 0) rfl) (pe_fld (pv 1) rfl) (fun _ _ => rfl)) pa_nil))))))
        pss_nil)
      (pss_cons (ps_if (pt_val (pe_call F_has_greater_stamp (hr.mono (by decide)) (by rfl) h_has_greater_stamp k_has_greater_stamp b_has_greater_stamp .nil pass0 (pa_cons (pe_fld (pv 1) rfl) (pa_cons (pe_ix ix_list (pe_fld (pv 0) rfl) (pe_fld (pv 1) rfl) (fun _ _ => rfl)) pa_nil))))
        (pss_one (ps_asg (pe_fld (pv 1) rfl) (pg_sub (pe_fld (pv 0) rfl) (pe_fld (pv 1) rfl) set_list)))
        pss_nil)
      (pss_one (ps_ret (pe_call F_reply_to (hr.mono (by decide)) (by rfl) h_reply_to k_reply_to b_reply_to .nil pass0 (pa_cons (pv 1) (pa_cons (pe_gint rfl T.g_KEPT) (pa_cons (pe_glob (v := .ref A.z_ZERO_COPY) rfl T.g_ZERO_COPY rfl) pa_nil)))))))), ?_⟩
    refine ⟨_, rfl, _, _, _, _, _, rfl, h3, T.cl_Letter, T.na_Letter_kind, F_Letter_kind, rfl, _, rfl, ?_⟩
    refine ite2 (fun e0 => ?_) (fun e0 => ?_)
    · have e0 : l.kind = 0 := by
        have z := of_decide_eq_true e0
        injection z with z
        omega
      refine ⟨_, rfl, _, rfl, _, _, _, _, _, rfl, h1, T.cl_Node, T.na_Node_copies, F_Node_copies, _, rfl, _, _, _, _, _, rfl, h3, T.cl_Letter, T.na_Letter_cell, F_Letter_cell, _, _, _, _, rfl, rfl, SqL.of h2, at_of rfl hqv, ?_⟩
      refine ⟨b, q, e, dl, _, _, _, _, _, _, rfl, h3, fun p H' hN => ?_⟩
      have ea : n.after l = n := if_pos e0
      have eb : n.answer l = ⟨1, l.from_, l.to_, l.op, l.cell, n.cells.getD l.cell zero⟩ := if_pos e0
      refine k p H' (Mv.same hN.2.1) (by rw [ea]; exact hn.mv (Mv.same (S := fun _ => True) hN.2.1) trivial trivial trivial) hN.1 (by rw [eb]; exact NewLt.at_ (l := ⟨1, l.from_, l.to_, l.op, l.cell, n.cells.getD l.cell zero⟩) hN f0 cq) (Same.none hN.2.1)
    · have e0 : ¬ l.kind = 0 := fun z => e0 (decide_eq_true (by rw [z]; rfl))
      have ea : n.after l = n.keeps l := if_neg e0
      have eb : n.answer l = ⟨3, l.from_, l.to_, l.op, l.cell, zero⟩ := if_neg e0
      refine ⟨_, rfl, _, _, _, _, _, rfl, h3, T.cl_Letter, T.na_Letter_enclosed, F_Letter_enclosed, _, rfl, _, _, _, _, _, rfl, h1, T.cl_Node, T.na_Node_copies, F_Node_copies, _, rfl, _, _, _, _, _, rfl, h3, T.cl_Letter, T.na_Letter_cell, F_Letter_cell, _, _, _, _, rfl, rfl, SqL.of h2, at_of rfl hqv, e, q, l.copy, _, rfl, ce.sq T, cq.sq T, _, rfl, ?_⟩
      refine ite2 (fun ab => ?_) (fun ab => ?_)
      · have ek : n.keeps l = { n with cells := n.cells.set l.cell l.copy } := if_pos ab
        refine ⟨_, rfl, _, _, _, _, _, rfl, h3, T.cl_Letter, T.na_Letter_enclosed, F_Letter_enclosed, _, rfl, _, _, _, _, _, rfl, h1, T.cl_Node, T.na_Node_copies, F_Node_copies, _, rfl, _, _, _, _, _, rfl, h3, T.cl_Letter, T.na_Letter_cell, F_Letter_cell, lc, _, _, l.cell, rfl, rfl, h2, ?_, ?_⟩
        · unfold ixN
          rw [if_pos (by omega), if_pos (by rw [List.length_map, al.len]; omega)]
          rfl
        · have m : Mv (· ≠ (5, i)) τ τ H (upd H lc (.lst ((cs.map V.ref).set l.cell (.ref e)))) := Mv.upd t2
          have hb3 := (m _ _ h3 (by rw [t3]; simp)).1
          refine ⟨_, rfl, b, A.z_ZERO_COPY, e, dl, _, _, _, _, _, _, rfl, hb3, fun p H' hN => ?_⟩
          have m2 := m.trans (Mv.same (S := (· ≠ (5, i))) (τ := τ) hN.2.1)
          refine k p H' m2 ?_ (upd_none _ hN.1) (by rw [eb]; exact NewLt.at_ (l := ⟨3, l.from_, l.to_, l.op, l.cell, zero⟩) hN (fr_upd f0) (.inl ⟨rfl, rfl⟩)) (fun b z => upd_none _ (Same.none hN.2.1 b z))
          rw [ea, ek]
          refine ⟨dx, lc, cs.set l.cell e, t1, (m2 _ _ h1 (by rw [t1]; simp)).1, t2, ?_, ?_⟩
          · refine hN.2.1 _ _ ?_
            rw [upd_same, List.map_set]
          · exact Al.set2 (cps_mv al m2 (by simp)) (ce.mv m2 (by simp))
      · have ek : n.keeps l = n := if_neg ab
        refine ⟨_, rfl, b, A.z_ZERO_COPY, e, dl, _, _, _, _, _, _, rfl, h3, fun p H' hN => ?_⟩
        refine k p H' (Mv.same hN.2.1) (by rw [ea, ek]; exact hn.mv (Mv.same (S := fun _ => True) hN.2.1) trivial trivial trivial) hN.1 (by rw [eb]; exact NewLt.at_ (l := ⟨3, l.from_, l.to_, l.op, l.cell, zero⟩) hN f0 (.inl ⟨rfl, rfl⟩)) (Same.none hN.2.1)
end
end Cb

namespace Cb
open PySem L2
open Ag02 (Copy Letter above same zero)
section
variable {P : Program} {w : World} {K : PySem.W.Frag} {mg : Str → Option Value} {base : Heap} {A : Adr}
theorem upd_over {H : Hp} {p h : Addr} {o o' x : HO} (n : h ≠ p) : upd (upd (upd H p o) h x) p o' = upd (upd H h x) p o' := by
  funext b
  unfold upd
  by_cases q : b = p
  · rw [if_pos q, if_pos q]
  · rw [if_neg q, if_neg q, if_neg q]
/-! ### operations -/
def sp_operation (A : Adr) : Sp := fun vs H Q _ => ∃ (p dx : Addr) (v1 v2 v3 v4 v5 v6 : V), vs = [.ref p, v1, v2, v3, v4, v5, v6] ∧ H p = some (.ins A.c_Operation dx []) ∧
  ∀ (h t q : Addr) (H' : Hp), H h = none → H t = none → H q = none → h ≠ t → h ≠ q → t ≠ q → H' p = some (.ins A.c_Operation dx (F_Operation v1 v2 v3 v4 v5 v6 (.int (-1)) (.int (-1)) (.ref h) (.ref t) .non (.ref q))) →
    H' h = some (.lst []) → H' t = some (.lst []) → H' q = some (.lst []) → (∀ b o, H b = some o → b ≠ p → H' b = some o) → Q .non H'
theorem ok_Operation_init (T : Txt K mg A) : MkG P w K mg base "Operation" A.c_Operation 1 ["self", "client", "number", "cell", "writes", "value", "began"] (sp_operation A) := by
  refine mk_Operation_init T (fun vs H Q E h => ?_) (fun f cdv B outer s H vs Q E hr h => ?_)
  · obtain ⟨p, dx, v1, v2, v3, v4, v5, v6, rfl, _⟩ := h
    rfl
  · obtain ⟨p, dx, v1, v2, v3, v4, v5, v6, rfl, hp, k⟩ := h
    refine ⟨_, (pss_cons (ps_fld (pv 0) (pv 1) rfl)
      (pss_cons (ps_fld (pv 0) (pv 2) rfl)
      (pss_cons (ps_fld (pv 0) (pv 3) rfl)
      (pss_cons (ps_fld (pv 0) (pv 4) rfl)
      (pss_cons (ps_fld (pv 0) (pv 5) rfl)
      (pss_cons (ps_fld (pv 0) (pv 6) rfl)
      (pss_cons (ps_fld (pv 0) (pe_un un_neg pe_int) rfl)
      (pss_cons (ps_fld (pv 0) (pe_un un_neg pe_int) rfl)
      (pss_cons (ps_fld (pv 0) (pe_lst pa_nil) rfl)
      (pss_cons (ps_fld (pv 0) (pe_lst pa_nil) rfl)
      (pss_cons (ps_fld (pv 0) pe_non rfl)
      (pss_one (ps_fld (pv 0) (pe_lst pa_nil) rfl))))))))))))), ?_⟩
    refine ⟨_, rfl, _, rfl, p, _, dx, _, rfl, hp, T.cl_Operation, T.na_Operation_client, (show 0 < 1000 by decide), ?_⟩
    rw [F_Operation_new_client]
    refine ⟨_, rfl, _, rfl, p, _, dx, _, rfl, upd_same, T.cl_Operation, T.na_Operation_number, (show 1 < 1000 by decide), ?_⟩
    rw [upd_upd, F_Operation_new_number]
    refine ⟨_, rfl, _, rfl, p, _, dx, _, rfl, upd_same, T.cl_Operation, T.na_Operation_cell, (show 2 < 1000 by decide), ?_⟩
    rw [upd_upd, F_Operation_new_cell]
    refine ⟨_, rfl, _, rfl, p, _, dx, _, rfl, upd_same, T.cl_Operation, T.na_Operation_writes, (show 3 < 1000 by decide), ?_⟩
    rw [upd_upd, F_Operation_new_writes]
    refine ⟨_, rfl, _, rfl, p, _, dx, _, rfl, upd_same, T.cl_Operation, T.na_Operation_value, (show 4 < 1000 by decide), ?_⟩
    rw [upd_upd, F_Operation_new_value]
    refine ⟨_, rfl, _, rfl, p, _, dx, _, rfl, upd_same, T.cl_Operation, T.na_Operation_began, (show 5 < 1000 by decide), ?_⟩
    rw [upd_upd, F_Operation_new_began]
    refine ⟨_, rfl, _, rfl, p, _, dx, _, rfl, upd_same, T.cl_Operation, T.na_Operation_ended, (show 6 < 1000 by decide), ?_⟩
    rw [upd_upd, F_Operation_new_ended]
    refine ⟨_, rfl, _, rfl, p, _, dx, _, rfl, upd_same, T.cl_Operation, T.na_Operation_result, (show 7 < 1000 by decide), ?_⟩
    rw [upd_upd, F_Operation_new_result]
    refine ⟨Nat.zero_le _, fun h hh => ?_⟩
    have nh : h ≠ p := fun q => by
      rw [q, upd_same] at hh
      cases hh
    have hh0 : H h = none := upd_none _ hh
    refine ⟨_, rfl, p, _, dx, _, rfl, Eq.trans (upd_ne nh.symm) upd_same, T.cl_Operation, T.na_Operation_heard, (show 8 < 1000 by decide), ?_⟩
    rw [upd_over nh, F_Operation_new_heard]
    refine ⟨Nat.zero_le _, fun t ht => ?_⟩
    have nt : t ≠ p := fun q => by
      rw [q, upd_same] at ht
      cases ht
    have ht1 := upd_none _ ht
    have ht0 : H t = none := upd_none _ ht1
    have nht : h ≠ t := fun q => by
      rw [← q, upd_same] at ht1
      cases ht1
    refine ⟨_, rfl, p, _, dx, _, rfl, Eq.trans (upd_ne nt.symm) upd_same, T.cl_Operation, T.na_Operation_told, (show 9 < 1000 by decide), ?_⟩
    rw [upd_over nt, F_Operation_new_told]
    refine ⟨_, rfl, p, _, dx, _, rfl, upd_same, T.cl_Operation, T.na_Operation_wanted, (show 10 < 1000 by decide), ?_⟩
    rw [upd_upd, F_Operation_new_wanted]
    refine ⟨Nat.zero_le _, fun q hq => ?_⟩
    have nq : q ≠ p := fun z => by
      rw [z, upd_same] at hq
      cases hq
    have hq1 := upd_none _ hq
    have hq2 := upd_none _ hq1
    have hq0 : H q = none := upd_none _ hq2
    have ntq : t ≠ q := fun z => by
      rw [← z, upd_same] at hq1
      cases hq1
    have nhq : h ≠ q := fun z => by
      rw [← z, upd_same] at hq2
      cases hq2
    refine ⟨_, rfl, p, _, dx, _, rfl, Eq.trans (upd_ne nq.symm) upd_same, T.cl_Operation, T.na_Operation_keepers, (show 11 < 1000 by decide), ?_⟩
    rw [upd_over nq, F_Operation_new_keepers]
    refine k h t q _ hh0 ht0 hq0 nht nhq ntq upd_same ?_ ?_ ?_ fun b o e hb => ?_
    · rw [upd_ne nh, upd_ne nhq, upd_ne nht, upd_same]
    · rw [upd_ne nt, upd_ne ntq, upd_same]
    · rw [upd_ne nq, upd_same]
    · rw [upd_ne hb, upd_ne (ne_of_none e hq0), upd_ne (ne_of_none e ht0), upd_ne (ne_of_none e hh0)]
      exact e
end
end Cb

namespace Cb
open PySem L2
open Ag02 (Copy Letter above same zero)
section
variable {P : Program} {w : World} {K : PySem.W.Frag} {mg : Str → Option Value} {base : Heap} {A : Adr}
def sp_counted (A : Adr) : Sp := fun vs H Q _ => ∃ (a : Addr) (k : Nat) (o : MOp) (τ : Addr → Tag), vs = [.ref a] ∧ OpAt A τ H k a o ∧ ∀ l, H l = some (.lst (nsV o.counted)) → Q (.ref l) H
theorem ok_Operation_counted_nodes (T : Txt K mg A) : MtG P w K mg base A.c_Operation "counted_nodes" 1 ["self"] (sp_counted A) := by
  refine mk_Operation_counted_nodes T (fun vs H Q E h => ?_) (fun f cdv B outer s H vs Q E hr h => ?_)
  · obtain ⟨a, n, o, τ, rfl, _⟩ := h
    rfl
  · obtain ⟨a, n, o, τ, rfl, ⟨dx, h, t, q, w, ts, t1, h1, t2, h2, t3, h3, c3, t4, h4, c4⟩, k⟩ := h
    refine ⟨_, (pss_cons (ps_if (pt_cmpR op_isN (pe_fld (pv 0) rfl) pe_non (nomark _))
        (pss_one (ps_ret (pe_fld (pv 0) rfl)))
        pss_nil)
      (pss_one (ps_ret (pe_fld (pv 0) rfl)))), ?_⟩
    refine ⟨_, rfl, _, _, _, _, _, rfl, h1, T.cl_Operation, T.na_Operation_wanted, F_Operation_wanted, rfl, _, rfl, ?_⟩
    cases hw : o.wanted with
    | none =>
      rw [hw] at c4
      obtain rfl : w = .non := c4
      refine iteT ⟨_, rfl, _, _, _, _, _, rfl, h1, T.cl_Operation, T.na_Operation_heard, F_Operation_heard, k h ?_⟩
      unfold MOp.counted
      rw [hw]
      exact h2
    | some c =>
      rw [hw] at c4
      obtain ⟨e, rfl, _⟩ := c4
      refine iteF ⟨_, rfl, _, _, _, _, _, rfl, h1, T.cl_Operation, T.na_Operation_keepers, F_Operation_keepers, k q ?_⟩
      unfold MOp.counted
      rw [hw]
      exact h4
def sp_told (A : Adr) : Sp := fun vs H Q _ => ∃ (a e : Addr) (k : Nat) (o : MOp) (c : Copy) (τ : Addr → Tag), vs = [.ref a, .ref e] ∧ OpAt A τ H k a o ∧ CpAt A τ H e c ∧ o.heard.length = o.told.length ∧ o.heard.length ≤ 1000 ∧
  ∀ (p : Addr) (H' : Hp), H p = none → Same H H' → H' p = some (.lst (nsV (o.told_ c))) → Q (.ref p) H'
theorem told_turn {hs : List Nat} {ts : List Copy} {i : Nat} {x : Nat} {y c : Copy} (hx : hs[i]? = some x) (hy : ts[i]? = some y) :
    nsV ((((hs.zip ts).take (i + 1)).filter fun p => same p.2 c).map (·.1)) = if same y c = true then nsV ((((hs.zip ts).take i).filter fun p => same p.2 c).map (·.1)) ++ [.int (x : Int)] else nsV ((((hs.zip ts).take i).filter fun p => same p.2 c).map (·.1)) := by
  have hz : (hs.zip ts)[i]? = some (x, y) := by
    rw [List.getElem?_zip_eq_some]
    exact ⟨hx, hy⟩
  rw [take_more hz, List.filter_append, List.map_append, List.filter_cons]
  unfold nsV
  rw [List.map_append]
  by_cases q : same y c = true
  · rw [if_pos q, if_pos q]
    rfl
  · rw [if_neg q, if_neg q]
    show _ ++ [] = _
    rw [List.append_nil]
theorem ok_Operation_nodes_that_told (T : Txt K mg A) : MtG P w K mg base A.c_Operation "nodes_that_told" 2 ["self", "copy"] (sp_told A) := by
  have G_has_same_stamp := ok_has_same_stamp (P := P) (w := w) (base := base) T
  obtain ⟨f_has_same_stamp, d_has_same_stamp, h_has_same_stamp, k_has_same_stamp, b_has_same_stamp, F_has_same_stamp⟩ := G_has_same_stamp.ex
  refine mk_Operation_nodes_that_told T (fun vs H Q E h => ?_) (fun f cdv B outer s H vs Q E hr h => ?_)
  · obtain ⟨a, e, n, o, c, τ, rfl, _⟩ := h
    rfl
  · obtain ⟨a, e, n, o, c, τ, rfl, ⟨dx, h, t, q, wv, ts, t1, h1, t2, h2, t3, h3, c3, t4, h4, c4⟩, ce, hlen, hsz, k⟩ := h
    refine ⟨_, (pss_one (ps_ret (pe_lc (g := gTup K 2 (gCons (gName 2) (gCons (gName 3) (gNil)))) (own := [("node", 2), ("told", 3)]) rfl sc_Operation_nodes_that_told.nd (pi_zip (by rfl) T.b_zip (pa_cons (pe_fld (pv 0) rfl) (pa_cons (pe_fld (pv 0) rfl) pa_nil))) (blkOk_by (N := n_Operation_nodes_that_told) (sc := defScope s_Operation_nodes_that_told) (by decide +kernel)) (fun _ _ _ _ _ => pg_tup rfl (pgs_cons (pg_name (i := 2) sc_Operation_nodes_that_told.nd rfl (Or.inl rfl) (Or.inr rfl)) (pgs_cons (pg_name (i := 3) sc_Operation_nodes_that_told.nd rfl (Or.inl rfl) (Or.inr rfl)) (pgs_nil)))) (fun _ _ _ _ _ => pts_one (pt_val (pe_call F_has_same_stamp (hr.mono (by decide)) (by rfl) h_has_same_stamp k_has_same_stamp b_has_same_stamp .nil pass0 (pa_cons (pv 3) (pa_cons (pv 1) pa_nil))))) (fun _ _ _ _ _ => (pv 2))))), ?_⟩
    refine ⟨_, rfl, _, _, _, _, _, rfl, h1, T.cl_Operation, T.na_Operation_heard, F_Operation_heard, _, rfl, _, _, _, _, _, rfl, h1, T.cl_Operation, T.na_Operation_told, F_Operation_told, h, t, _, _, rfl, SqL.of h2, SqL.of h3, fun D hD => ?_⟩
    have nl : min (nsV o.heard).length (ts.map V.ref).length = o.heard.length := by
      unfold nsV
      rw [List.length_map, List.length_map, c3.len]
      omega
    refine lc_it (walk_zip nl.symm) (fun i H' => Same H H' ∧ H' D = some (.lst (nsV ((((o.heard.zip o.told).take i).filter fun p => same p.2 c).map (·.1))))) ⟨Same.upd hD, upd_same⟩ (fun i H' _ p => ⟨SqL.of (p.1 _ _ h2), SqL.of (p.1 _ _ h3)⟩) ?_ ?_
    · rintro i x H1 H2 hi ⟨s1, hD1⟩ ⟨Tp, u, y, rfl, hT, rfl, hu, hy⟩
      obtain ⟨nx, hnx, rfl⟩ := map_get hu
      obtain ⟨ty, hty, rfl⟩ := map_get hy
      obtain ⟨cy, hcy, hc⟩ := c3.getL hty
      have s2 : Same H (upd H1 Tp (.tup [.int (nx : Int), .ref ty])) := Same.upd2 s1 hT
      have nDT : D ≠ Tp := ne_of_none hD1 hT
      have hD2 : (upd H1 Tp (.tup [.int (nx : Int), .ref ty])) D = some (.lst (nsV ((((o.heard.zip o.told).take i).filter fun p => same p.2 c).map (·.1)))) := by
        rw [upd_ne nDT]
        exact hD1
      refine ⟨Tp, _, rfl, SqT.of upd_same, rfl, _, _, rfl, _, _, rfl, rfl, rfl, ?_⟩
      refine ⟨_, rfl, _, rfl, ty, e, cy, c, rfl, (hc.mv (Mv.same (S := fun _ => True) s2) trivial).sq T, (ce.mv (Mv.same (S := fun _ => True) s2) trivial).sq T, _, rfl, ?_⟩
      have tt := told_turn (c := c) hnx hcy
      refine ite2 (fun z => ?_) (fun z => ?_)
      · rw [if_pos z] at tt
        refine ⟨_, rfl, _, hD2, ?_, ?_, ?_⟩
        · refine Nat.lt_of_le_of_lt ?_ (show 1000 < sizeLine by decide)
          unfold nsV
          rw [List.length_map, List.length_map]
          refine Nat.le_trans (List.length_filter_le ..) ?_
          rw [List.length_take]
          omega
        · intro b ob eb
          rw [upd_ne (ne_of_none eb hD)]
          exact s2 b ob eb
        · rw [upd_same, tt]
      · rw [if_neg z] at tt
        exact ⟨s2, by rw [tt]; exact hD2⟩
    · rintro H' ⟨s1, hD1⟩
      refine k D H' hD s1 ?_
      rw [List.take_of_length_le (by rw [List.length_zip]; omega)] at hD1
      exact hD1
def sp_letterTo (A : Adr) : Sp := fun vs H Q _ => ∃ (a : Addr) (k : Nat) (o : MOp) (n : Nat) (τ : Addr → Tag), vs = [.ref a, .int (n : Int)] ∧ OpAt A τ H k a o ∧ (∀ a, H a = none → τ a = (0, 0)) ∧
  ∀ (p : Addr) (H' : Hp), H p = none → Same H H' → LtAt A τ H' p (o.letterTo n) → Q (.ref p) H'
theorem ok_Operation_letter_to (T : Txt K mg A) : MtG P w K mg base A.c_Operation "letter_to" 3 ["self", "node"] (sp_letterTo A) := by
  have G_Letter_init := ok_Letter_init (P := P) (w := w) (base := base) T
  obtain ⟨f_Letter_init, d_Letter_init, M_Letter_init, h_Letter_init, b_Letter_init, F_Letter_init⟩ := G_Letter_init.ex
  refine mk_Operation_letter_to T (fun vs H Q E h => ?_) (fun f cdv B outer s H vs Q E hr h => ?_)
  · obtain ⟨a, n, o, m, τ, rfl, _⟩ := h
    rfl
  · obtain ⟨a, n, o, m, τ, rfl, ⟨dx, h, t, q, w, ts, t1, h1, t2, h2, t3, h3, c3, t4, h4, c4⟩, f0, k⟩ := h
    refine ⟨_, (pss_cons (ps_if (pt_cmpR op_isN (pe_fld (pv 0) rfl) pe_non (nomark _))
        (pss_one (ps_ret (pe_make M_Letter_init F_Letter_init (hr.mono (by decide)) (by rfl) h_Letter_init b_Letter_init .nil pass0 (pa_cons (pe_gint rfl T.g_ASKS) (pa_cons (pv 1) (pa_cons (pe_fld (pv 0) rfl) (pa_cons (pe_fld (pv 0) rfl) (pa_cons (pe_fld (pv 0) rfl) (pa_cons (pe_glob (v := .ref A.z_ZERO_COPY) rfl T.g_ZERO_COPY rfl) pa_nil)))))))))
        pss_nil)
      (pss_one (ps_ret (pe_make M_Letter_init F_Letter_init (hr.mono (by decide)) (by rfl) h_Letter_init b_Letter_init .nil pass0 (pa_cons (pe_gint rfl T.g_KEEP) (pa_cons (pv 1) (pa_cons (pe_fld (pv 0) rfl) (pa_cons (pe_fld (pv 0) rfl) (pa_cons (pe_fld (pv 0) rfl) (pa_cons (pe_fld (pv 0) rfl) pa_nil)))))))))), ?_⟩
    refine ⟨_, rfl, _, _, _, _, _, rfl, h1, T.cl_Operation, T.na_Operation_wanted, F_Operation_wanted, rfl, _, rfl, ?_⟩
    cases hw : o.wanted with
    | none =>
      rw [hw] at c4
      obtain rfl : w = .non := c4
      have eo : o.letterTo m = ⟨0, m, o.client, o.number, o.cell, zero⟩ := by unfold MOp.letterTo; rw [hw]
      refine iteT ?_
      refine ⟨_, rfl, _, rfl, _, _, _, _, _, rfl, h1, T.cl_Operation, T.na_Operation_client, F_Operation_client, _, rfl, _, _, _, _, _, rfl, h1, T.cl_Operation, T.na_Operation_number, F_Operation_number, _, rfl, _, _, _, _, _, rfl, h1, T.cl_Operation, T.na_Operation_cell, F_Operation_cell, fun x d nx nd ne => ?_⟩
      refine ⟨x, d, _, _, _, _, _, _, _, rfl, rfl, rfl, ?_⟩
      have hN := newlt_made (A := A) (v0 := .int 0) (v1 := .int (m : Int)) (v2 := .int (o.client : Int)) (v3 := .int (o.number : Int)) (v4 := .int (o.cell : Int)) (v5 := .ref A.z_ZERO_COPY) nx nd ne
      refine k x _ hN.1 hN.2.1 ?_
      rw [eo]
      exact NewLt.at_ (l := ⟨0, m, o.client, o.number, o.cell, zero⟩) hN f0 (.inl ⟨rfl, rfl⟩)
    | some c =>
      rw [hw] at c4
      obtain ⟨e, rfl, ce⟩ := c4
      have eo : o.letterTo m = ⟨2, m, o.client, o.number, o.cell, c⟩ := by unfold MOp.letterTo; rw [hw]
      refine iteF ?_
      refine ⟨_, rfl, _, rfl, _, _, _, _, _, rfl, h1, T.cl_Operation, T.na_Operation_client, F_Operation_client, _, rfl, _, _, _, _, _, rfl, h1, T.cl_Operation, T.na_Operation_number, F_Operation_number, _, rfl, _, _, _, _, _, rfl, h1, T.cl_Operation, T.na_Operation_cell, F_Operation_cell, _, rfl, _, _, _, _, _, rfl, h1, T.cl_Operation, T.na_Operation_wanted, F_Operation_wanted, fun x d nx nd ne => ?_⟩
      refine ⟨x, d, _, _, _, _, _, _, _, rfl, rfl, rfl, ?_⟩
      have hN := newlt_made (A := A) (v0 := .int 2) (v1 := .int (m : Int)) (v2 := .int (o.client : Int)) (v3 := .int (o.number : Int)) (v4 := .int (o.cell : Int)) (v5 := .ref e) nx nd ne
      refine k x _ hN.1 hN.2.1 ?_
      rw [eo]
      exact NewLt.at_ (l := ⟨2, m, o.client, o.number, o.cell, c⟩) hN f0 ce
/-! ### clients -/
def sp_client (A : Adr) : Sp := fun vs H Q _ => ∃ (p dx : Addr) (H0 : Hp), vs = [.ref p] ∧ H = upd H0 p (.ins A.c_Client dx []) ∧ Q .non (upd H0 p (.ins A.c_Client dx (F_Client (.int 0) (.bl false) .non)))
theorem ok_Client_init (T : Txt K mg A) : MkG P w K mg base "Client" A.c_Client 1 ["self"] (sp_client A) := by
  refine mk_Client_init T (fun vs H Q E h => ?_) (fun f cdv B outer s H vs Q E hr h => ?_)
  · obtain ⟨p, dx, H0, rfl, _⟩ := h
    rfl
  · obtain ⟨p, dx, H0, rfl, rfl, k⟩ := h
    refine ⟨_, (pss_cons (ps_fld (pv 0) pe_int rfl)
      (pss_cons (ps_fld (pv 0) pe_bl rfl)
      (pss_one (ps_fld (pv 0) pe_non rfl)))), ?_⟩
    refine ⟨_, rfl, p, _, dx, _, rfl, upd_same, T.cl_Client, T.na_Client_begun, (show 0 < 1000 by decide), ?_⟩
    rw [upd_upd, F_Client_new_begun]
    refine ⟨_, rfl, p, _, dx, _, rfl, upd_same, T.cl_Client, T.na_Client_gone, (show 1 < 1000 by decide), ?_⟩
    rw [upd_upd, F_Client_new_gone]
    refine ⟨_, rfl, p, _, dx, _, rfl, upd_same, T.cl_Client, T.na_Client_under_way, (show 2 < 1000 by decide), ?_⟩
    rw [upd_upd, F_Client_new_under_way]
    exact k
def sp_isAt (A : Adr) (r : MClient → Bool) : Sp := fun vs H Q _ => ∃ (a : Addr) (oa : List Addr) (i : Nat) (c : MClient) (τ : Addr → Tag), vs = [.ref a] ∧ ClAt A τ H oa i a c ∧ Q (.bl (r c)) H
theorem und_non {oa : List Addr} {u : V} {o : Option Nat} (h : undV oa u o) : decide (u = .non) = o.isNone := by
  cases o with
  | none =>
    obtain rfl : u = .non := h
    rfl
  | some k =>
    obtain ⟨b, _, rfl⟩ := h
    rfl
theorem ok_Client_is_at_work (T : Txt K mg A) : MtG P w K mg base A.c_Client "is_at_work" 1 ["self"] (sp_isAt A (fun c => c.under.isSome && !c.gone)) := by
  refine mk_Client_is_at_work T (fun vs H Q E h => ?_) (fun f cdv B outer s H vs Q E hr h => ?_)
  · obtain ⟨a, oa, i, c, τ, rfl, _⟩ := h
    rfl
  · obtain ⟨a, oa, i, c, τ, rfl, ⟨dx, u, t1, h1, hu⟩, k⟩ := h
    have hn := und_non hu
    refine ⟨_, (pss_one (ps_ret (pe_and (pe_cmpR op_notN (pe_fld (pv 0) rfl) pe_non (nomark _)) (pe_one (pe_not (pe_fld (pv 0) rfl)))))), ?_⟩
    refine ⟨_, rfl, _, _, _, _, _, rfl, h1, T.cl_Client, T.na_Client_under_way, F_Client_under_way, rfl, _, rfl, ?_⟩
    rw [hn]
    cases hc : c.under with
    | none =>
      have k : Q (.bl (c.under.isSome && !c.gone)) H := k
      rw [hc] at k
      exact iteF k
    | some n =>
      have k : Q (.bl (c.under.isSome && !c.gone)) H := k
      rw [hc] at k
      refine iteT ⟨_, rfl, _, _, _, _, _, rfl, h1, T.cl_Client, T.na_Client_gone, F_Client_gone, _, rfl, ?_⟩
      exact k
theorem ok_Client_is_free (T : Txt K mg A) : MtG P w K mg base A.c_Client "is_free" 1 ["self"] (sp_isAt A (fun c => c.under.isNone && !c.gone)) := by
  refine mk_Client_is_free T (fun vs H Q E h => ?_) (fun f cdv B outer s H vs Q E hr h => ?_)
  · obtain ⟨a, oa, i, c, τ, rfl, _⟩ := h
    rfl
  · obtain ⟨a, oa, i, c, τ, rfl, ⟨dx, u, t1, h1, hu⟩, k⟩ := h
    have hn := und_non hu
    refine ⟨_, (pss_one (ps_ret (pe_and (pe_cmpR op_isN (pe_fld (pv 0) rfl) pe_non (nomark _)) (pe_one (pe_not (pe_fld (pv 0) rfl)))))), ?_⟩
    refine ⟨_, rfl, _, _, _, _, _, rfl, h1, T.cl_Client, T.na_Client_under_way, F_Client_under_way, rfl, _, rfl, ?_⟩
    rw [hn]
    cases hc : c.under with
    | some n =>
      have k : Q (.bl (c.under.isNone && !c.gone)) H := k
      rw [hc] at k
      exact iteF k
    | none =>
      have k : Q (.bl (c.under.isNone && !c.gone)) H := k
      rw [hc] at k
      refine iteT ⟨_, rfl, _, _, _, _, _, rfl, h1, T.cl_Client, T.na_Client_gone, F_Client_gone, _, rfl, ?_⟩
      exact k
end
end Cb

namespace Cb
open PySem L2
open Ag02 (Copy Letter above same zero)
section
variable {P : Program} {w : World} {K : PySem.W.Frag} {mg : Str → Option Value} {base : Heap} {A : Adr}
/-! ### how a heap goes on -/
/-- tags stay, nothing vanishes, what is not the world's stands as it stood -/
def Evo (τ τ' : Addr → Tag) (H H' : Hp) : Prop := ∀ b o, H b = some o → τ' b = τ b ∧ ∃ o', H' b = some o' ∧ (τ b = (0, 0) → o' = o)
theorem Evo.same {τ : Addr → Tag} {H H' : Hp} (s : Same H H') : Evo τ τ H H' := fun b o h => ⟨rfl, o, s b o h, fun _ => rfl⟩
theorem Evo.upd {τ : Addr → Tag} {H : Hp} {a : Addr} {x o : HO} (h : H a = some x) (t : τ a ≠ (0, 0)) : Evo τ τ H (L2.upd H a o) := fun b u hb => by
  by_cases q : b = a
  · subst q
    exact ⟨rfl, o, upd_same, fun z => absurd z t⟩
  · exact ⟨rfl, u, by rw [upd_ne q]; exact hb, fun _ => rfl⟩
theorem Evo.trans {τ τ1 τ2 : Addr → Tag} {H H1 H2 : Hp} (a : Evo τ τ1 H H1) (b : Evo τ1 τ2 H1 H2) : Evo τ τ2 H H2 := fun x o h => by
  obtain ⟨t1, o1, h1, e1⟩ := a x o h
  obtain ⟨t2, o2, h2, e2⟩ := b x o1 h1
  exact ⟨t2.trans t1, o2, h2, fun z => (e2 (t1.trans z)).trans (e1 z)⟩
theorem Evo.keep {τ τ' : Addr → Tag} {H H' : Hp} (e : Evo τ τ' H H') {b : Addr} {o : HO} (h : H b = some o) (t : τ b = (0, 0)) : H' b = some o ∧ τ' b = (0, 0) := by
  obtain ⟨t1, o1, h1, e1⟩ := e b o h
  rw [e1 t] at h1
  exact ⟨h1, t1.trans t⟩
theorem Evo.none {τ τ' : Addr → Tag} {H H' : Hp} (e : Evo τ τ' H H') {b : Addr} (h : H' b = none) : H b = none := by
  cases q : H b with
  | none => rfl
  | some o =>
    obtain ⟨_, o1, h1, _⟩ := e b o q
    rw [h1] at h
    cases h
/-- what a call of the world's gives: a new list of these numbers, the world gone on -/
def Res (A : Adr) (L : Lay) (H : Hp) (W : MW) (ans : List Int) (Q : VK) : Prop := ∀ (L' : Lay) (H' : Hp) (r : Addr), L'.p = L.p → WAt A L' H' W → Evo L.tg L'.tg H H' → H r = none → H' r = some (.lst (ans.map V.int)) → L'.tg r = (0, 0) → Q (.ref r) H'
theorem Res.move {L L1 : Lay} {H H1 : Hp} {W : MW} {ans : List Int} {Q : VK} (k : Res A L H W ans Q) (hp : L1.p = L.p) (e : Evo L.tg L1.tg H H1) : Res A L1 H1 W ans Q :=
  fun L' H' r h1 h2 h3 h4 h5 h6 => k L' H' r (h1.trans hp) h2 (e.trans h3) (e.none h4) h5 h6
theorem Res.ret {L : Lay} {H : Hp} {W : MW} {ans : List Int} {Q : VK} (k : Res A L H W ans Q) (wa : WAt A L H W) : ∀ r, H r = none → Q (.ref r) (upd H r (.lst (ans.map V.int))) :=
  fun r hr => k L _ r rfl (wa.same (Same.upd hr)) (Evo.same (Same.upd hr)) hr upd_same (wa.fr r hr)
/-! ### most -/
def intsOf {α : Type} (f : α → Nat) (l : List α) : List Int := l.map fun n => ((f n : Nat) : Int)
theorem intsOf_sum {α : Type} (f : α → Nat) : ∀ l : List α, (intsOf f l).sum = (((l.map f).sum : Nat) : Int)
  | [] => rfl
  | a :: l => by
    unfold intsOf
    rw [List.map_cons, List.sum_cons, List.map_cons, List.sum_cons]
    have ih := intsOf_sum f l
    unfold intsOf at ih
    rw [ih]
    omega
theorem sz1000 {n : Nat} (h : n ≤ 1000) : n < sizeLine := Nat.lt_of_le_of_lt h (by decide)
def sp_most (K : PySem.W.Frag) (A : Adr) : Sp := fun vs H Q _ => ∃ (L : Lay) (W : MW) (l : Addr) (ns : List Nat), vs = [.ref L.p, .ref l] ∧ WAt A L H W ∧ H l = some (.lst (nsV ns)) ∧ (∀ x ∈ ns, x < W.nodes.length) ∧ ns.length ≤ 1000 ∧ W.nodes.length ≤ 1000 ∧
  ∀ H', Same H H' → Q (.bl (W.most ns)) H'
theorem ok_World_is_most (T : Txt K mg A) : MtG P w K mg base A.c_World "is_most" 1 ["self", "numbers"] (sp_most K A) := by
  refine mk_World_is_most T (fun vs H Q E h => ?_) (fun f cdv B outer s H vs Q E hr h => ?_)
  · obtain ⟨L, W, l, ns, rfl, _⟩ := h
    rfl
  · obtain ⟨L, W, l, ns, rfl, wa, hl, hin, hns, hnn, k⟩ := h
    obtain ⟨dw, hob⟩ := wa.ob
    refine ⟨_, (pss_cons (ps_set (i := 2) sc_World_is_most.nd rfl (Or.inl rfl) (pe_callB (cr_sum rfl) (by rfl) T.b_sum (by decide +kernel) (pa_cons (pe_lc (te := (tFld K (tOp (rIxL K) (tFld K (tVar 0) "nodes") (tVar 4)) "weight")) (own := [("number", 4)]) rfl sc_World_is_most.nd (pi_list (pv 1)) (blkOk_by (N := n_World_is_most) (sc := defScope s_World_is_most) (by decide +kernel)) (fun _ _ _ _ _ => pg_name (i := 4) sc_World_is_most.nd rfl (Or.inl rfl)) (fun _ _ _ _ _ => pts_nil) (fun _ _ _ _ _ => (pe_fld (pe_ix ix_list (pe_fld (pv 0) rfl) (pv 4) (fun _ _ => rfl)) rfl))) pa_nil)))
      (pss_cons (ps_set (i := 3) sc_World_is_most.nd rfl (Or.inl rfl) (pe_callB (cr_sum rfl) (by rfl) T.b_sum (by decide +kernel) (pa_cons (pe_lc (te := (tFld K (tVar 5) "weight")) (own := [("node", 5)]) rfl sc_World_is_most.nd (pi_list (pe_fld (pv 0) rfl)) (blkOk_by (N := n_World_is_most) (sc := defScope s_World_is_most) (by decide +kernel)) (fun _ _ _ _ _ => pg_name (i := 5) sc_World_is_most.nd rfl (Or.inl rfl)) (fun _ _ _ _ _ => pts_nil) (fun _ _ _ _ _ => (pe_fld (pv 5) rfl))) pa_nil)))
      (pss_one (ps_ret (pe_cmpR op_gt (pe_op op_mul pe_int (pv 2)) (pv 3) (nomark _)))))), ?_⟩
    refine ⟨_, rfl, l, rfl, ⟨_, SqL.of hl⟩, fun D hD => lc_list (K := K) (xs := nsV ns) (fun i H' => Same H H' ∧ H' D = some (.lst ((intsOf W.wt (ns.take i)).map V.int))) ⟨Same.upd hD, upd_same⟩ (fun i H' _ p => SqL.of (p.1 _ _ hl)) ?_ ?_⟩
    · rintro i x H1 hi ⟨s1, hD1⟩
      obtain ⟨n, hn, rfl⟩ := map_get hi
      have hnl := hin n (List.mem_of_getElem? hn)
      obtain ⟨a, ha, dx, lc, cs, t1, h1, t2, h2, al⟩ := wa.an.get (nd_some hnl)
      have ew : W.wt n = (W.nd n).weight := by unfold MW.wt; rw [nd_some hnl]
      refine ⟨rfl, tyes ?_⟩
      refine ⟨_, rfl, _, _, _, _, _, rfl, (s1 _ _ hob), T.cl_World, T.na_World_nodes, F_World_nodes, _, rfl, _, _, _, _, rfl, rfl, SqL.of (s1 _ _ wa.hn), at_of rfl (show (L.na.map V.ref)[n]? = some (V.ref a) by rw [List.getElem?_map, ha]; rfl), _, _, _, _, _, rfl, (s1 _ _ h1), T.cl_Node, T.na_Node_weight, F_Node_weight, _, hD1, ?_, ?_, ?_⟩
      · unfold intsOf
        rw [List.length_map, List.length_map, List.length_take]
        exact sz1000 (by omega)
      · exact fun b o e => by rw [upd_ne (ne_of_none e hD)]; exact s1 b o e
      · rw [upd_same, take_more hn]
        unfold intsOf
        rw [List.map_append, List.map_append]
        show _ = some (HO.lst (_ ++ [V.int ((W.wt n : Nat) : Int)]))
        rw [ew]
    · rintro H1 ⟨s1, hD1⟩
      have e0 : (ns.take (nsV ns).length) = ns := List.take_of_length_le (by unfold nsV; rw [List.length_map]; omega)
      rw [e0] at hD1
      refine ⟨D, _, rfl, SqL.of hD1, ?_⟩
      refine ⟨_, rfl, _, _, _, _, _, rfl, (s1 _ _ hob), T.cl_World, T.na_World_nodes, F_World_nodes, L.ln, rfl, ⟨_, SqL.of (s1 _ _ wa.hn)⟩, fun D2 hD2 => lc_list (K := K) (xs := L.na.map V.ref) (fun i H' => Same H1 H' ∧ H' D2 = some (.lst ((intsOf (·.weight) (W.nodes.take i)).map V.int))) ⟨Same.upd hD2, upd_same⟩ (fun i H' _ p => SqL.of (p.1 _ _ (s1 _ _ wa.hn))) ?_ ?_⟩
      · rintro i x H2 hi ⟨s2, hD3⟩
        obtain ⟨a, ha, rfl⟩ := map_get hi
        obtain ⟨n, hn, dx, lc, cs, t1, h1, t2, h2, al⟩ := wa.an.getL ha
        refine ⟨rfl, tyes ?_⟩
        refine ⟨_, rfl, _, _, _, _, _, rfl, (s2 _ _ (s1 _ _ h1)), T.cl_Node, T.na_Node_weight, F_Node_weight, _, hD3, ?_, ?_, ?_⟩
        · unfold intsOf
          rw [List.length_map, List.length_map, List.length_take]
          exact sz1000 (by omega)
        · exact fun b o e => by rw [upd_ne (ne_of_none e hD2)]; exact s2 b o e
        · rw [upd_same, take_more hn]
          unfold intsOf
          rw [List.map_append, List.map_append]
          rfl
      · rintro H2 ⟨s2, hD3⟩
        have e1 : (W.nodes.take (L.na.map V.ref).length) = W.nodes := List.take_of_length_le (by rw [List.length_map, wa.an.len]; omega)
        rw [e1] at hD3
        refine ⟨D2, _, rfl, SqL.of hD3, ?_⟩
        refine ⟨_, rfl, _, _, rfl, rfl, .inl ⟨by decide, by decide⟩, _, rfl, _, _, rfl, rfl, ?_⟩
        have e2 : decide ((intsOf (fun (x : MNode) => x.weight) W.nodes).sum < 2 * (intsOf W.wt ns).sum) = W.most ns := by
          unfold MW.most
          rw [intsOf_sum, intsOf_sum]
          by_cases q : (W.nodes.map (fun x => x.weight)).sum < 2 * (ns.map W.wt).sum
          · rw [decide_eq_true q, decide_eq_true (by omega)]
          · rw [decide_eq_false q, decide_eq_false (by omega)]
        have q := k H2 (s1.trans s2)
        rw [← e2] at q
        exact q
/-! ### events -/
def sp_event (A : Adr) : Sp := fun vs H Q _ => ∃ (L : Lay) (W : MW), vs = [.ref L.p] ∧ WAt A L H W ∧ ∀ H', WAt A L H' { W with events := W.events + 1 } → Evo L.tg L.tg H H' → Q (.int (W.events : Int)) H'
theorem ok_World_next_event (T : Txt K mg A) : MtG P w K mg base A.c_World "next_event" 1 ["self"] (sp_event A) := by
  refine mk_World_next_event T (fun vs H Q E h => ?_) (fun f cdv B outer s H vs Q E hr h => ?_)
  · obtain ⟨L, W, rfl, _⟩ := h
    rfl
  · obtain ⟨L, W, rfl, wa, k⟩ := h
    obtain ⟨dw, hob⟩ := wa.ob
    refine ⟨_, (pss_cons (ps_set (i := 1) sc_World_next_event.nd rfl (Or.inl rfl) (pe_fld (pv 0) rfl))
      (pss_cons (ps_fld (pv 0) (pe_op op_add (pv 1) pe_int) rfl)
      (pss_one (ps_ret (pv 1))))), ?_⟩
    refine ⟨_, rfl, _, _, _, _, _, rfl, hob, T.cl_World, T.na_World_events, F_World_events, _, rfl, _, _, rfl, rfl, _, rfl, _, _, _, _, rfl, hob, T.cl_World, T.na_World_events, F_World_len, _, rfl, ?_⟩
    rw [F_World_put_events]
    exact k _ (wa.event (n := W.events + 1)) (Evo.upd hob (by rw [wa.tp]; decide))
/-! ### sending -/
def sp_send (A : Adr) : Sp := fun vs H Q _ => ∃ (L : Lay) (W : MW) (a : Addr) (l : Letter), vs = [.ref L.p, .ref a] ∧ WAt A L H W ∧ W.row.length ≤ 100 ∧ LtAt A L.tg H a l ∧
  ∀ la H', WAt A { L with la := la } H' (W.send l) → Evo L.tg L.tg H H' → Q .non H'
theorem ok_World_send (T : Txt K mg A) : MtG P w K mg base A.c_World "send" 1 ["self", "letter"] (sp_send A) := by
  refine mk_World_send T (fun vs H Q E h => ?_) (fun f cdv B outer s H vs Q E hr h => ?_)
  · obtain ⟨L, W, a, l, rfl, _⟩ := h
    rfl
  · obtain ⟨L, W, a, l, rfl, wa, hrow, hl, k⟩ := h
    obtain ⟨dw, hob⟩ := wa.ob
    have el : (L.la.map V.ref).length = W.row.length := by rw [List.length_map, wa.al.len]
    refine ⟨_, (pss_one (ps_if (pt_cmpR op_lt (pe_callB call_len_seq (by rfl) T.b_len PySem.boot_len (pa_cons (pe_fld (pv 0) rfl) pa_nil)) (pe_gint rfl T.g_ROOM) (nomark _))
        (pss_one (ps_expr (pe_bm PySem.F.plainAttrs_list PySem.F.slot_list_append PySem.F.type_list_append mt_append (pe_fld (pv 0) rfl) (pa_cons (pv 1) pa_nil))))
        pss_nil)), ?_⟩
    refine ⟨_, rfl, _, _, _, _, _, rfl, hob, T.cl_World, T.na_World_row, F_World_row, L.lr, _, rfl, .inl (SqL.of wa.hr), _, _, rfl, rfl, _, rfl, ?_⟩
    refine ite2 (fun q => ?_) (fun q => ?_)
    · have q : W.row.length < 100 := by
        have := of_decide_eq_true q
        omega
      refine ⟨_, rfl, _, _, _, _, _, rfl, hob, T.cl_World, T.na_World_row, F_World_row, .inl ⟨rfl, _, SqL.of wa.hr⟩, _, rfl, L.lr, _, _, rfl, rfl, wa.hr, ?_, ?_⟩
      · rw [el]
        exact sz1000 (by omega)
      · have e : W.send l = { W with row := W.row ++ [l] } := if_pos q
        have e2 : L.la.map V.ref ++ [V.ref a] = (L.la ++ [a]).map V.ref := by rw [List.map_append]; rfl
        rw [e2]
        refine k (L.la ++ [a]) _ ?_ (Evo.upd wa.hr (by rw [wa.tr]; decide))
        rw [e]
        exact wa.row (wa.al.push hl)
    · have q : ¬ W.row.length < 100 := fun z => q (decide_eq_true (by omega))
      have e : W.send l = W := if_neg q
      refine k L.la H ?_ (Evo.same (Same.refl H))
      rw [e]
      exact wa
theorem sends_ops : ∀ (ls : List Letter) (W : MW), (ls.foldl MW.send W).ops = W.ops
  | [], _ => rfl
  | l :: ls, W => by rw [List.foldl_cons, sends_ops ls, send_ops]
theorem sends_len : ∀ (ls : List Letter) (W : MW), W.row.length ≤ 100 → (ls.foldl MW.send W).row.length ≤ 100 := fun ls W h => by
  rw [sends_row ls W h]
  exact List.length_take_le ..
theorem inV_ns {n : Nat} : ∀ l : List Nat, inV (.int (n : Int)) (nsV l) = l.contains n
  | [] => rfl
  | a :: l => by
    have ih := inV_ns (n := n) l
    unfold inV nsV at ih ⊢
    rw [List.map_cons, List.any_cons, ih, List.contains_cons]
    congr 1
    show eqV (.int (a : Int)) (.int (n : Int)) = (n == a)
    by_cases q : n = a
    · subst q
      simp [eqV]
    · have h1 : (n == a) = false := beq_eq_false_iff_ne.mpr q
      rw [h1]
      unfold eqV
      simp
      omega
theorem flat_ns (l : List Nat) : (nsV l).all flatV = true := by
  unfold nsV
  rw [List.all_map]
  exact List.all_eq_true.mpr fun _ _ => rfl
def sp_missing (A : Adr) : Sp := fun vs H Q _ => ∃ (L : Lay) (W : MW) (a : Addr) (k : Nat) (o : MOp), vs = [.ref L.p, .ref a] ∧ WAt A L H W ∧ W.row.length ≤ 100 ∧ W.nodes.length ≤ 5 ∧ L.oa[k]? = some a ∧ W.ops[k]? = some o ∧
  ∀ la H', WAt A { L with la := la } H' (W.sendTo o) → Evo L.tg L.tg H H' → Q (.int ((W.missing o).length : Int)) H'
theorem ok_World_send_to_missing (T : Txt K mg A) : MtG P w K mg base A.c_World "send_to_missing" 4 ["self", "operation"] (sp_missing A) := by
  have G_Operation_counted_nodes := ok_Operation_counted_nodes (P := P) (w := w) (base := base) T
  have G_World_send := ok_World_send (P := P) (w := w) (base := base) T
  have G_Operation_letter_to := ok_Operation_letter_to (P := P) (w := w) (base := base) T
  obtain ⟨f_Operation_counted_nodes, d_Operation_counted_nodes, c_Operation_counted_nodes, m_Operation_counted_nodes, b_Operation_counted_nodes, F_Operation_counted_nodes⟩ := G_Operation_counted_nodes.ex
  obtain ⟨f_World_send, d_World_send, c_World_send, m_World_send, b_World_send, F_World_send⟩ := G_World_send.ex
  obtain ⟨f_Operation_letter_to, d_Operation_letter_to, c_Operation_letter_to, m_Operation_letter_to, b_Operation_letter_to, F_Operation_letter_to⟩ := G_Operation_letter_to.ex
  refine mk_World_send_to_missing T (fun vs H Q E h => ?_) (fun f cdv B outer s H vs Q E hr h => ?_)
  · obtain ⟨L, W, a, n, o, rfl, _⟩ := h
    rfl
  · obtain ⟨L, W, a, n, o, rfl, wa, hrow, h5, hoa, hop, k⟩ := h
    obtain ⟨dw, hob⟩ := wa.ob
    have opa := wa.ao.at_ n a o hoa hop
    obtain ⟨dx, x, t, q, wv, ts, t1, h1, t2, h2, t3, h3, c3, t4, h4, c4⟩ := id opa
    refine ⟨_, (pss_cons (ps_set (i := 2) sc_World_send_to_missing.nd rfl (Or.inr rfl) (pe_meth0 (pv 1) c_Operation_counted_nodes m_Operation_counted_nodes F_Operation_counted_nodes (hr.mono (by decide)) b_Operation_counted_nodes .nil pass0))
      (pss_cons (ps_setLc (i := 3) (tt := tTest (tOp (rIn K true) (tVar 4) (tVar 2))) (own := [("number", 4)]) rfl sc_World_send_to_missing.nd rfl rfl (sw_true rfl rfl rfl (by decide +kernel)) (pi_range1 (by rfl) T.b_range (pa_cons (pe_callB call_len_seq (by rfl) T.b_len PySem.boot_len (pa_cons (pe_fld (pv 0) rfl) pa_nil)) pa_nil)) (blkOk_by (N := n_World_send_to_missing) (sc := defScope s_World_send_to_missing) (by decide +kernel)) (fun _ _ _ _ _ => pg_name (i := 4) sc_World_send_to_missing.nd rfl (Or.inl rfl)) (fun _ _ _ _ _ => pts_one (pt_cmpR op_notIn_seq (pv 4) (pv 2) (by rfl))) (fun _ _ _ _ _ => (pv 4)))
      (pss_cons (ps_for PassesOwn.never rfl (pi_list (pv 3)) (pg_name (i := 4) sc_World_send_to_missing.nd rfl (Or.inl rfl))
        (pss_one (ps_expr (pe_meth (pv 0) c_World_send m_World_send F_World_send (hr.mono (by decide)) b_World_send .nil pass0 (pa_cons (pe_meth (pv 1) c_Operation_letter_to m_Operation_letter_to F_Operation_letter_to (hr.mono (by decide)) b_Operation_letter_to .nil pass0 (pa_cons (pv 4) pa_nil)) pa_nil)))))
      (pss_one (ps_ret (pe_callB call_len_seq (by rfl) T.b_len PySem.boot_len (pa_cons (pv 3) pa_nil))))))), ?_⟩
    refine ⟨_, rfl, a, dx, _, rfl, h1, F_Operation_m_counted_nodes, a, n, o, L.tg, rfl, opa, fun lc hlc => ?_⟩
    refine ⟨_, rfl, _, _, _, _, _, rfl, hob, T.cl_World, T.na_World_nodes, F_World_nodes, L.ln, _, rfl, .inl (SqL.of wa.hn), _, rfl, ?_, ?_, fun D hD => ?_⟩
    · omega
    · rw [List.length_map, wa.an.len]
      omega
    have en : ((((L.na.map V.ref).length : Nat) : Int)).toNat = W.nodes.length := by rw [List.length_map, wa.an.len]; omega
    refine lc_range (lo := 0) (fun i H' => Same H H' ∧ H' D = some (.lst (nsV ((List.range i).filter fun n => !(o.counted.contains n))))) ⟨Same.upd hD, upd_same⟩ ?_ ?_
    · rintro i H1 hi ⟨s1, hD1⟩
      refine ⟨rfl, ?_⟩
      have e0 : (0 : Int) + (i : Int) = (i : Int) := Int.zero_add _
      refine ⟨_, rfl, _, rfl, lc, _, rfl, .inl (SqL.of (s1 _ _ hlc)), rfl, flat_ns _, _, rfl, ?_⟩
      show if (!inV (.int (0 + (i : Int))) (nsV o.counted)) = true then _ else _
      rw [e0, inV_ns]
      have e1 : (List.range (i + 1)).filter (fun n => !(o.counted.contains n)) = (List.range i).filter (fun n => !(o.counted.contains n)) ++ (if (!o.counted.contains i) = true then [i] else []) := by
        rw [List.range_succ, List.filter_append, List.filter_cons]
        rfl
      refine ite2 (fun z => ?_) (fun z => ?_)
      · rw [if_pos z] at e1
        refine ⟨_, rfl, _, hD1, ?_, fun b ob e => by rw [upd_ne (ne_of_none e hD)]; exact s1 b ob e, ?_⟩
        · unfold nsV
          rw [List.length_map]
          refine sz1000 (Nat.le_trans (List.length_filter_le ..) ?_)
          rw [List.length_range]
          omega
        · rw [upd_same, e1]
          unfold nsV
          rw [List.map_append]
          rfl
      · rw [if_neg z, List.append_nil] at e1
        exact ⟨s1, by rw [e1]; exact hD1⟩
    · rintro H1 ⟨s1, hD1⟩
      rw [en] at hD1
      have hD1 : H1 D = some (.lst (nsV (W.missing o))) := hD1
      have tD : L.tg D = (0, 0) := wa.fr D hD
      have mlen : (W.missing o).length ≤ 5 := by
        unfold MW.missing
        refine Nat.le_trans (List.length_filter_le ..) ?_
        rw [List.length_range]
        exact h5
      refine ⟨_, rfl, D, rfl, ⟨_, SqL.of hD1⟩, for_list (K := K) (a := D) (xs := nsV (W.missing o)) (fun i σ H' => ∃ (la : List Addr) (v4 : Option V), σ = [some (.ref L.p), some (.ref a), some (.ref lc), some (.ref D), v4] ∧ WAt A { L with la := la } H' ((((W.missing o).take i).map o.letterTo).foldl MW.send W) ∧ Evo L.tg L.tg H1 H')
        ⟨L.la, none, rfl, wa.same s1, Evo.same (Same.refl H1)⟩ (fun i σ H' _ ⟨_, _, _, _, m⟩ => SqL.of (m.keep hD1 tD).1) ?_ ?_⟩
      · rintro i y σ H2 hi ⟨la, v4, rfl, wb, m⟩
        obtain ⟨nn, hnn, rfl⟩ := map_get hi
        obtain ⟨dw2, hob2⟩ := wb.ob
        have hop2 : ((((W.missing o).take i).map o.letterTo).foldl MW.send W).ops[n]? = some o := by rw [sends_ops]; exact hop
        have opb := wb.ao.at_ n a o hoa hop2
        obtain ⟨dx2, x2, t2', q2, wv2, ts2, u1, g1, g2⟩ := id opb
        refine ⟨_, rfl, L.p, dw2, _, rfl, hob2, F_World_m_send, _, rfl, a, dx2, _, rfl, g1, F_Operation_m_letter_to, _, rfl, a, n, o, nn, L.tg, rfl, opb, wb.fr, fun p H3 np s3 lt => ?_⟩
        refine ⟨{ L with la := la }, _, p, _, rfl, wb.same s3, sends_len _ _ hrow, lt, fun la3 H4 wc m4 => ?_⟩
        refine ⟨la3, _, rfl, ?_, (m.trans (Evo.same s3)).trans m4⟩
        rw [take_more hnn, List.map_append, List.foldl_append]
        exact wc
      · rintro σ H2 ⟨la, v4, rfl, wb, m⟩
        have e1 : (W.missing o).take (nsV (W.missing o)).length = W.missing o := List.take_of_length_le (by unfold nsV; rw [List.length_map]; omega)
        rw [e1] at wb
        have hD2 := (m.keep hD1 tD).1
        refine ⟨_, rfl, D, _, rfl, .inl (SqL.of hD2), ?_⟩
        have e2 : (nsV (W.missing o)).length = (W.missing o).length := by unfold nsV; rw [List.length_map]
        rw [e2]
        exact k la H2 wb ((Evo.same s1).trans m)
end
end Cb

namespace Cb
open PySem L2
open Ag02 (Copy Letter above same zero)
section
variable {P : Program} {w : World} {K : PySem.W.Frag} {mg : Str → Option Value} {base : Heap} {A : Adr}
/-! ### an operation's parts changed -/
theorem opF_ended {o : MOp} {h t v q : V} {z : Int} : putF "ended" (.int z) (opF o h t v q) = opF { o with ended := z } h t v q := F_Operation_put_ended
theorem opF_result {o : MOp} {h t v q : V} {z : Int} : putF "result" (.int z) (opF o h t v q) = opF { o with result := z } h t v q := F_Operation_put_result
theorem opF_wanted {o : MOp} {h t v q y : V} {c : Option Copy} : putF "wanted" y (opF o h t v q) = opF { o with wanted := c } h t y q := F_Operation_put_wanted
theorem opF_keepers {o : MOp} {h t v q y : V} {l : List Nat} : putF "keepers" y (opF o h t v q) = opF { o with keepers := l } h t v y := F_Operation_put_keepers
section
variable {L : Lay} {H : Hp} {W : MW} {k : Nat} {a dx h t q : Addr} {o : MOp} {v : V} {ts : List Addr}
theorem mv7 {τ : Addr → Tag} {x : HO} (ha : τ a = (7, k)) : Mv (fun t => t ≠ (7, k) ∧ t ≠ (8, k) ∧ t ≠ (9, k) ∧ t ≠ (10, k)) τ τ H (upd H a x) := (Mv.upd ha).mono fun _ z => z.1
/-- its object's own fields -/
theorem WAt.opO (wa : WAt A L H W) (hoa : L.oa[k]? = some a) (h1 : H a = some (.ins A.c_Operation dx (opF o (.ref h) (.ref t) v (.ref q)))) (t1 : L.tg a = (7, k)) (t2 : L.tg h = (8, k)) (g2 : H h = some (.lst (nsV o.heard))) (t3 : L.tg t = (9, k)) (g3 : H t = some (.lst (ts.map V.ref))) (c3 : Al (fun _ => CpAt A L.tg H) ts o.told)
    (t4 : L.tg q = (10, k)) (g4 : H q = some (.lst (nsV o.keepers))) {o' : MOp} {v' : V} (e1 : o'.heard = o.heard) (e2 : o'.told = o.told) (e3 : o'.keepers = o.keepers) (hv : wanV A L.tg H v' o'.wanted) :
    WAt A L (upd H a (.ins A.c_Operation dx (opF o' (.ref h) (.ref t) v' (.ref q)))) { W with ops := W.ops.set k o' } := by
  have m : Mv (· ≠ (7, k)) L.tg L.tg H (upd H a (.ins A.c_Operation dx (opF o' (.ref h) (.ref t) v' (.ref q)))) := Mv.upd t1
  refine wa.op (τ' := L.tg) (mv7 t1) (fun a' ha' => ?_) (fr_upd wa.fr)
  rw [hoa] at ha'
  cases ha'
  refine ⟨dx, h, t, q, v', ts, t1, upd_same, t2, ?_, t3, (m _ _ g3 (by rw [t3]; simp)).1, ?_, t4, ?_, hv.mv m (by simp)⟩
  · rw [e1]
    exact (m _ _ g2 (by rw [t2]; simp)).1
  · rw [e2]
    exact cps_mv c3 m (by simp)
  · rw [e3]
    exact (m _ _ g4 (by rw [t4]; simp)).1
end
/-! ### an end -/
def sp_end (A : Adr) : Sp := fun vs H Q _ => ∃ (L : Lay) (W : MW) (a : Addr) (k r : Nat) (o : MOp) (c : MClient), vs = [.ref L.p, .ref a, .int (r : Int)] ∧ WAt A L H W ∧ L.oa[k]? = some a ∧ W.ops[k]? = some o ∧ W.clients[o.client]? = some c ∧ Res A L H (W.end_ k o r).1 [4, (r : Int)] Q
theorem ok_World_end (T : Txt K mg A) : MtG P w K mg base A.c_World "end" 2 ["self", "operation", "result"] (sp_end A) := by
  have G_World_next_event := ok_World_next_event (P := P) (w := w) (base := base) T
  obtain ⟨f_World_next_event, d_World_next_event, c_World_next_event, m_World_next_event, b_World_next_event, F_World_next_event⟩ := G_World_next_event.ex
  refine mk_World_end T (fun vs H Q E h => ?_) (fun f cdv B outer s H vs Q E hr h => ?_)
  · obtain ⟨L, W, a, n, r, o, c, rfl, _⟩ := h
    rfl
  · obtain ⟨L, W, a, n, r, o, c, rfl, wa, hoa, hop, hcl, k⟩ := h
    obtain ⟨dw, hob⟩ := wa.ob
    refine ⟨_, (pss_cons (ps_fld (pv 1) (pe_meth0 (pv 0) c_World_next_event m_World_next_event F_World_next_event (hr.mono (by decide)) b_World_next_event .nil pass0) rfl)
      (pss_cons (ps_fld (pv 1) (pv 2) rfl)
      (pss_cons (ps_set (i := 3) sc_World_end.nd rfl (Or.inl rfl) (pe_ix ix_list (pe_fld (pv 0) rfl) (pe_fld (pv 1) rfl) (fun _ _ => rfl)))
      (pss_cons (ps_fld (pv 3) pe_non rfl)
      (pss_one (ps_ret (pe_lst (pa_cons (pe_gint rfl T.g_ENDED) (pa_cons (pv 2) pa_nil))))))))), ?_⟩
    refine ⟨_, rfl, L.p, dw, _, rfl, hob, F_World_m_next_event, L, W, rfl, wa, fun H1 w1 m1 => ?_⟩
    have op1 := w1.ao.at_ n a o hoa hop
    obtain ⟨dx, x, t, q, wv, ts, t1, h1, t2, h2, t3, h3, c3, t4, h4, c4⟩ := id op1
    refine ⟨_, rfl, a, _, dx, _, rfl, h1, T.cl_Operation, T.na_Operation_ended, F_Operation_len, ?_⟩
    refine ⟨_, rfl, _, rfl, a, _, dx, _, rfl, upd_same, T.cl_Operation, T.na_Operation_result, ?_, ?_⟩
    · rw [opF_ended]
      exact F_Operation_len
    rw [upd_upd, opF_ended, opF_result]
    have w2 := w1.opO hoa h1 t1 t2 h2 t3 h3 c3 t4 h4 (o' := { o with ended := (W.events : Int), result := (r : Int) }) rfl rfl rfl c4
    have m2 : Evo L.tg L.tg H1 (upd H1 a (.ins A.c_Operation dx (opF { o with ended := (W.events : Int), result := (r : Int) } (.ref x) (.ref t) wv (.ref q)))) := Evo.upd h1 (by rw [t1]; simp)
    generalize hH2 : upd H1 a (.ins A.c_Operation dx (opF { o with ended := (W.events : Int), result := (r : Int) } (.ref x) (.ref t) wv (.ref q))) = H2 at w2 m2
    obtain ⟨dw2, hob2⟩ := w2.ob
    have ha2 : H2 a = some (.ins A.c_Operation dx (opF { o with ended := (W.events : Int), result := (r : Int) } (.ref x) (.ref t) wv (.ref q))) := by rw [← hH2]; exact upd_same
    have hcl2 : ({ { W with events := W.events + 1 } with ops := W.ops.set n { o with ended := (W.events : Int), result := (r : Int) } } : MW).clients[o.client]? = some c := hcl
    obtain ⟨ca, hca, dc, u, tc, hc1, hu⟩ := w2.ac.get hcl2
    refine ⟨_, rfl, _, _, _, _, _, rfl, hob2, T.cl_World, T.na_World_clients, F_World_clients, _, rfl, _, _, _, _, _, rfl, ha2, T.cl_Operation, T.na_Operation_client, F_Operation_client, _, _, _, _, rfl, rfl, SqL.of w2.hc, at_of rfl (show (L.ca.map V.ref)[o.client]? = some (V.ref ca) by rw [List.getElem?_map, hca]; rfl), ?_⟩
    refine ⟨_, rfl, ca, _, dc, _, rfl, hc1, T.cl_Client, T.na_Client_under_way, F_Client_len, ?_⟩
    rw [F_Client_put_under_way]
    have w3 := w2.client (o := .ins A.c_Client dc (F_Client (.int c.begun) (.bl c.gone) .non)) hca tc (c := { c with under := none }) ⟨dc, .non, tc, upd_same, rfl⟩
    have m3 : Evo L.tg L.tg H2 (upd H2 ca (.ins A.c_Client dc (F_Client (.int c.begun) (.bl c.gone) .non))) := Evo.upd hc1 (by rw [tc]; simp)
    rw [end_is hcl] at k
    refine ⟨_, rfl, (by show 2 ≤ sizeLine; decide), ?_⟩
    exact (k.move rfl ((m1.trans m2).trans m3)).ret w3
/-! ### having something kept -/
def sp_haveKept (A : Adr) : Sp := fun vs H Q _ => ∃ (L : Lay) (W : MW) (a e : Addr) (k : Nat) (o : MOp) (c : Copy), vs = [.ref L.p, .ref a, .ref e] ∧ WAt A L H W ∧ W.row.length ≤ 100 ∧ W.nodes.length ≤ 5 ∧ L.oa[k]? = some a ∧ W.ops[k]? = some o ∧ CpAt A L.tg H e c ∧ Res A L H (W.haveKept k o c).1 [3] Q
theorem ok_World_have_kept (T : Txt K mg A) : MtG P w K mg base A.c_World "have_kept" 5 ["self", "operation", "copy"] (sp_haveKept A) := by
  have G_World_send_to_missing := ok_World_send_to_missing (P := P) (w := w) (base := base) T
  obtain ⟨f_World_send_to_missing, d_World_send_to_missing, c_World_send_to_missing, m_World_send_to_missing, b_World_send_to_missing, F_World_send_to_missing⟩ := G_World_send_to_missing.ex
  refine mk_World_have_kept T (fun vs H Q E h => ?_) (fun f cdv B outer s H vs Q E hr h => ?_)
  · obtain ⟨L, W, a, e, n, o, c, rfl, _⟩ := h
    rfl
  · obtain ⟨L, W, a, e, n, o, c, rfl, wa, hrow, h5, hoa, hop, hce, k⟩ := h
    have op1 := wa.ao.at_ n a o hoa hop
    obtain ⟨dx, x, t, q, wv, ts, t1, h1, t2, h2, t3, h3, c3, t4, h4, c4⟩ := id op1
    refine ⟨_, (pss_cons (ps_fld (pv 1) (pv 2) rfl)
      (pss_cons (ps_expr (pe_meth (pv 0) c_World_send_to_missing m_World_send_to_missing F_World_send_to_missing (hr.mono (by decide)) b_World_send_to_missing .nil pass0 (pa_cons (pv 1) pa_nil)))
      (pss_one (ps_ret (pe_lst (pa_cons (pe_gint rfl T.g_GOES_ON) pa_nil)))))), ?_⟩
    refine ⟨_, rfl, _, rfl, a, _, dx, _, rfl, h1, T.cl_Operation, T.na_Operation_wanted, F_Operation_len, ?_⟩
    rw [opF_wanted (c := some c)]
    have w2 := wa.opO hoa h1 t1 t2 h2 t3 h3 c3 t4 h4 (o' := { o with wanted := some c }) (v' := .ref e) rfl rfl rfl ⟨e, rfl, hce⟩
    have m2 : Evo L.tg L.tg H (upd H a (.ins A.c_Operation dx (opF { o with wanted := some c } (.ref x) (.ref t) (.ref e) (.ref q)))) := Evo.upd h1 (by rw [t1]; simp)
    generalize hH2 : upd H a (.ins A.c_Operation dx (opF { o with wanted := some c } (.ref x) (.ref t) (.ref e) (.ref q))) = H2 at w2 m2
    obtain ⟨dw2, hob2⟩ := w2.ob
    have hop2 : ({ W with ops := W.ops.set n { o with wanted := some c } } : MW).ops[n]? = some { o with wanted := some c } := by
      show (W.ops.set n _)[n]? = _
      rw [List.getElem?_set_self (List.getElem?_eq_some_iff.mp hop).1]
    refine ⟨_, rfl, L.p, dw2, _, rfl, hob2, F_World_m_send_to_missing, _, rfl, L, _, a, n, _, rfl, w2, hrow, h5, hoa, hop2, fun la H3 w3 m3 => ?_⟩
    refine ⟨(by show 1 ≤ sizeLine; decide), ?_⟩
    exact (k.move (L1 := { L with la := la }) rfl (m2.trans m3)).ret w3
end
end Cb

namespace Cb
open PySem L2
open Ag02 (Copy Letter above same zero)
section
variable {P : Program} {w : World} {K : PySem.W.Frag} {mg : Str → Option Value} {base : Heap} {A : Adr}
theorem nd_len : ∀ (n : Nat) (l : List Nat), l.Nodup → (∀ x ∈ l, x < n) → l.length ≤ n
  | 0, l, _, h => by
    cases l with
    | nil => exact Nat.le_refl _
    | cons a l => exact absurd (h a (List.mem_cons_self ..)) (by omega)
  | n + 1, l, nd, h => by
    have ih := nd_len n (l.erase n) (nd.erase n) fun x hx => by
      have h1 := List.mem_of_mem_erase hx
      have h2 : x ≠ n := fun q => by
        rw [q] at hx
        exact (List.Nodup.not_mem_erase nd) hx
      have := h x h1
      omega
    have := List.length_erase (a := n) (l := l)
    split at this <;> omega
theorem nsV_push (l : List Nat) (n : Nat) : nsV l ++ [V.int (n : Int)] = nsV (l ++ [n]) := by
  unfold nsV
  rw [List.map_append]
  rfl
section
variable {L : Lay} {H : Hp} {W : MW} {k : Nat} {a dx h t q : Addr} {o : MOp} {v : V} {ts : List Addr}
theorem WAt.keepersL (wa : WAt A L H W) (hoa : L.oa[k]? = some a) (h1 : H a = some (.ins A.c_Operation dx (opF o (.ref h) (.ref t) v (.ref q)))) (t1 : L.tg a = (7, k)) (t2 : L.tg h = (8, k)) (g2 : H h = some (.lst (nsV o.heard))) (t3 : L.tg t = (9, k)) (g3 : H t = some (.lst (ts.map V.ref))) (c3 : Al (fun _ => CpAt A L.tg H) ts o.told)
    (t4 : L.tg q = (10, k)) (hv : wanV A L.tg H v o.wanted) {ks : List Nat} : WAt A L (upd H q (.lst (nsV ks))) { W with ops := W.ops.set k { o with keepers := ks } } := by
  have m : Mv (· ≠ (10, k)) L.tg L.tg H (upd H q (.lst (nsV ks))) := Mv.upd t4
  refine wa.op (τ' := L.tg) (m.mono fun _ z => z.2.2.2) (fun a' ha' => ?_) (fr_upd wa.fr)
  rw [hoa] at ha'
  cases ha'
  exact ⟨dx, h, t, q, v, ts, t1, (m _ _ h1 (by rw [t1]; simp)).1, t2, (m _ _ g2 (by rw [t2]; simp)).1, t3, (m _ _ g3 (by rw [t3]; simp)).1, cps_mv c3 m (by simp), t4, upd_same, hv.mv m (by simp)⟩
theorem WAt.heardL (wa : WAt A L H W) (hoa : L.oa[k]? = some a) (h1 : H a = some (.ins A.c_Operation dx (opF o (.ref h) (.ref t) v (.ref q)))) (t1 : L.tg a = (7, k)) (t2 : L.tg h = (8, k)) (t3 : L.tg t = (9, k)) (g3 : H t = some (.lst (ts.map V.ref))) (c3 : Al (fun _ => CpAt A L.tg H) ts o.told)
    (t4 : L.tg q = (10, k)) (g4 : H q = some (.lst (nsV o.keepers))) (hv : wanV A L.tg H v o.wanted) {ks : List Nat} : WAt A L (upd H h (.lst (nsV ks))) { W with ops := W.ops.set k { o with heard := ks } } := by
  have m : Mv (· ≠ (8, k)) L.tg L.tg H (upd H h (.lst (nsV ks))) := Mv.upd t2
  refine wa.op (τ' := L.tg) (m.mono fun _ z => z.2.1) (fun a' ha' => ?_) (fr_upd wa.fr)
  rw [hoa] at ha'
  cases ha'
  exact ⟨dx, h, t, q, v, ts, t1, (m _ _ h1 (by rw [t1]; simp)).1, t2, upd_same, t3, (m _ _ g3 (by rw [t3]; simp)).1, cps_mv c3 m (by simp), t4, (m _ _ g4 (by rw [t4]; simp)).1, hv.mv m (by simp)⟩
theorem WAt.toldL (wa : WAt A L H W) (hoa : L.oa[k]? = some a) (h1 : H a = some (.ins A.c_Operation dx (opF o (.ref h) (.ref t) v (.ref q)))) (t1 : L.tg a = (7, k)) (t2 : L.tg h = (8, k)) (g2 : H h = some (.lst (nsV o.heard))) (t3 : L.tg t = (9, k))
    (t4 : L.tg q = (10, k)) (g4 : H q = some (.lst (nsV o.keepers))) (hv : wanV A L.tg H v o.wanted) {cs : List Copy} (c3 : Al (fun _ => CpAt A L.tg H) ts cs) : WAt A L (upd H t (.lst (ts.map V.ref))) { W with ops := W.ops.set k { o with told := cs } } := by
  have m : Mv (· ≠ (9, k)) L.tg L.tg H (upd H t (.lst (ts.map V.ref))) := Mv.upd t3
  refine wa.op (τ' := L.tg) (m.mono fun _ z => z.2.2.1) (fun a' ha' => ?_) (fr_upd wa.fr)
  rw [hoa] at ha'
  cases ha'
  exact ⟨dx, h, t, q, v, ts, t1, (m _ _ h1 (by rw [t1]; simp)).1, t2, (m _ _ g2 (by rw [t2]; simp)).1, t3, upd_same, cps_mv c3 m (by simp), t4, (m _ _ g4 (by rw [t4]; simp)).1, hv.mv m (by simp)⟩
end
/-! ### a keeper counted -/
def sp_count (A : Adr) : Sp := fun vs H Q _ => ∃ (L : Lay) (W : MW) (a b : Addr) (k i : Nat) (o : MOp) (l : Letter) (c : MClient) (cp : Copy), vs = [.ref L.p, .ref a, .ref b] ∧ WAt A L H W ∧ Ok W ∧ L.oa[k]? = some a ∧ W.ops[k]? = some o ∧ LtAt A L.tg H b l ∧ W.clients[i]? = some c ∧
  OpOk W.nodes.length i o ∧ l.from_ < W.nodes.length ∧ o.keepers.contains l.from_ = false ∧ o.wanted = some cp ∧ Res A L H (W.countKeeper k o l).1 (W.countKeeper k o l).2 Q
theorem ok_World_count_keeper (T : Txt K mg A) : MtG P w K mg base A.c_World "count_keeper" 3 ["self", "operation", "letter"] (sp_count A) := by
  have G_World_end := ok_World_end (P := P) (w := w) (base := base) T
  have G_World_is_most := ok_World_is_most (P := P) (w := w) (base := base) T
  obtain ⟨f_World_end, d_World_end, c_World_end, m_World_end, b_World_end, F_World_end⟩ := G_World_end.ex
  obtain ⟨f_World_is_most, d_World_is_most, c_World_is_most, m_World_is_most, b_World_is_most, F_World_is_most⟩ := G_World_is_most.ex
  refine mk_World_count_keeper T (fun vs H Q E h => ?_) (fun f cdv B outer s H vs Q E hr h => ?_)
  · obtain ⟨L, W, a, b, n, i, o, l, c, cp, rfl, _⟩ := h
    rfl
  · obtain ⟨L, W, a, b, n, i, o, l, c, cp, rfl, wa, ok, hoa, hop, hlt, hcl, hok, hfr, hnc, hwan, k⟩ := h
    obtain ⟨dx, x, t, q, wv, ts, t1, h1, t2, h2, t3, h3, c3, t4, h4, c4⟩ := wa.ao.at_ n a o hoa hop
    obtain ⟨dl, e, tl, hl, ce⟩ := id hlt
    have klen := nd_len _ _ hok.knd hok.kin
    have n5 := ok.nlen
    have nf : ¬ l.from_ ∈ o.keepers := fun z => by
      rw [List.contains_iff_mem.mpr z] at hnc
      cases hnc
    have w2 := wa.keepersL hoa h1 t1 t2 h2 t3 h3 c3 t4 c4 (ks := o.keepers ++ [l.from_])
    have e2 : Evo L.tg L.tg H (upd H q (.lst (nsV (o.keepers ++ [l.from_])))) := Evo.upd h4 (by rw [t4]; simp)
    refine ⟨_, (pss_cons (ps_expr (pe_bm PySem.F.plainAttrs_list PySem.F.slot_list_append PySem.F.type_list_append mt_append (pe_fld (pv 1) rfl) (pa_cons (pe_fld (pv 2) rfl) pa_nil)))
      (pss_cons (ps_if (pt_not (pt_val (pe_meth (pv 0) c_World_is_most m_World_is_most F_World_is_most (hr.mono (by decide)) b_World_is_most .nil pass0 (pa_cons (pe_fld (pv 1) rfl) pa_nil))))
        (pss_one (ps_ret (pe_lst (pa_cons (pe_gint rfl T.g_COUNTED) pa_nil))))
        pss_nil)
      (pss_cons (ps_if (pt_val (pe_fld (pv 1) rfl))
        (pss_one (ps_ret (pe_meth (pv 0) c_World_end m_World_end F_World_end (hr.mono (by decide)) b_World_end .nil pass0 (pa_cons (pv 1) (pa_cons pe_int pa_nil)))))
        pss_nil)
      (pss_one (ps_ret (pe_meth (pv 0) c_World_end m_World_end F_World_end (hr.mono (by decide)) b_World_end .nil pass0 (pa_cons (pv 1) (pa_cons (pe_ix ix_tup (pe_fld (pv 1) rfl) pe_int (fun _ _ => rfl)) pa_nil)))))))), ?_⟩
    refine ⟨_, rfl, _, _, _, _, _, rfl, h1, T.cl_Operation, T.na_Operation_keepers, F_Operation_keepers, .inl ⟨rfl, _, SqL.of h4⟩, _, rfl, _, _, _, _, _, rfl, hl, T.cl_Letter, T.na_Letter_sender, F_Letter_sender, q, _, _, rfl, rfl, h4, ?_, ?_⟩
    · unfold nsV
      rw [List.length_map]
      exact sz1000 (by omega)
    rw [nsV_push]
    generalize hH2 : upd H q (.lst (nsV (o.keepers ++ [l.from_]))) = H2 at w2 e2
    have hop2 : ({ W with ops := W.ops.set n { o with keepers := o.keepers ++ [l.from_] } } : MW).ops[n]? = some { o with keepers := o.keepers ++ [l.from_] } := by
      show (W.ops.set n _)[n]? = _
      rw [List.getElem?_set_self (List.getElem?_eq_some_iff.mp hop).1]
    obtain ⟨dw2, hob2⟩ := w2.ob
    obtain ⟨dx, x, t, q, wv, ts, t1, h1, t2, h2, t3, h3, c3, t4, h4, c4⟩ := w2.ao.at_ n a _ hoa hop2
    refine ⟨_, rfl, L.p, dw2, _, rfl, hob2, F_World_m_is_most, _, rfl, _, _, _, _, _, rfl, h1, T.cl_Operation, T.na_Operation_keepers, F_Operation_keepers, L, _, q, o.keepers ++ [l.from_], rfl, w2, h4, ?_, ?_, ?_, fun H3 s3 => ⟨_, rfl, ?_⟩⟩
    · intro z hz
      rcases List.mem_append.mp hz with hz | hz
      · exact hok.kin z hz
      · rw [List.mem_singleton.mp hz]
        exact hfr
    · rw [List.length_append, List.length_singleton]
      omega
    · show W.nodes.length ≤ 1000
      omega
    have w3 := w2.same s3
    have e3 := e2.trans (Evo.same (τ := L.tg) s3)
    have em : MW.most { W with ops := W.ops.set n { o with keepers := o.keepers ++ [l.from_] } } (o.keepers ++ [l.from_]) = W.most (o.keepers ++ [l.from_]) := rfl
    rw [em]
    have hcl2 : W.clients[({ o with keepers := o.keepers ++ [l.from_] } : MOp).client]? = some c := by
      show W.clients[o.client]? = _
      rw [hok.client]
      exact hcl
    cases hm : W.most (o.keepers ++ [l.from_]) with
    | false =>
      rw [count_few hm] at k
      refine iteT ⟨(by show 1 ≤ sizeLine; decide), ?_⟩
      exact (k.move rfl e3).ret w3
    | true =>
      refine iteF ⟨_, rfl, _, _, _, _, _, rfl, (s3 _ _ h1), T.cl_Operation, T.na_Operation_writes, F_Operation_writes, _, rfl, ?_⟩
      obtain ⟨dw3, hob3⟩ := w3.ob
      cases hw : o.writes with
      | true =>
        rw [count_w hm hw] at k
        refine iteT ⟨_, rfl, L.p, dw3, _, rfl, hob3, F_World_m_end, _, rfl, L, _, a, n, 0, _, c, rfl, w3, hoa, hop2, hcl2, ?_⟩
        exact k.move rfl e3
      | false =>
        rw [count_r hm hw hwan] at k
        have c4 : wanV A L.tg H2 wv o.wanted := c4
        rw [hwan] at c4
        obtain ⟨e4, rfl, ce4⟩ := c4
        have ce5 := (ce4.mv (Mv.same (S := fun _ => True) (τ := L.tg) s3) trivial).sq T
        refine iteF ⟨_, rfl, L.p, dw3, _, rfl, hob3, F_World_m_end, _, rfl, _, rfl, _, _, _, _, _, rfl, (s3 _ _ h1), T.cl_Operation, T.na_Operation_wanted, F_Operation_wanted, _, _, _, _, rfl, rfl, ce5, at_of (j := 2) rfl rfl, L, _, a, n, cp.value, _, c, rfl, w3, hoa, hop2, hcl2, ?_⟩
        exact k.move rfl e3
end
end Cb

namespace Cb
open PySem L2
open Ag02 (Copy Letter above same zero)
section
variable {P : Program} {w : World} {K : PySem.W.Frag} {mg : Str → Option Value} {base : Heap} {A : Adr}
def sp_hear (A : Adr) : Sp := fun vs H Q _ => ∃ (L : Lay) (W : MW) (a b : Addr) (k i : Nat) (o : MOp) (l : Letter) (c : MClient), vs = [.ref L.p, .ref a, .ref b] ∧ WAt A L H W ∧ Ok W ∧ L.oa[k]? = some a ∧ W.ops[k]? = some o ∧ LtAt A L.tg H b l ∧ W.clients[i]? = some c ∧
  OpOk W.nodes.length i o ∧ l.from_ < W.nodes.length ∧ o.heard.contains l.from_ = false ∧ CpOk l.copy ∧ o.wanted = none ∧ Res A L H (W.hear k o l).1 (W.hear k o l).2 Q
theorem ok_World_hear (T : Txt K mg A) : MtG P w K mg base A.c_World "hear" 6 ["self", "operation", "letter"] (sp_hear A) := by
  have G_best_of := ok_best_of (P := P) (w := w) (base := base) T
  have G_Operation_nodes_that_told := ok_Operation_nodes_that_told (P := P) (w := w) (base := base) T
  have G_World_is_most := ok_World_is_most (P := P) (w := w) (base := base) T
  have G_World_have_kept := ok_World_have_kept (P := P) (w := w) (base := base) T
  have G_World_end := ok_World_end (P := P) (w := w) (base := base) T
  obtain ⟨f_best_of, d_best_of, h_best_of, k_best_of, b_best_of, F_best_of⟩ := G_best_of.ex
  obtain ⟨f_Operation_nodes_that_told, d_Operation_nodes_that_told, c_Operation_nodes_that_told, m_Operation_nodes_that_told, b_Operation_nodes_that_told, F_Operation_nodes_that_told⟩ := G_Operation_nodes_that_told.ex
  obtain ⟨f_World_is_most, d_World_is_most, c_World_is_most, m_World_is_most, b_World_is_most, F_World_is_most⟩ := G_World_is_most.ex
  obtain ⟨f_World_have_kept, d_World_have_kept, c_World_have_kept, m_World_have_kept, b_World_have_kept, F_World_have_kept⟩ := G_World_have_kept.ex
  obtain ⟨f_World_end, d_World_end, c_World_end, m_World_end, b_World_end, F_World_end⟩ := G_World_end.ex
  refine mk_World_hear T (fun vs H Q E h => ?_) (fun f cdv B outer s H vs Q E hr h => ?_)
  · obtain ⟨L, W, a, b, n, i, o, l, c, rfl, _⟩ := h
    rfl
  · obtain ⟨L, W, a, b, n, i, o, l, c, rfl, wa, ok, hoa, hop, hlt, hcl, hok, hfr, hnc, hcp, hwan, k⟩ := h
    obtain ⟨dx, x, t, q, wv, ts, t1, h1, t2, h2, t3, h3, c3, t4, h4, c4⟩ := wa.ao.at_ n a o hoa hop
    obtain ⟨dl, e, tl, hl, ce⟩ := id hlt
    have HH := hears_ok hok hwan hnc hfr hcp
    have hlen := nd_len _ _ hok.hnd hok.hin
    have hlen1 := nd_len _ _ HH.hnd HH.hin
    have n5 := ok.nlen
    have w1 := wa.heardL hoa h1 t1 t2 t3 h3 c3 t4 h4 c4 (ks := o.heard ++ [l.from_])
    have e1 : Evo L.tg L.tg H (upd H x (.lst (nsV (o.heard ++ [l.from_])))) := Evo.upd h2 (by rw [t2]; simp)
    refine ⟨_, (pss_cons (ps_expr (pe_bm PySem.F.plainAttrs_list PySem.F.slot_list_append PySem.F.type_list_append mt_append (pe_fld (pv 1) rfl) (pa_cons (pe_fld (pv 2) rfl) pa_nil)))
      (pss_cons (ps_expr (pe_bm PySem.F.plainAttrs_list PySem.F.slot_list_append PySem.F.type_list_append mt_append (pe_fld (pv 1) rfl) (pa_cons (pe_fld (pv 2) rfl) pa_nil)))
      (pss_cons (ps_if (pt_not (pt_val (pe_meth (pv 0) c_World_is_most m_World_is_most F_World_is_most (hr.mono (by decide)) b_World_is_most .nil pass0 (pa_cons (pe_fld (pv 1) rfl) pa_nil))))
        (pss_one (ps_ret (pe_lst (pa_cons (pe_gint rfl T.g_COUNTED) pa_nil))))
        pss_nil)
      (pss_cons (ps_set (i := 3) sc_World_hear.nd rfl (Or.inl rfl) (pe_call F_best_of (hr.mono (by decide)) (by rfl) h_best_of k_best_of b_best_of .nil pass0 (pa_cons (pe_fld (pv 1) rfl) pa_nil)))
      (pss_cons (ps_if (pt_val (pe_fld (pv 1) rfl))
        (pss_one (ps_ret (pe_meth (pv 0) c_World_have_kept m_World_have_kept F_World_have_kept (hr.mono (by decide)) b_World_have_kept .nil pass0 (pa_cons (pv 1) (pa_cons (pe_tup (pa_cons (pe_op op_add (pe_ix ix_tup (pv 3) pe_int (fun _ _ => rfl)) pe_int) (pa_cons (pe_fld (pv 1) rfl) (pa_cons (pe_fld (pv 1) rfl) pa_nil)))) pa_nil)))))
        pss_nil)
      (pss_cons (ps_fld (pv 1) (pe_meth (pv 1) c_Operation_nodes_that_told m_Operation_nodes_that_told F_Operation_nodes_that_told (hr.mono (by decide)) b_Operation_nodes_that_told .nil pass0 (pa_cons (pv 3) pa_nil)) rfl)
      (pss_cons (ps_if (pt_val (pe_meth (pv 0) c_World_is_most m_World_is_most F_World_is_most (hr.mono (by decide)) b_World_is_most .nil pass0 (pa_cons (pe_fld (pv 1) rfl) pa_nil)))
        (pss_one (ps_ret (pe_meth (pv 0) c_World_end m_World_end F_World_end (hr.mono (by decide)) b_World_end .nil pass0 (pa_cons (pv 1) (pa_cons (pe_ix ix_tup (pv 3) pe_int (fun _ _ => rfl)) pa_nil)))))
        pss_nil)
      (pss_one (ps_ret (pe_meth (pv 0) c_World_have_kept m_World_have_kept F_World_have_kept (hr.mono (by decide)) b_World_have_kept .nil pass0 (pa_cons (pv 1) (pa_cons (pv 3) pa_nil)))))))))))), ?_⟩
    refine ⟨_, rfl, _, _, _, _, _, rfl, h1, T.cl_Operation, T.na_Operation_heard, F_Operation_heard, .inl ⟨rfl, _, SqL.of h2⟩, _, rfl, _, _, _, _, _, rfl, hl, T.cl_Letter, T.na_Letter_sender, F_Letter_sender, x, _, _, rfl, rfl, h2, ?_, ?_⟩
    · unfold nsV
      rw [List.length_map]
      exact sz1000 (by omega)
    rw [nsV_push]
    have hlt1 := hlt.mv (Mv.upd (H := H) (o := .lst (nsV (o.heard ++ [l.from_]))) t2) (by simp)
    generalize hH1 : upd H x (.lst (nsV (o.heard ++ [l.from_]))) = H1 at w1 e1 hlt1
    have hop1 : ({ W with ops := W.ops.set n { o with heard := o.heard ++ [l.from_] } } : MW).ops[n]? = some { o with heard := o.heard ++ [l.from_] } := by
      show (W.ops.set n _)[n]? = _
      rw [List.getElem?_set_self (List.getElem?_eq_some_iff.mp hop).1]
    obtain ⟨dx, x, t, q, wv, ts, t1, h1, t2, h2, t3, h3, c3, t4, h4, c4⟩ := w1.ao.at_ n a _ hoa hop1
    obtain ⟨dl, e, tl, hl, ce⟩ := id hlt1
    refine ⟨_, rfl, _, _, _, _, _, rfl, h1, T.cl_Operation, T.na_Operation_told, F_Operation_told, .inl ⟨rfl, _, SqL.of h3⟩, _, rfl, _, _, _, _, _, rfl, hl, T.cl_Letter, T.na_Letter_enclosed, F_Letter_enclosed, t, _, _, rfl, rfl, h3, ?_, ?_⟩
    · have cl := c3.len
      have cl2 : ({ o with heard := o.heard ++ [l.from_] } : MOp).told.length = o.told.length := rfl
      have := hok.len
      rw [List.length_map, cl, cl2]
      exact sz1000 (by omega)
    have et : ts.map V.ref ++ [V.ref e] = (ts ++ [e]).map V.ref := by rw [List.map_append]; rfl
    rw [et]
    have w2 := w1.toldL hoa h1 t1 t2 h2 t3 t4 h4 c4 (c3.push ce)
    have e2 : Evo L.tg L.tg H1 (upd H1 t (.lst ((ts ++ [e]).map V.ref))) := Evo.upd h3 (by rw [t3]; simp)
    have ew : ({ { W with ops := W.ops.set n { o with heard := o.heard ++ [l.from_] } } with ops := (W.ops.set n { o with heard := o.heard ++ [l.from_] }).set n { { o with heard := o.heard ++ [l.from_] } with told := o.told ++ [l.copy] } } : MW) = W.setOp n (o.hears l) := by
      unfold MW.setOp
      rw [List.set_set]
      rfl
    have w2 : WAt A L (upd H1 t (.lst ((ts ++ [e]).map V.ref))) (W.setOp n (o.hears l)) := by
      rw [← ew]
      exact w2
    generalize hH2 : upd H1 t (.lst ((ts ++ [e]).map V.ref)) = H2 at w2 e2
    have hop2 : (W.setOp n (o.hears l)).ops[n]? = some (o.hears l) := by
      show (W.ops.set n _)[n]? = _
      rw [List.getElem?_set_self (List.getElem?_eq_some_iff.mp hop).1]
    obtain ⟨dw2, hob2⟩ := w2.ob
    obtain ⟨dx, x, t, q, wv, ts, t1, h1, t2, h2, t3, h3, c3, t4, h4, c4⟩ := w2.ao.at_ n a _ hoa hop2
    refine ⟨_, rfl, L.p, dw2, _, rfl, hob2, F_World_m_is_most, _, rfl, _, _, _, _, _, rfl, h1, T.cl_Operation, T.na_Operation_heard, F_Operation_heard, L, _, x, (o.hears l).heard, rfl, w2, h2, HH.hin, ?_, ?_, fun H3 s3 => ⟨_, rfl, ?_⟩⟩
    · omega
    · show W.nodes.length ≤ 1000
      omega
    rw [most_setOp]
    have w3 := w2.same s3
    have e3 := (e1.trans e2).trans (Evo.same (τ := L.tg) s3)
    cases hm : W.most (o.hears l).heard with
    | false =>
      rw [hear_few hm] at k
      refine iteT ⟨(by show 1 ≤ sizeLine; decide), ?_⟩
      exact (k.move rfl e3).ret w3
    | true =>
      have ms : Mv (fun _ => True) L.tg L.tg H2 H3 := Mv.same s3
      have h1' := s3 _ _ h1
      refine iteF ⟨_, rfl, _, _, _, _, _, rfl, h1', T.cl_Operation, T.na_Operation_told, F_Operation_told, t, ts, (o.hears l).told, rfl, s3 _ _ h3, (cps_mv c3 ms trivial).imp (fun _ _ _ _ _ r => r.sq T), ?_, fun j eb hj hcj => ?_⟩
      · intro z
        have := HH.len
        rw [z] at this
        have e5 : (o.hears l).heard = o.heard ++ [l.from_] := rfl
        rw [e5, List.length_append, List.length_singleton] at this
        exact absurd this (by simp)
      have cb : CpAt A L.tg H3 eb (bestOf (o.hears l).told) := (cps_mv c3 ms trivial).at_ j eb _ hj hcj
      obtain ⟨dw3, hob3⟩ := w3.ob
      refine ⟨_, rfl, _, _, _, _, _, rfl, h1', T.cl_Operation, T.na_Operation_writes, F_Operation_writes, _, rfl, ?_⟩
      have ewr : (o.hears l).writes = o.writes := rfl
      rw [ewr]
      cases hw : o.writes with
      | true =>
        rw [hear_w hm hw] at k
        refine iteT ⟨_, rfl, L.p, dw3, _, rfl, hob3, F_World_m_have_kept, _, rfl, _, rfl, _, _, _, _, rfl, rfl, (cb.sq T), at_of (j := 0) rfl rfl, _, _, rfl, rfl, _, rfl, _, _, _, _, _, rfl, h1', T.cl_Operation, T.na_Operation_client, F_Operation_client, _, rfl, _, _, _, _, _, rfl, h1', T.cl_Operation, T.na_Operation_value, F_Operation_value, (by show 3 ≤ sizeLine; decide), fun e6 he6 => ?_⟩
        have te6 : L.tg e6 = (0, 0) := w3.fr e6 he6
        refine ⟨L, _, a, e6, n, _, ⟨(bestOf (o.hears l).told).num + 1, o.client, o.value⟩, rfl, w3.same (Same.upd he6), ok.row, n5, hoa, hop2, .inr ⟨upd_same, te6⟩, ?_⟩
        exact k.move rfl (e3.trans (Evo.same (Same.upd he6)))
      | false =>
        have op3 : OpAt A L.tg H3 n a (o.hears l) := w3.ao.at_ n a _ hoa hop2
        refine iteF ⟨_, rfl, a, dx, _, rfl, h1', F_Operation_m_nodes_that_told, _, rfl, a, eb, n, o.hears l, _, L.tg, rfl, op3, cb, HH.len, (by omega), fun p H4 np s4 hp => ?_⟩
        refine ⟨_, rfl, a, _, dx, _, rfl, s4 _ _ h1', T.cl_Operation, T.na_Operation_keepers, F_Operation_len, ?_⟩
        rw [opF_keepers (l := (o.hears l).told_ (bestOf (o.hears l).told))]
        -- the new list becomes the operation's
        have npa : a ≠ p := ne_of_none h1' np
        let τ' : Addr → Tag := fun z => if z = p then (10, n) else L.tg z
        have tp : τ' p = (10, n) := if_pos rfl
        have tn : ∀ z, z ≠ p → τ' z = L.tg z := fun z hz => if_neg hz
        have m5 : Mv (· ≠ (7, n)) L.tg τ' H3 (upd H4 a (.ins A.c_Operation dx (opF (o.hears l).knows (.ref x) (.ref t) wv (.ref p)))) := fun z u hz hs => by
          refine ⟨?_, tn z (ne_of_none hz np)⟩
          rw [upd_ne (fun y => hs (by rw [y]; exact t1))]
          exact s4 _ _ hz
        have e5 : Evo L.tg τ' H3 (upd H4 a (.ins A.c_Operation dx (opF (o.hears l).knows (.ref x) (.ref t) wv (.ref p)))) := fun z u hz => by
          refine ⟨tn z (ne_of_none hz np), ?_⟩
          by_cases y : z = a
          · subst y
            exact ⟨_, upd_same, fun y => by rw [t1] at y; simp at y⟩
          · exact ⟨u, by rw [upd_ne y]; exact s4 _ _ hz, fun _ => rfl⟩
        have w5 : WAt A { L with tg := τ' } (upd H4 a (.ins A.c_Operation dx (opF (o.hears l).knows (.ref x) (.ref t) wv (.ref p)))) (W.setOp n (o.hears l).knows) := by
          have w5 := w3.op (k := n) (o := (o.hears l).knows) (τ' := τ') (m5.mono fun _ z => z.1) (fun a' ha' => ?_) (fun z hz => ?_)
          · rw [← setOp_setOp W n (o.hears l)]
            exact w5
          · rw [hoa] at ha'
            cases ha'
            refine ⟨dx, x, t, p, wv, ts, (tn a npa).trans t1, upd_same, ?_, (m5 _ _ (s3 _ _ h2) (by rw [t2]; simp)).1, ?_, (m5 _ _ (s3 _ _ h3) (by rw [t3]; simp)).1, cps_mv (cps_mv c3 ms trivial) m5 (by simp), tp, ?_, (c4.mv ms trivial).mv m5 (by simp)⟩
            · exact (m5 _ _ (s3 _ _ h2) (by rw [t2]; simp)).2.trans t2
            · exact (m5 _ _ (s3 _ _ h3) (by rw [t3]; simp)).2.trans t3
            · rw [upd_ne npa.symm]
              exact hp
          · have hz4 := upd_none _ hz
            have zp : z ≠ p := fun y => by
              rw [y, hp] at hz4
              cases hz4
            rw [tn z zp]
            exact w3.fr z (Same.none s4 z hz4)
        have cb5 := cb.mv m5 (by simp)
        have e5' := e3.trans e5
        generalize hH5 : upd H4 a (.ins A.c_Operation dx (opF (o.hears l).knows (.ref x) (.ref t) wv (.ref p))) = H5 at w5 cb5 e5'
        have hH5' : upd H4 a (.ins A.c_Operation dx (opF { (o.hears l) with keepers := (o.hears l).told_ (bestOf (o.hears l).told) } (.ref x) (.ref t) wv (.ref p))) = H5 := hH5
        rw [hH5']
        have hop5 : (W.setOp n (o.hears l).knows).ops[n]? = some (o.hears l).knows := by
          show (W.ops.set n _)[n]? = _
          rw [List.getElem?_set_self (List.getElem?_eq_some_iff.mp hop).1]
        obtain ⟨dw5, hob5⟩ := w5.ob
        obtain ⟨dx5, x5, t5, q5, wv5, ts5, u1, g1, u2, g2, u3, g3, d3, u4, g4, d4⟩ := w5.ao.at_ n a _ hoa hop5
        have kin : ∀ z ∈ (o.hears l).told_ (bestOf (o.hears l).told), z < W.nodes.length := fun z hz => HH.hin z (told_in _ z hz)
        have klen := nd_len _ _ (told_nd HH.hnd (bestOf (o.hears l).told)) kin
        refine ⟨_, rfl, L.p, dw5, _, rfl, hob5, F_World_m_is_most, _, rfl, _, _, _, _, _, rfl, g1, T.cl_Operation, T.na_Operation_keepers, F_Operation_keepers, { L with tg := τ' }, _, q5, (o.hears l).told_ (bestOf (o.hears l).told), rfl, w5, g4, kin, (by omega), (show W.nodes.length ≤ 1000 by omega), fun H6 s6 => ⟨_, rfl, ?_⟩⟩
        rw [most_setOp]
        have w6 := w5.same s6
        have e6 := e5'.trans (Evo.same (τ := τ') s6)
        have cb6 := cb5.mv (Mv.same (S := fun _ => True) (τ := τ') s6) trivial
        obtain ⟨dw6, hob6⟩ := w6.ob
        have hcl2 : (W.setOp n (o.hears l).knows).clients[(o.hears l).knows.client]? = some c := by
          show W.clients[o.client]? = _
          rw [hok.client]
          exact hcl
        cases hm2 : W.most ((o.hears l).told_ (bestOf (o.hears l).told)) with
        | true =>
          rw [hear_end hm hw hm2] at k
          refine iteT ⟨_, rfl, L.p, dw6, _, rfl, hob6, F_World_m_end, _, rfl, _, rfl, _, _, _, _, rfl, rfl, (cb6.sq T), at_of (j := 2) rfl rfl, { L with tg := τ' }, _, a, n, (bestOf (o.hears l).told).value, _, c, rfl, w6, hoa, hop5, hcl2, ?_⟩
          exact k.move rfl e6
        | false =>
          rw [hear_keep hm hw hm2] at k
          refine iteF ⟨_, rfl, L.p, dw6, _, rfl, hob6, F_World_m_have_kept, _, rfl, _, rfl, { L with tg := τ' }, _, a, eb, n, _, bestOf (o.hears l).told, rfl, w6, ok.row, n5, hoa, hop5, cb6, ?_⟩
          exact k.move rfl e6
end
end Cb

namespace Cb
open PySem L2
open Ag02 (Copy Letter above same zero)
section
variable {P : Program} {w : World} {K : PySem.W.Frag} {mg : Str → Option Value} {base : Heap} {A : Adr}
theorem int_ne {m n : Nat} : (!decide (V.int (m : Int) = V.int (n : Int))) = decide (m ≠ n) := by
  by_cases q : m = n
  · subst q
    simp
  · rw [decide_eq_false (fun z => q (by injection z with z; omega)), decide_eq_true q]
    rfl
theorem int_eq {m n : Nat} : decide (V.int (m : Int) = V.int (n : Int)) = decide (m = n) := by
  by_cases q : m = n
  · subst q
    simp
  · rw [decide_eq_false (fun z => q (by injection z with z; omega)), decide_eq_false q]
def sp_handC (A : Adr) : Sp := fun vs H Q _ => ∃ (L : Lay) (W : MW) (b : Addr) (l : Letter), vs = [.ref L.p, .ref b] ∧ WAt A L H W ∧ Ok W ∧ LtAt A L.tg H b l ∧ LtOk W.nodes.length l ∧ l.kind % 2 = 1 ∧ Res A L H (W.handClient l).1 (W.handClient l).2 Q
theorem ok_World_hand_to_client (T : Txt K mg A) : MtG P w K mg base A.c_World "hand_to_client" 7 ["self", "letter"] (sp_handC A) := by
  have G_World_count_keeper := ok_World_count_keeper (P := P) (w := w) (base := base) T
  have G_Client_is_at_work := ok_Client_is_at_work (P := P) (w := w) (base := base) T
  have G_Operation_counted_nodes := ok_Operation_counted_nodes (P := P) (w := w) (base := base) T
  have G_World_hear := ok_World_hear (P := P) (w := w) (base := base) T
  obtain ⟨f_World_count_keeper, d_World_count_keeper, c_World_count_keeper, m_World_count_keeper, b_World_count_keeper, F_World_count_keeper⟩ := G_World_count_keeper.ex
  obtain ⟨f_Client_is_at_work, d_Client_is_at_work, c_Client_is_at_work, m_Client_is_at_work, b_Client_is_at_work, F_Client_is_at_work⟩ := G_Client_is_at_work.ex
  obtain ⟨f_Operation_counted_nodes, d_Operation_counted_nodes, c_Operation_counted_nodes, m_Operation_counted_nodes, b_Operation_counted_nodes, F_Operation_counted_nodes⟩ := G_Operation_counted_nodes.ex
  obtain ⟨f_World_hear, d_World_hear, c_World_hear, m_World_hear, b_World_hear, F_World_hear⟩ := G_World_hear.ex
  refine mk_World_hand_to_client T (fun vs H Q E h => ?_) (fun f cdv B outer s H vs Q E hr h => ?_)
  · obtain ⟨L, W, b, l, rfl, _⟩ := h
    rfl
  · obtain ⟨L, W, b, l, rfl, wa, ok, hlt, hlo, hodd, k⟩ := h
    obtain ⟨dw, hob⟩ := wa.ob
    obtain ⟨dl, e, tl, hl, ce⟩ := id hlt
    obtain ⟨hto, hfr⟩ := hlo.odd hodd
    have hcl := cl_some ok hto
    obtain ⟨ca, hca, hcat⟩ := wa.ac.get hcl
    obtain ⟨dc, u, tc, hc1, hu⟩ := id hcat
    refine ⟨_, (pss_cons (ps_set (i := 2) sc_World_hand_to_client.nd rfl (Or.inl rfl) (pe_ix ix_list (pe_fld (pv 0) rfl) (pe_fld (pv 1) rfl) (fun _ _ => rfl)))
      (pss_cons (ps_if (pt_not (pt_val (pe_meth0 (pv 2) c_Client_is_at_work m_Client_is_at_work F_Client_is_at_work (hr.mono (by decide)) b_Client_is_at_work .nil pass0)))
        (pss_one (ps_ret (pe_lst (pa_cons (pe_gint rfl T.g_NO_USE) pa_nil))))
        pss_nil)
      (pss_cons (ps_set (i := 3) sc_World_hand_to_client.nd rfl (Or.inl rfl) (pe_fld (pv 2) rfl))
      (pss_cons (ps_set (i := 4) sc_World_hand_to_client.nd rfl (Or.inl rfl) (pe_ifExp (pt_cmpR op_isN (pe_fld (pv 3) rfl) pe_non (nomark _)) (pe_gint rfl T.g_TELLS) (pe_gint rfl T.g_KEPT)))
      (pss_cons (ps_if (PW.pt (pw_or (pt_cmpR op_ne (pe_fld (pv 1) rfl) (pe_fld (pv 3) rfl) (nomark _)) (pw_or1 (pt_cmpR op_ne (pe_fld (pv 1) rfl) (pv 4) (nomark _)))))
        (pss_one (ps_ret (pe_lst (pa_cons (pe_gint rfl T.g_NO_USE) pa_nil))))
        pss_nil)
      (pss_cons (ps_if (pt_cmpR op_in_seq (pe_fld (pv 1) rfl) (pe_meth0 (pv 3) c_Operation_counted_nodes m_Operation_counted_nodes F_Operation_counted_nodes (hr.mono (by decide)) b_Operation_counted_nodes .nil pass0) (by rfl))
        (pss_one (ps_ret (pe_lst (pa_cons (pe_gint rfl T.g_NO_USE) pa_nil))))
        pss_nil)
      (pss_cons (ps_if (pt_cmpR op_eq (pv 4) (pe_gint rfl T.g_TELLS) (nomark _))
        (pss_one (ps_ret (pe_meth (pv 0) c_World_hear m_World_hear F_World_hear (hr.mono (by decide)) b_World_hear .nil pass0 (pa_cons (pv 3) (pa_cons (pv 1) pa_nil)))))
        pss_nil)
      (pss_one (ps_ret (pe_meth (pv 0) c_World_count_keeper m_World_count_keeper F_World_count_keeper (hr.mono (by decide)) b_World_count_keeper .nil pass0 (pa_cons (pv 3) (pa_cons (pv 1) pa_nil)))))))))))), ?_⟩
    refine ⟨_, rfl, _, _, _, _, _, rfl, hob, T.cl_World, T.na_World_clients, F_World_clients, _, rfl, _, _, _, _, _, rfl, hl, T.cl_Letter, T.na_Letter_to, F_Letter_to, _, _, _, _, rfl, rfl, SqL.of wa.hc, at_of rfl (show (L.ca.map V.ref)[l.to_]? = some (V.ref ca) by rw [List.getElem?_map, hca]; rfl), ?_⟩
    refine ⟨_, rfl, ca, dc, _, rfl, hc1, F_Client_m_is_at_work, ca, L.oa, l.to_, W.cl l.to_, L.tg, rfl, hcat, _, rfl, ?_⟩
    show if (!((W.cl l.to_).under.isSome && !(W.cl l.to_).gone)) = true then _ else _
    cases hun : (W.cl l.to_).under with
    | none =>
      rw [handC_none hun] at k
      exact iteT ⟨(by show 1 ≤ sizeLine; decide), k.ret wa⟩
    | some n =>
      rw [hun] at hu
      obtain ⟨a, hoa, rfl⟩ := hu
      obtain ⟨o, hop, hok⟩ := ok.ops _ _ n hcl hun
      cases hg : (W.cl l.to_).gone with
      | true =>
        rw [handC_gone hun hg] at k
        exact iteT ⟨(by show 1 ≤ sizeLine; decide), k.ret wa⟩
      | false =>
        have opa := wa.ao.at_ n a o hoa hop
        obtain ⟨dx, x, t, q, wv, ts, t1, h1, t2, h2, t3, h3, c3, t4, h4, c4⟩ := id opa
        refine iteF ⟨_, rfl, _, _, _, _, _, rfl, hc1, T.cl_Client, T.na_Client_under_way, F_Client_under_way, _, rfl, _, _, _, _, _, rfl, h1, T.cl_Operation, T.na_Operation_wanted, F_Operation_wanted, rfl, _, rfl, ?_⟩
        cases hw : o.wanted with
        | none =>
          have c5 := c4
          rw [hw] at c5
          obtain rfl : wv = .non := c5
          have ea : o.awaited = 1 := by unfold MOp.awaited; rw [hw]
          have ec : o.counted = o.heard := by unfold MOp.counted; rw [hw]
          refine iteT ⟨_, rfl, _, _, _, _, _, rfl, hl, T.cl_Letter, T.na_Letter_operation, F_Letter_operation, _, rfl, _, _, _, _, _, rfl, h1, T.cl_Operation, T.na_Operation_number, F_Operation_number, rfl, _, rfl, ?_⟩
          rw [int_ne]
          by_cases hx1 : l.op ≠ o.number
          · rw [handC_other hun hg hop (.inl hx1)] at k
            rw [decide_eq_true hx1]
            exact iteT (iteT ⟨(by show 1 ≤ sizeLine; decide), k.ret wa⟩)
          · rw [decide_eq_false hx1]
            refine iteF ⟨_, rfl, _, _, _, _, _, rfl, hl, T.cl_Letter, T.na_Letter_kind, F_Letter_kind, _, rfl, rfl, _, rfl, ?_⟩
            have ek : (!decide (V.int (l.kind : Int) = V.int 1)) = decide (l.kind ≠ 1) := int_ne (n := 1)
            rw [ek]
            by_cases hx2 : l.kind ≠ 1
            · rw [handC_other hun hg hop (.inr (by rw [ea]; exact hx2))] at k
              rw [decide_eq_true hx2]
              exact iteT ⟨(by show 1 ≤ sizeLine; decide), k.ret wa⟩
            · rw [decide_eq_false hx2]
              have hx : ¬ (l.op ≠ o.number ∨ l.kind ≠ o.awaited) := fun z => z.elim hx1 (by rw [ea]; exact hx2)
              refine iteF ⟨_, rfl, _, _, _, _, _, rfl, hl, T.cl_Letter, T.na_Letter_sender, F_Letter_sender, _, rfl, a, dx, _, rfl, h1, F_Operation_m_counted_nodes, a, n, o, L.tg, rfl, opa, fun lc hlc => ⟨lc, _, rfl, .inl (SqL.of hlc), rfl, flat_ns _, _, rfl, ?_⟩⟩
              show if inV (.int (l.from_ : Int)) (nsV o.counted) = true then _ else _
              rw [inV_ns]
              refine ite2 (fun z => ?_) (fun z => ?_)
              · rw [handC_twice hun hg hop hx z] at k
                exact ⟨(by show 1 ≤ sizeLine; decide), k.ret wa⟩
              · have z : o.counted.contains l.from_ = false := by simpa using z
                rw [handC_hear hun hg hop hx z hw] at k
                rw [ec] at z
                refine ⟨_, rfl, rfl, _, rfl, iteT ?_⟩
                exact ⟨_, rfl, L.p, dw, _, rfl, hob, F_World_m_hear, _, rfl, _, rfl, L, W, a, b, n, _, o, l, _, rfl, wa, ok, hoa, hop, hlt, hcl, hok, hfr, z, hlo.copy, hw, k⟩
        | some cp =>
          have c5 := c4
          rw [hw] at c5
          obtain ⟨e4, rfl, ce4⟩ := c5
          have ea : o.awaited = 3 := by unfold MOp.awaited; rw [hw]
          have ec : o.counted = o.keepers := by unfold MOp.counted; rw [hw]
          refine iteF ⟨_, rfl, _, _, _, _, _, rfl, hl, T.cl_Letter, T.na_Letter_operation, F_Letter_operation, _, rfl, _, _, _, _, _, rfl, h1, T.cl_Operation, T.na_Operation_number, F_Operation_number, rfl, _, rfl, ?_⟩
          rw [int_ne]
          by_cases hx1 : l.op ≠ o.number
          · rw [handC_other hun hg hop (.inl hx1)] at k
            rw [decide_eq_true hx1]
            exact iteT (iteT ⟨(by show 1 ≤ sizeLine; decide), k.ret wa⟩)
          · rw [decide_eq_false hx1]
            refine iteF ⟨_, rfl, _, _, _, _, _, rfl, hl, T.cl_Letter, T.na_Letter_kind, F_Letter_kind, _, rfl, rfl, _, rfl, ?_⟩
            have ek : (!decide (V.int (l.kind : Int) = V.int 3)) = decide (l.kind ≠ 3) := int_ne (n := 3)
            rw [ek]
            by_cases hx2 : l.kind ≠ 3
            · rw [handC_other hun hg hop (.inr (by rw [ea]; exact hx2))] at k
              rw [decide_eq_true hx2]
              exact iteT ⟨(by show 1 ≤ sizeLine; decide), k.ret wa⟩
            · rw [decide_eq_false hx2]
              have hx : ¬ (l.op ≠ o.number ∨ l.kind ≠ o.awaited) := fun z => z.elim hx1 (by rw [ea]; exact hx2)
              refine iteF ⟨_, rfl, _, _, _, _, _, rfl, hl, T.cl_Letter, T.na_Letter_sender, F_Letter_sender, _, rfl, a, dx, _, rfl, h1, F_Operation_m_counted_nodes, a, n, o, L.tg, rfl, opa, fun lc hlc => ⟨lc, _, rfl, .inl (SqL.of hlc), rfl, flat_ns _, _, rfl, ?_⟩⟩
              show if inV (.int (l.from_ : Int)) (nsV o.counted) = true then _ else _
              rw [inV_ns]
              refine ite2 (fun z => ?_) (fun z => ?_)
              · rw [handC_twice hun hg hop hx z] at k
                exact ⟨(by show 1 ≤ sizeLine; decide), k.ret wa⟩
              · have z : o.counted.contains l.from_ = false := by simpa using z
                rw [handC_count hun hg hop hx z hw] at k
                rw [ec] at z
                refine ⟨_, rfl, rfl, _, rfl, iteF ?_⟩
                exact ⟨_, rfl, L.p, dw, _, rfl, hob, F_World_m_count_keeper, _, rfl, _, rfl, L, W, a, b, n, _, o, l, _, cp, rfl, wa, ok, hoa, hop, hlt, hcl, hok, hfr, z, hw, k⟩
end
end Cb

namespace Cb
open PySem L2
open Ag02 (Copy Letter above same zero)
section
variable {P : Program} {w : World} {K : PySem.W.Frag} {mg : Str → Option Value} {base : Heap} {A : Adr}
theorem handN_down {W : MW} {l : Letter} (h : (W.nd l.to_).up = false) : W.handNode l = (W, [0]) := if_pos h
theorem handN_up {W : MW} {l : Letter} (ht : l.to_ < W.nodes.length) (h : (W.nd l.to_).up = true) :
    W.handNode l = (MW.send { W with nodes := W.nodes.set l.to_ ((W.nd l.to_).after l) } ((W.nd l.to_).answer l), [1]) := by
  refine (if_neg (show ¬ (W.nd l.to_).up = false by rw [h]; decide)).trans ?_
  unfold MNode.after MNode.answer
  by_cases q : l.kind = 0
  · rw [if_pos q, if_pos q, if_pos q, set_same (nd_some ht)]
  · rw [if_neg q, if_neg q, if_neg q]
def sp_handN (A : Adr) : Sp := fun vs H Q _ => ∃ (L : Lay) (W : MW) (b : Addr) (l : Letter), vs = [.ref L.p, .ref b] ∧ WAt A L H W ∧ Ok W ∧ LtAt A L.tg H b l ∧ LtOk W.nodes.length l ∧ (l.kind = 0 ∨ l.kind = 2) ∧ Res A L H (W.handNode l).1 (W.handNode l).2 Q
theorem ok_World_hand_to_node (T : Txt K mg A) : MtG P w K mg base A.c_World "hand_to_node" 5 ["self", "letter"] (sp_handN A) := by
  have G_World_send := ok_World_send (P := P) (w := w) (base := base) T
  have G_Node_answer_to := ok_Node_answer_to (P := P) (w := w) (base := base) T
  obtain ⟨f_World_send, d_World_send, c_World_send, m_World_send, b_World_send, F_World_send⟩ := G_World_send.ex
  obtain ⟨f_Node_answer_to, d_Node_answer_to, c_Node_answer_to, m_Node_answer_to, b_Node_answer_to, F_Node_answer_to⟩ := G_Node_answer_to.ex
  refine mk_World_hand_to_node T (fun vs H Q E h => ?_) (fun f cdv B outer s H vs Q E hr h => ?_)
  · obtain ⟨L, W, b, l, rfl, _⟩ := h
    rfl
  · obtain ⟨L, W, b, l, rfl, wa, ok, hlt, hlo, h02, k⟩ := h
    obtain ⟨dw, hob⟩ := wa.ob
    obtain ⟨dl, e, tl, hl, ce⟩ := id hlt
    obtain ⟨hto, hfr⟩ := hlo.even (by omega)
    have hnd := nd_some hto
    obtain ⟨na, hna, hnat⟩ := wa.an.get hnd
    obtain ⟨dn, ln, cs, t1, h1, t2, h2, al⟩ := id hnat
    refine ⟨_, (pss_cons (ps_set (i := 2) sc_World_hand_to_node.nd rfl (Or.inl rfl) (pe_ix ix_list (pe_fld (pv 0) rfl) (pe_fld (pv 1) rfl) (fun _ _ => rfl)))
      (pss_cons (ps_if (pt_not (pt_val (pe_fld (pv 2) rfl)))
        (pss_one (ps_ret (pe_lst (pa_cons (pe_gint rfl T.g_NO_USE) pa_nil))))
        pss_nil)
      (pss_cons (ps_expr (pe_meth (pv 0) c_World_send m_World_send F_World_send (hr.mono (by decide)) b_World_send .nil pass0 (pa_cons (pe_meth (pv 2) c_Node_answer_to m_Node_answer_to F_Node_answer_to (hr.mono (by decide)) b_Node_answer_to .nil pass0 (pa_cons (pv 1) pa_nil)) pa_nil)))
      (pss_one (ps_ret (pe_lst (pa_cons (pe_gint rfl T.g_ANSWERED) pa_nil))))))), ?_⟩
    refine ⟨_, rfl, _, _, _, _, _, rfl, hob, T.cl_World, T.na_World_nodes, F_World_nodes, _, rfl, _, _, _, _, _, rfl, hl, T.cl_Letter, T.na_Letter_to, F_Letter_to, _, _, _, _, rfl, rfl, SqL.of wa.hn, at_of rfl (show (L.na.map V.ref)[l.to_]? = some (V.ref na) by rw [List.getElem?_map, hna]; rfl), ?_⟩
    refine ⟨_, rfl, _, _, _, _, _, rfl, h1, T.cl_Node, T.na_Node_runs, F_Node_runs, _, rfl, ?_⟩
    cases hup : (W.nd l.to_).up with
    | false =>
      rw [handN_down hup] at k
      exact iteT ⟨(by show 1 ≤ sizeLine; decide), k.ret wa⟩
    | true =>
      rw [handN_up hto hup] at k
      refine iteF ⟨_, rfl, L.p, dw, _, rfl, hob, F_World_m_send, _, rfl, na, dn, _, rfl, h1, F_Node_m_answer_to, _, rfl, na, b, l.to_, W.nd l.to_, l, L.tg, rfl, hnat, hlt, hlo.cell, (ok.cells _ (nd_mem hto)).1, h02, wa.fr, fun p H1 m1 hn1 np lt1 none1 => ?_⟩
      have w1 : WAt A L H1 { W with nodes := W.nodes.set l.to_ ((W.nd l.to_).after l) } := wa.node (m1.mono fun _ z => z.2) (fun a' ha' => by
        rw [hna] at ha'
        cases ha'
        exact hn1) (fun a' ha' => wa.fr a' (none1 a' ha'))
      have e1 : Evo L.tg L.tg H H1 := fun z u hz => by
        refine ⟨rfl, ?_⟩
        cases hz1 : H1 z with
        | none =>
          rw [none1 z hz1] at hz
          cases hz
        | some u' =>
          refine ⟨u', rfl, fun tz => ?_⟩
          have := (m1 z u hz (by rw [tz]; simp)).1
          rw [hz1] at this
          exact Option.some.inj this
      refine ⟨L, _, p, _, rfl, w1, ok.row, lt1, fun la H2 w2 e2 => ?_⟩
      exact ⟨(by show 1 ≤ sizeLine; decide), (k.move (L1 := { L with la := la }) rfl (e1.trans e2)).ret w2⟩
def sp_hand (A : Adr) : Sp := fun vs H Q _ => ∃ (L : Lay) (W : MW) (b : Addr) (l : Letter), vs = [.ref L.p, .ref b] ∧ WAt A L H W ∧ Ok W ∧ LtAt A L.tg H b l ∧ LtOk W.nodes.length l ∧ Res A L H (W.hand l).1 (W.hand l).2 Q
theorem ok_World_hand_over (T : Txt K mg A) : MtG P w K mg base A.c_World "hand_over" 8 ["self", "letter"] (sp_hand A) := by
  have G_World_hand_to_client := ok_World_hand_to_client (P := P) (w := w) (base := base) T
  have G_World_hand_to_node := ok_World_hand_to_node (P := P) (w := w) (base := base) T
  obtain ⟨f_World_hand_to_client, d_World_hand_to_client, c_World_hand_to_client, m_World_hand_to_client, b_World_hand_to_client, F_World_hand_to_client⟩ := G_World_hand_to_client.ex
  obtain ⟨f_World_hand_to_node, d_World_hand_to_node, c_World_hand_to_node, m_World_hand_to_node, b_World_hand_to_node, F_World_hand_to_node⟩ := G_World_hand_to_node.ex
  refine mk_World_hand_over T (fun vs H Q E h => ?_) (fun f cdv B outer s H vs Q E hr h => ?_)
  · obtain ⟨L, W, b, l, rfl, _⟩ := h
    rfl
  · obtain ⟨L, W, b, l, rfl, wa, ok, hlt, hlo, k⟩ := h
    obtain ⟨dw, hob⟩ := wa.ob
    obtain ⟨dl, e, tl, hl, ce⟩ := id hlt
    have hk4 := hlo.kind
    have e0 : decide (V.int (l.kind : Int) = V.int 0) = decide (l.kind = 0) := int_eq (n := 0)
    have e2 : decide (V.int (l.kind : Int) = V.int 2) = decide (l.kind = 2) := int_eq (n := 2)
    refine ⟨_, (pss_cons (ps_if (PW.pt (pw_or (pt_cmpR op_eq (pe_fld (pv 1) rfl) (pe_gint rfl T.g_ASKS) (nomark _)) (pw_or1 (pt_cmpR op_eq (pe_fld (pv 1) rfl) (pe_gint rfl T.g_KEEP) (nomark _)))))
        (pss_one (ps_ret (pe_meth (pv 0) c_World_hand_to_node m_World_hand_to_node F_World_hand_to_node (hr.mono (by decide)) b_World_hand_to_node .nil pass0 (pa_cons (pv 1) pa_nil))))
        pss_nil)
      (pss_one (ps_ret (pe_meth (pv 0) c_World_hand_to_client m_World_hand_to_client F_World_hand_to_client (hr.mono (by decide)) b_World_hand_to_client .nil pass0 (pa_cons (pv 1) pa_nil))))), ?_⟩
    refine ⟨_, rfl, _, _, _, _, _, rfl, hl, T.cl_Letter, T.na_Letter_kind, F_Letter_kind, rfl, _, rfl, ?_⟩
    rw [e0]
    by_cases q0 : l.kind = 0
    · have eh : W.hand l = W.handNode l := if_pos (.inl q0)
      rw [eh] at k
      rw [decide_eq_true q0]
      exact iteT (iteT ⟨_, rfl, L.p, dw, _, rfl, hob, F_World_m_hand_to_node, _, rfl, L, W, b, l, rfl, wa, ok, hlt, hlo, .inl q0, k⟩)
    · rw [decide_eq_false q0]
      refine iteF ⟨_, rfl, _, _, _, _, _, rfl, hl, T.cl_Letter, T.na_Letter_kind, F_Letter_kind, rfl, _, rfl, ?_⟩
      rw [e2]
      by_cases q2 : l.kind = 2
      · have eh : W.hand l = W.handNode l := if_pos (.inr q2)
        rw [eh] at k
        rw [decide_eq_true q2]
        exact iteT ⟨_, rfl, L.p, dw, _, rfl, hob, F_World_m_hand_to_node, _, rfl, L, W, b, l, rfl, wa, ok, hlt, hlo, .inr q2, k⟩
      · have eh : W.hand l = W.handClient l := if_neg fun z => z.elim q0 q2
        rw [eh] at k
        rw [decide_eq_false q2]
        exact iteF ⟨_, rfl, L.p, dw, _, rfl, hob, F_World_m_hand_to_client, _, rfl, L, W, b, l, rfl, wa, ok, hlt, hlo, (by omega), k⟩
/-! ### take, again, lose -/
theorem seqIx {k n : Nat} (h : k < n) : seqIndex? (k : Int) n = some k := by
  unfold seqIndex?
  simp
  omega
theorem map_erase {α β : Type} (f : α → β) : ∀ (l : List α) (k : Nat), (l.map f).eraseIdx k = (l.eraseIdx k).map f
  | [], _ => rfl
  | _ :: _, 0 => rfl
  | a :: l, k + 1 => by
    show f a :: (l.map f).eraseIdx k = f a :: (l.eraseIdx k).map f
    rw [map_erase f l k]
def sp_place (A : Adr) (g : MW → Nat → MW × List Int) : Sp := fun vs H Q _ => ∃ (L : Lay) (W : MW) (k : Nat), vs = [.ref L.p, .int (k : Int)] ∧ WAt A L H W ∧ Ok W ∧ k ≤ 1000 ∧ Res A L H (g W k).1 (g W k).2 Q
theorem ge_len {k n : Nat} : decide ((n : Int) ≤ (k : Int)) = decide (n ≤ k) := by
  by_cases q : n ≤ k
  · rw [decide_eq_true q, decide_eq_true (by omega)]
  · rw [decide_eq_false q, decide_eq_false (by omega)]
theorem ok_World_take (T : Txt K mg A) : MtG P w K mg base A.c_World "take" 9 ["self", "place"] (sp_place A MW.take) := by
  have G_World_hand_over := ok_World_hand_over (P := P) (w := w) (base := base) T
  obtain ⟨f_World_hand_over, d_World_hand_over, c_World_hand_over, m_World_hand_over, b_World_hand_over, F_World_hand_over⟩ := G_World_hand_over.ex
  refine mk_World_take T (fun vs H Q E h => ?_) (fun f cdv B outer s H vs Q E hr h => ?_)
  · obtain ⟨L, W, n, rfl, _⟩ := h
    rfl
  · obtain ⟨L, W, n, rfl, wa, ok, hn, k⟩ := h
    obtain ⟨dw, hob⟩ := wa.ob
    have el : (L.la.map V.ref).length = W.row.length := by rw [List.length_map, wa.al.len]
    refine ⟨_, (pss_cons (ps_if (pt_cmpR op_ge (pv 1) (pe_callB call_len_seq (by rfl) T.b_len PySem.boot_len (pa_cons (pe_fld (pv 0) rfl) pa_nil)) (nomark _))
        (pss_one (ps_ret (pe_lst (pa_cons (pe_gint rfl T.g_NO_SUCH) pa_nil))))
        pss_nil)
      (pss_one (ps_ret (pe_meth (pv 0) c_World_hand_over m_World_hand_over F_World_hand_over (hr.mono (by decide)) b_World_hand_over .nil pass0 (pa_cons (pe_bm PySem.F.plainAttrs_list PySem.F.slot_list_pop PySem.F.type_list_pop mt_popAt (pe_fld (pv 0) rfl) (pa_cons (pv 1) pa_nil)) pa_nil))))), ?_⟩
    refine ⟨_, rfl, _, rfl, _, _, _, _, _, rfl, hob, T.cl_World, T.na_World_row, F_World_row, L.lr, _, rfl, .inl (SqL.of wa.hr), _, _, rfl, rfl, _, rfl, ?_⟩
    rw [el, ge_len]
    by_cases q : W.row.length ≤ n
    · have e : W.take n = (W, [-1]) := by
        unfold MW.take
        rw [List.getElem?_eq_none q]
      rw [e] at k
      rw [decide_eq_true q]
      exact iteT ⟨(by show 1 ≤ sizeLine; decide), k.ret wa⟩
    · have hlt : n < W.row.length := by omega
      have hrow : W.row[n]? = some W.row[n] := List.getElem?_eq_getElem hlt
      obtain ⟨b, hb, hbl⟩ := wa.al.get hrow
      have e : W.take n = MW.hand { W with row := W.row.eraseIdx n } W.row[n] := by
        unfold MW.take
        rw [hrow]
      rw [e] at k
      rw [decide_eq_false q]
      have hlo := ok.lts _ (List.mem_of_getElem? hrow)
      have o1 : Ok { W with row := W.row.eraseIdx n } := ok_rowOf ok (by have := List.length_eraseIdx_le W.row n; have := ok.row; omega) fun l hl => ok.lts l (List.mem_of_mem_eraseIdx hl)
      refine iteF ⟨_, rfl, L.p, dw, _, rfl, hob, F_World_m_hand_over, _, rfl, _, _, _, _, _, rfl, hob, T.cl_World, T.na_World_row, F_World_row, .inl ⟨rfl, _, SqL.of wa.hr⟩, _, rfl, L.lr, _, _, n, V.ref b, rfl, rfl, wa.hr, (by omega), (by omega), seqIx (by rw [el]; exact hlt), (by rw [List.getElem?_map, hb]; rfl), ?_⟩
      rw [map_erase]
      refine ⟨{ L with la := L.la.eraseIdx n }, _, b, W.row[n], rfl, wa.row (wa.al.erase n), o1, hbl.mv (Mv.upd wa.tr) (by decide), hlo, ?_⟩
      exact k.move (L1 := { L with la := L.la.eraseIdx n }) rfl (Evo.upd wa.hr (by rw [wa.tr]; decide))
theorem ok_World_again (T : Txt K mg A) : MtG P w K mg base A.c_World "again" 9 ["self", "place"] (sp_place A MW.again) := by
  have G_World_hand_over := ok_World_hand_over (P := P) (w := w) (base := base) T
  obtain ⟨f_World_hand_over, d_World_hand_over, c_World_hand_over, m_World_hand_over, b_World_hand_over, F_World_hand_over⟩ := G_World_hand_over.ex
  refine mk_World_again T (fun vs H Q E h => ?_) (fun f cdv B outer s H vs Q E hr h => ?_)
  · obtain ⟨L, W, n, rfl, _⟩ := h
    rfl
  · obtain ⟨L, W, n, rfl, wa, ok, hn, k⟩ := h
    obtain ⟨dw, hob⟩ := wa.ob
    have el : (L.la.map V.ref).length = W.row.length := by rw [List.length_map, wa.al.len]
    refine ⟨_, (pss_cons (ps_if (pt_cmpR op_ge (pv 1) (pe_callB call_len_seq (by rfl) T.b_len PySem.boot_len (pa_cons (pe_fld (pv 0) rfl) pa_nil)) (nomark _))
        (pss_one (ps_ret (pe_lst (pa_cons (pe_gint rfl T.g_NO_SUCH) pa_nil))))
        pss_nil)
      (pss_one (ps_ret (pe_meth (pv 0) c_World_hand_over m_World_hand_over F_World_hand_over (hr.mono (by decide)) b_World_hand_over .nil pass0 (pa_cons (pe_ix ix_list (pe_fld (pv 0) rfl) (pv 1) (fun _ _ => rfl)) pa_nil))))), ?_⟩
    refine ⟨_, rfl, _, rfl, _, _, _, _, _, rfl, hob, T.cl_World, T.na_World_row, F_World_row, L.lr, _, rfl, .inl (SqL.of wa.hr), _, _, rfl, rfl, _, rfl, ?_⟩
    rw [el, ge_len]
    by_cases q : W.row.length ≤ n
    · have e : W.again n = (W, [-1]) := by
        unfold MW.again
        rw [List.getElem?_eq_none q]
      rw [e] at k
      rw [decide_eq_true q]
      exact iteT ⟨(by show 1 ≤ sizeLine; decide), k.ret wa⟩
    · have hlt : n < W.row.length := by omega
      have hrow : W.row[n]? = some W.row[n] := List.getElem?_eq_getElem hlt
      obtain ⟨b, hb, hbl⟩ := wa.al.get hrow
      have e : W.again n = MW.hand W W.row[n] := by
        unfold MW.again
        rw [hrow]
      rw [e] at k
      rw [decide_eq_false q]
      have hlo := ok.lts _ (List.mem_of_getElem? hrow)
      refine iteF ⟨_, rfl, L.p, dw, _, rfl, hob, F_World_m_hand_over, _, rfl, _, _, _, _, _, rfl, hob, T.cl_World, T.na_World_row, F_World_row, _, rfl, _, _, _, _, rfl, rfl, SqL.of wa.hr, at_of rfl (show (L.la.map V.ref)[n]? = some (V.ref b) by rw [List.getElem?_map, hb]; rfl), ?_⟩
      exact ⟨L, W, b, W.row[n], rfl, wa, ok, hbl, hlo, k⟩
theorem ok_World_lose (T : Txt K mg A) : MtG P w K mg base A.c_World "lose" 1 ["self", "place"] (sp_place A MW.lose) := by
  refine mk_World_lose T (fun vs H Q E h => ?_) (fun f cdv B outer s H vs Q E hr h => ?_)
  · obtain ⟨L, W, n, rfl, _⟩ := h
    rfl
  · obtain ⟨L, W, n, rfl, wa, ok, hn, k⟩ := h
    obtain ⟨dw, hob⟩ := wa.ob
    have el : (L.la.map V.ref).length = W.row.length := by rw [List.length_map, wa.al.len]
    refine ⟨_, (pss_cons (ps_if (pt_cmpR op_ge (pv 1) (pe_callB call_len_seq (by rfl) T.b_len PySem.boot_len (pa_cons (pe_fld (pv 0) rfl) pa_nil)) (nomark _))
        (pss_one (ps_ret (pe_lst (pa_cons (pe_gint rfl T.g_NO_SUCH) pa_nil))))
        pss_nil)
      (pss_cons (ps_expr (pe_bm PySem.F.plainAttrs_list PySem.F.slot_list_pop PySem.F.type_list_pop mt_popAt (pe_fld (pv 0) rfl) (pa_cons (pv 1) pa_nil)))
      (pss_one (ps_ret (pe_lst (pa_cons pe_int pa_nil)))))), ?_⟩
    refine ⟨_, rfl, _, rfl, _, _, _, _, _, rfl, hob, T.cl_World, T.na_World_row, F_World_row, L.lr, _, rfl, .inl (SqL.of wa.hr), _, _, rfl, rfl, _, rfl, ?_⟩
    rw [el, ge_len]
    by_cases q : W.row.length ≤ n
    · have e : W.lose n = (W, [-1]) := if_pos q
      rw [e] at k
      rw [decide_eq_true q]
      exact iteT ⟨(by show 1 ≤ sizeLine; decide), k.ret wa⟩
    · have hlt : n < W.row.length := by omega
      have hrow : W.row[n]? = some W.row[n] := List.getElem?_eq_getElem hlt
      obtain ⟨b, hb, hbl⟩ := wa.al.get hrow
      have e : W.lose n = ({ W with row := W.row.eraseIdx n }, [0]) := if_neg q
      rw [e] at k
      rw [decide_eq_false q]
      refine iteF ⟨_, rfl, _, _, _, _, _, rfl, hob, T.cl_World, T.na_World_row, F_World_row, .inl ⟨rfl, _, SqL.of wa.hr⟩, _, rfl, L.lr, _, _, n, V.ref b, rfl, rfl, wa.hr, (by omega), (by omega), seqIx (by rw [el]; exact hlt), (by rw [List.getElem?_map, hb]; rfl), ?_⟩
      rw [map_erase]
      refine ⟨(by show 1 ≤ sizeLine; decide), ?_⟩
      exact (k.move (L1 := { L with la := L.la.eraseIdx n }) rfl (Evo.upd wa.hr (by rw [wa.tr]; decide))).ret (wa.row (wa.al.erase n))
theorem ok_World_nudge (T : Txt K mg A) : MtG P w K mg base A.c_World "nudge" 5 ["self", "number"] (sp_place A MW.nudge) := by
  have G_Client_is_at_work := ok_Client_is_at_work (P := P) (w := w) (base := base) T
  have G_World_send_to_missing := ok_World_send_to_missing (P := P) (w := w) (base := base) T
  obtain ⟨f_Client_is_at_work, d_Client_is_at_work, c_Client_is_at_work, m_Client_is_at_work, b_Client_is_at_work, F_Client_is_at_work⟩ := G_Client_is_at_work.ex
  obtain ⟨f_World_send_to_missing, d_World_send_to_missing, c_World_send_to_missing, m_World_send_to_missing, b_World_send_to_missing, F_World_send_to_missing⟩ := G_World_send_to_missing.ex
  refine mk_World_nudge T (fun vs H Q E h => ?_) (fun f cdv B outer s H vs Q E hr h => ?_)
  · obtain ⟨L, W, n, rfl, _⟩ := h
    rfl
  · obtain ⟨L, W, n, rfl, wa, ok, hn, k⟩ := h
    obtain ⟨dw, hob⟩ := wa.ob
    refine ⟨_, (pss_cons (ps_if (pt_cmpR op_ge (pv 1) (pe_gint rfl T.g_CLIENTS) (nomark _))
        (pss_one (ps_ret (pe_lst (pa_cons (pe_gint rfl T.g_NO_SUCH) pa_nil))))
        pss_nil)
      (pss_cons (ps_set (i := 2) sc_World_nudge.nd rfl (Or.inl rfl) (pe_ix ix_list (pe_fld (pv 0) rfl) (pv 1) (fun _ _ => rfl)))
      (pss_cons (ps_if (pt_not (pt_val (pe_meth0 (pv 2) c_Client_is_at_work m_Client_is_at_work F_Client_is_at_work (hr.mono (by decide)) b_Client_is_at_work .nil pass0)))
        (pss_one (ps_ret (pe_lst (pa_cons (pe_gint rfl T.g_NOT_NOW) pa_nil))))
        pss_nil)
      (pss_one (ps_ret (pe_lst (pa_cons (pe_meth (pv 0) c_World_send_to_missing m_World_send_to_missing F_World_send_to_missing (hr.mono (by decide)) b_World_send_to_missing .nil pass0 (pa_cons (pe_fld (pv 2) rfl) pa_nil)) pa_nil))))))), ?_⟩
    refine ⟨_, rfl, _, _, rfl, rfl, _, rfl, ?_⟩
    have e4 : decide ((4 : Int) ≤ (n : Int)) = decide (4 ≤ n) := ge_len (n := 4)
    rw [e4]
    by_cases q : 4 ≤ n
    · have e : W.nudge n = (W, [-1]) := if_pos q
      rw [e] at k
      rw [decide_eq_true q]
      exact iteT ⟨(by show 1 ≤ sizeLine; decide), k.ret wa⟩
    · rw [decide_eq_false q]
      have hcl := cl_some ok (i := n) (by omega)
      obtain ⟨ca, hca, hcat⟩ := wa.ac.get hcl
      obtain ⟨dc, u, tc, hc1, hu⟩ := id hcat
      refine iteF ⟨_, rfl, _, _, _, _, _, rfl, hob, T.cl_World, T.na_World_clients, F_World_clients, _, rfl, _, _, _, _, rfl, rfl, SqL.of wa.hc, at_of rfl (show (L.ca.map V.ref)[n]? = some (V.ref ca) by rw [List.getElem?_map, hca]; rfl), ?_⟩
      refine ⟨_, rfl, ca, dc, _, rfl, hc1, F_Client_m_is_at_work, ca, L.oa, n, W.cl n, L.tg, rfl, hcat, _, rfl, ?_⟩
      show if (!((W.cl n).under.isSome && !(W.cl n).gone)) = true then _ else _
      cases hun : (W.cl n).under with
      | none =>
        have e : W.nudge n = (W, [-2]) := (if_neg q).trans (by rw [hun])
        rw [e] at k
        exact iteT ⟨(by show 1 ≤ sizeLine; decide), k.ret wa⟩
      | some m =>
        rw [hun] at hu
        obtain ⟨a, hoa, rfl⟩ := hu
        obtain ⟨o, hop, hok⟩ := ok.ops _ _ m hcl hun
        cases hg : (W.cl n).gone with
        | true =>
          have e : W.nudge n = (W, [-2]) := (if_neg q).trans (by rw [hun]; exact if_pos hg)
          rw [e] at k
          exact iteT ⟨(by show 1 ≤ sizeLine; decide), k.ret wa⟩
        | false =>
          have e : W.nudge n = (W.sendTo o, [((W.missing o).length : Int)]) := (if_neg q).trans (by rw [hun]; refine (if_neg (by rw [hg]; decide)).trans ?_; rw [opAt_of hop])
          rw [e] at k
          refine iteF ⟨_, rfl, L.p, dw, _, rfl, hob, F_World_m_send_to_missing, _, rfl, _, _, _, _, _, rfl, hc1, T.cl_Client, T.na_Client_under_way, F_Client_under_way, L, W, a, m, o, rfl, wa, ok.row, ok.nlen, hoa, hop, fun la H2 w2 e2 => ?_⟩
          exact ⟨(by show 1 ≤ sizeLine; decide), (k.move (L1 := { L with la := la }) rfl e2).ret w2⟩
end
end Cb

namespace Cb
open PySem L2
open Ag02 (Copy Letter above same zero)
section
variable {P : Program} {w : World} {K : PySem.W.Frag} {mg : Str → Option Value} {base : Heap} {A : Adr}
/-! ### an operation begins -/
def tag4 (τ : Addr → Tag) (n : Nat) (x h t q : Addr) : Addr → Tag := fun z => if z = x then (7, n) else if z = h then (8, n) else if z = t then (9, n) else if z = q then (10, n) else τ z
section
variable {L : Lay} {H2 H3 : Hp} {W : MW} {i cell v : Nat} {wr : Bool} {x d h t q ca dc : Addr} {c0 : MClient}
/-- what stands once the operation is made, the client points at it and the record has it -/
def begH (A : Adr) (L : Lay) (H3 : Hp) (ca dc x : Addr) (b : Nat) (g : Bool) : Hp := upd (upd H3 ca (.ins A.c_Client dc (F_Client (.int (b : Int)) (.bl g) (.ref x)))) L.lo (.lst ((L.oa ++ [x]).map V.ref))
theorem begun_at (hlen : W.ops.length = L.oa.length) (hi : i < 4) (w2 : WAt A L H2 { W with clients := W.clients.set i ⟨(W.cl i).begun + 1, (W.cl i).gone, none⟩, events := W.events + 1 }) (s : Same H2 H3)
    (nx : H2 x = none) (nh : H2 h = none) (nt : H2 t = none) (nq : H2 q = none) (hht : h ≠ t) (hhq : h ≠ q) (htq : t ≠ q)
    (hx : H3 x = some (.ins A.c_Operation d (F_Operation (.int (i : Int)) (.int (((W.cl i).begun + 1 : Nat) : Int)) (.int (cell : Int)) (.bl wr) (.int (v : Int)) (.int (W.events : Int)) (.int (-1)) (.int (-1)) (.ref h) (.ref t) .non (.ref q))))
    (hh : H3 h = some (.lst [])) (ht : H3 t = some (.lst [])) (hq : H3 q = some (.lst [])) (hca : L.ca[i]? = some ca) (tca : L.tg ca = (6, i)) (hca2 : H2 ca = some (.ins A.c_Client dc (F_Client (.int (((W.cl i).begun + 1 : Nat) : Int)) (.bl (W.cl i).gone) .non))) :
    WAt A { L with oa := L.oa ++ [x], tg := tag4 L.tg W.ops.length x h t q } (begH A L H3 ca dc x ((W.cl i).begun + 1) (W.cl i).gone) (W.begun1 i cell wr v) ∧ Evo L.tg (tag4 L.tg W.ops.length x h t q) H2 (begH A L H3 ca dc x ((W.cl i).begun + 1) (W.cl i).gone) := by
  have live : ∀ z o, H2 z = some o → tag4 L.tg W.ops.length x h t q z = L.tg z := fun z o hz => by
    unfold tag4
    rw [if_neg (ne_of_none hz nx), if_neg (ne_of_none hz nh), if_neg (ne_of_none hz nt), if_neg (ne_of_none hz nq)]
  have hxh : x ≠ h := ne_of hx hh (by intro z; cases z)
  have hxt : x ≠ t := ne_of hx ht (by intro z; cases z)
  have hxq : x ≠ q := ne_of hx hq (by intro z; cases z)
  have e7 : tag4 L.tg W.ops.length x h t q x = (7, W.ops.length) := if_pos rfl
  have e8 : tag4 L.tg W.ops.length x h t q h = (8, W.ops.length) := (if_neg hxh.symm).trans (if_pos rfl)
  have e9 : tag4 L.tg W.ops.length x h t q t = (9, W.ops.length) := (if_neg hxt.symm).trans ((if_neg hht.symm).trans (if_pos rfl))
  have e10 : tag4 L.tg W.ops.length x h t q q = (10, W.ops.length) := (if_neg hxq.symm).trans ((if_neg hhq.symm).trans ((if_neg htq.symm).trans (if_pos rfl)))
  have liveC := hca2
  have liveL := w2.ho
  have m : Mv (fun z => z ≠ (6, i) ∧ z ≠ (3, 0)) L.tg (tag4 L.tg W.ops.length x h t q) H2 (begH A L H3 ca dc x ((W.cl i).begun + 1) (W.cl i).gone) := fun z o hz hs => by
    refine ⟨?_, live z o hz⟩
    unfold begH
    rw [upd_ne (fun y => hs.2 (by rw [y]; exact w2.to_)), upd_ne (fun y => hs.1 (by rw [y]; exact tca))]
    exact s z o hz
  have newAt : ∀ z, H2 z = none → begH A L H3 ca dc x ((W.cl i).begun + 1) (W.cl i).gone z = H3 z := fun z hz => by
    unfold begH
    rw [upd_ne (fun y => by rw [y, liveL] at hz; cases hz), upd_ne (fun y => by rw [y, liveC] at hz; cases hz)]
  have ncl : ca ≠ L.lo := fun y => by
    rw [y, w2.to_] at tca
    simp at tca
  have hcaB : begH A L H3 ca dc x ((W.cl i).begun + 1) (W.cl i).gone ca = some (.ins A.c_Client dc (F_Client (.int (((W.cl i).begun + 1 : Nat) : Int)) (.bl (W.cl i).gone) (.ref x))) := by
    unfold begH
    rw [upd_ne ncl, upd_same]
  obtain ⟨dw, hob⟩ := w2.ob
  refine ⟨⟨?_, ?_, ?_, ?_, ?_, ?_, ?_, ?_, ?_, ?_, ?_, ?_, ?_, ?_, ?_⟩, ?_⟩
  · exact (live _ _ hob).trans w2.tp
  · exact (live _ _ w2.hr).trans w2.tr
  · exact (live _ _ w2.ho).trans w2.to_
  · exact (live _ _ w2.hn).trans w2.tn
  · exact (live _ _ w2.hc).trans w2.tc
  · exact ⟨dw, (m _ _ hob (by rw [w2.tp]; simp)).1⟩
  · exact (m _ _ w2.hn (by rw [w2.tn]; simp)).1
  · exact (m _ _ w2.hc (by rw [w2.tc]; simp)).1
  · exact (m _ _ w2.hr (by rw [w2.tr]; simp)).1
  · exact upd_same
  · exact w2.an.imp fun j a n _ _ r => r.mv m (by simp) (by simp) (by simp)
  · have ac : Al (ClAt A L.tg H2 L.oa) L.ca (W.clients.set i ⟨(W.cl i).begun + 1, (W.cl i).gone, none⟩) := w2.ac
    have e : (W.begun1 i cell wr v).clients = (W.clients.set i ⟨(W.cl i).begun + 1, (W.cl i).gone, none⟩).set i ⟨(W.cl i).begun + 1, (W.cl i).gone, some W.ops.length⟩ := by
      rw [List.set_set]
      rfl
    show Al _ L.ca (W.begun1 i cell wr v).clients
    rw [e]
    refine ac.setR (fun j b dd hj _ _ r => ?_) (fun b hb => ?_)
    · obtain ⟨dx, u, t1, h1, hu⟩ := r.mv m ⟨by simp [hj], by simp⟩
      refine ⟨dx, u, t1, h1, ?_⟩
      cases hun : dd.under with
      | none =>
        rw [hun] at hu
        exact hu
      | some k =>
        rw [hun] at hu
        obtain ⟨b', hb', rfl⟩ := hu
        exact ⟨b', by show (L.oa ++ [x])[k]? = _; rw [List.getElem?_append_left (List.getElem?_eq_some_iff.mp hb').1]; exact hb', rfl⟩
    · rw [hca] at hb
      cases hb
      refine ⟨dc, .ref x, (live _ _ liveC).trans tca, hcaB, x, ?_, rfl⟩
      show (L.oa ++ [x])[W.ops.length]? = some x
      rw [hlen, List.getElem?_append_right (Nat.le_refl _), Nat.sub_self]
      rfl
  · exact w2.al.imp fun _ _ _ _ _ r => r.mv m (by simp)
  · show Al _ (L.oa ++ [x]) (W.ops ++ [W.newOp i cell wr v])
    refine Al.push (w2.ao.imp fun j a o _ _ r => r.mv m (by simp) (by simp) (by simp) (by simp) (by simp)) ?_
    rw [← hlen]
    refine ⟨d, h, t, q, .non, [], e7, (newAt x nx).trans hx, e8, (newAt h nh).trans hh, e9, (newAt t nt).trans ht, Al.nil, e10, (newAt q nq).trans hq, rfl⟩
  · intro z hz
    have hz2 : H2 z = none := by
      cases y : H2 z with
      | none => rfl
      | some o =>
        exfalso
        have hz3 := hz
        unfold begH at hz3
        have a1 := upd_none _ (upd_none _ hz3)
        rw [s z o y] at a1
        cases a1
    have z3 := (newAt z hz2).symm.trans hz
    show tag4 L.tg W.ops.length x h t q z = (0, 0)
    unfold tag4
    rw [if_neg (fun y => by rw [y, hx] at z3; cases z3), if_neg (fun y => by rw [y, hh] at z3; cases z3), if_neg (fun y => by rw [y, ht] at z3; cases z3), if_neg (fun y => by rw [y, hq] at z3; cases z3)]
    exact w2.fr z hz2
  · intro z o hz
    refine ⟨live z o hz, ?_⟩
    by_cases y1 : z = L.lo
    · subst y1
      exact ⟨_, upd_same, fun y => by rw [w2.to_] at y; simp at y⟩
    · by_cases y2 : z = ca
      · subst y2
        exact ⟨_, hcaB, fun y => by rw [tca] at y; simp at y⟩
      · refine ⟨o, ?_, fun _ => rfl⟩
        unfold begH
        rw [upd_ne y1, upd_ne y2]
        exact s z o hz
end
def sp_begins (A : Adr) : Sp := fun vs H Q _ => ∃ (L : Lay) (W : MW) (i x v : Nat) (wr : Bool), vs = [.ref L.p, .int (i : Int), .int (x : Int), .bl wr, .int (v : Int)] ∧ WAt A L H W ∧ Ok W ∧ W.ops.length ≤ 10000 ∧ Res A L H (W.begins i x wr v).1 (W.begins i x wr v).2 Q
def sp_read (A : Adr) : Sp := fun vs H Q _ => ∃ (L : Lay) (W : MW) (i x : Nat), vs = [.ref L.p, .int (i : Int), .int (x : Int)] ∧ WAt A L H W ∧ Ok W ∧ W.ops.length ≤ 10000 ∧ Res A L H (W.begins i x false 0).1 (W.begins i x false 0).2 Q
def sp_write (A : Adr) : Sp := fun vs H Q _ => ∃ (L : Lay) (W : MW) (i x v : Nat), vs = [.ref L.p, .int (i : Int), .int (x : Int), .int (v : Int)] ∧ WAt A L H W ∧ Ok W ∧ W.ops.length ≤ 10000 ∧ Res A L H (W.begins i x true v).1 (W.begins i x true v).2 Q
theorem gt_nat {k n : Nat} : decide ((n : Int) < (k : Int)) = decide (n < k) := by
  by_cases q : n < k
  · rw [decide_eq_true q, decide_eq_true (by omega)]
  · rw [decide_eq_false q, decide_eq_false (by omega)]
theorem ok_World_begin_operation (T : Txt K mg A) : MtG P w K mg base A.c_World "begin_operation" 5 ["self", "number", "cell", "writes", "value"] (sp_begins A) := by
  have G_Operation_init := ok_Operation_init (P := P) (w := w) (base := base) T
  have G_World_send_to_missing := ok_World_send_to_missing (P := P) (w := w) (base := base) T
  have G_Client_is_free := ok_Client_is_free (P := P) (w := w) (base := base) T
  have G_World_next_event := ok_World_next_event (P := P) (w := w) (base := base) T
  obtain ⟨f_Operation_init, d_Operation_init, M_Operation_init, h_Operation_init, b_Operation_init, F_Operation_init⟩ := G_Operation_init.ex
  obtain ⟨f_World_send_to_missing, d_World_send_to_missing, c_World_send_to_missing, m_World_send_to_missing, b_World_send_to_missing, F_World_send_to_missing⟩ := G_World_send_to_missing.ex
  obtain ⟨f_Client_is_free, d_Client_is_free, c_Client_is_free, m_Client_is_free, b_Client_is_free, F_Client_is_free⟩ := G_Client_is_free.ex
  obtain ⟨f_World_next_event, d_World_next_event, c_World_next_event, m_World_next_event, b_World_next_event, F_World_next_event⟩ := G_World_next_event.ex
  refine mk_World_begin_operation T (fun vs H Q E h => ?_) (fun f cdv B outer s H vs Q E hr h => ?_)
  · obtain ⟨L, W, i, x, v, wr, rfl, _⟩ := h
    rfl
  · obtain ⟨L, W, i, x, v, wr, rfl, wa, ok, hops, k⟩ := h
    obtain ⟨dw, hob⟩ := wa.ob
    refine ⟨_, (pss_cons (ps_if (PW.pt (pw_or (pt_cmpR op_ge (pv 1) (pe_gint rfl T.g_CLIENTS) (nomark _)) (pw_or (pt_cmpR op_ge (pv 2) (pe_gint rfl T.g_CELLS) (nomark _)) (pw_or1 (pt_cmpR op_gt (pv 4) (pe_gint rfl T.g_GREATEST_VALUE) (nomark _))))))
        (pss_one (ps_ret (pe_lst (pa_cons (pe_gint rfl T.g_NO_SUCH) pa_nil))))
        pss_nil)
      (pss_cons (ps_set (i := 5) sc_World_begin_operation.nd rfl (Or.inl rfl) (pe_ix ix_list (pe_fld (pv 0) rfl) (pv 1) (fun _ _ => rfl)))
      (pss_cons (ps_if (pt_not (pt_val (pe_meth0 (pv 5) c_Client_is_free m_Client_is_free F_Client_is_free (hr.mono (by decide)) b_Client_is_free .nil pass0)))
        (pss_one (ps_ret (pe_lst (pa_cons (pe_gint rfl T.g_NOT_NOW) pa_nil))))
        pss_nil)
      (pss_cons (ps_fld (pv 5) (pe_op op_add (pe_fld (pv 5) rfl) pe_int) rfl)
      (pss_cons (ps_set (i := 6) sc_World_begin_operation.nd rfl (Or.inl rfl) (pe_make M_Operation_init F_Operation_init (hr.mono (by decide)) (by rfl) h_Operation_init b_Operation_init .nil pass0 (pa_cons (pv 1) (pa_cons (pe_fld (pv 5) rfl) (pa_cons (pv 2) (pa_cons (pv 3) (pa_cons (pv 4) (pa_cons (pe_meth0 (pv 0) c_World_next_event m_World_next_event F_World_next_event (hr.mono (by decide)) b_World_next_event .nil pass0) pa_nil))))))))
      (pss_cons (ps_fld (pv 5) (pv 6) rfl)
      (pss_cons (ps_expr (pe_bm PySem.F.plainAttrs_list PySem.F.slot_list_append PySem.F.type_list_append mt_append (pe_fld (pv 0) rfl) (pa_cons (pv 6) pa_nil)))
      (pss_cons (ps_expr (pe_meth (pv 0) c_World_send_to_missing m_World_send_to_missing F_World_send_to_missing (hr.mono (by decide)) b_World_send_to_missing .nil pass0 (pa_cons (pv 6) pa_nil)))
      (pss_one (ps_ret (pe_lst (pa_cons (pe_fld (pv 6) rfl) pa_nil)))))))))))), ?_⟩
    have b1 : decide ((4 : Int) ≤ (i : Int)) = decide (4 ≤ i) := ge_len (n := 4)
    have b2 : decide ((3 : Int) ≤ (x : Int)) = decide (3 ≤ x) := ge_len (n := 3)
    have b3 : decide ((99 : Int) < (v : Int)) = decide (99 < v) := gt_nat (n := 99)
    refine ⟨_, rfl, _, _, rfl, rfl, _, rfl, ?_⟩
    rw [b1]
    by_cases q1 : 4 ≤ i
    · have e : W.begins i x wr v = (W, [-1]) := if_pos (.inl q1)
      rw [e] at k
      rw [decide_eq_true q1]
      exact iteT (iteT ⟨(by show 1 ≤ sizeLine; decide), k.ret wa⟩)
    rw [decide_eq_false q1]
    refine iteF ⟨_, rfl, _, _, rfl, rfl, _, rfl, ?_⟩
    rw [b2]
    by_cases q2 : 3 ≤ x
    · have e : W.begins i x wr v = (W, [-1]) := if_pos (.inr (.inl q2))
      rw [e] at k
      rw [decide_eq_true q2]
      exact iteT (iteT ⟨(by show 1 ≤ sizeLine; decide), k.ret wa⟩)
    rw [decide_eq_false q2]
    refine iteF ⟨_, rfl, _, _, rfl, rfl, _, rfl, ?_⟩
    rw [b3]
    by_cases q3 : 99 < v
    · have e : W.begins i x wr v = (W, [-1]) := if_pos (.inr (.inr q3))
      rw [e] at k
      rw [decide_eq_true q3]
      exact iteT ⟨(by show 1 ≤ sizeLine; decide), k.ret wa⟩
    rw [decide_eq_false q3]
    have hn1 : ¬ (4 ≤ i ∨ 3 ≤ x ∨ 99 < v) := fun z => z.elim q1 fun z => z.elim q2 q3
    have hi : i < 4 := by omega
    have hcl := cl_some ok hi
    obtain ⟨ca, hca, hcat⟩ := wa.ac.get hcl
    obtain ⟨dc, u, tc, hc1, hu⟩ := id hcat
    refine iteF ⟨_, rfl, _, _, _, _, _, rfl, hob, T.cl_World, T.na_World_clients, F_World_clients, _, rfl, _, _, _, _, rfl, rfl, SqL.of wa.hc, at_of rfl (show (L.ca.map V.ref)[i]? = some (V.ref ca) by rw [List.getElem?_map, hca]; rfl), ?_⟩
    refine ⟨_, rfl, ca, dc, _, rfl, hc1, F_Client_m_is_free, ca, L.oa, i, W.cl i, L.tg, rfl, hcat, _, rfl, ?_⟩
    show if (!((W.cl i).under.isNone && !(W.cl i).gone)) = true then _ else _
    by_cases hn2 : (W.cl i).under.isSome = true ∨ (W.cl i).gone = true
    · have e : W.begins i x wr v = (W, [-2]) := (if_neg hn1).trans (if_pos hn2)
      rw [e] at k
      have eb : (!((W.cl i).under.isNone && !(W.cl i).gone)) = true := by
        rcases hn2 with z | z
        · cases hun : (W.cl i).under with
          | none => rw [hun] at z; cases z
          | some _ => rfl
        · rw [z]
          cases (W.cl i).under <;> rfl
      rw [eb]
      exact iteT ⟨(by show 1 ≤ sizeLine; decide), k.ret wa⟩
    · rw [begins_is hn1 hn2] at k
      have hun : (W.cl i).under = none := by
        cases z : (W.cl i).under with
        | none => rfl
        | some _ => exact absurd (.inl (by rw [z]; rfl)) hn2
      have hg : (W.cl i).gone = false := by
        cases z : (W.cl i).gone with
        | false => rfl
        | true => exact absurd (.inr z) hn2
      have eb : (!((W.cl i).under.isNone && !(W.cl i).gone)) = false := by rw [hun, hg]; rfl
      rw [eb]
      rw [hun] at hu
      obtain rfl : u = .non := hu
      refine iteF ⟨_, rfl, _, _, _, _, _, rfl, hc1, T.cl_Client, T.na_Client_begun, F_Client_begun, _, _, rfl, rfl, _, rfl, _, _, _, _, rfl, hc1, T.cl_Client, T.na_Client_begun, F_Client_len, ?_⟩
      rw [F_Client_put_begun]
      have w1 := wa.client (o := .ins A.c_Client dc (F_Client (.int (((W.cl i).begun + 1 : Nat) : Int)) (.bl (W.cl i).gone) .non)) hca tc (c := ⟨(W.cl i).begun + 1, (W.cl i).gone, none⟩) ⟨dc, .non, tc, upd_same, rfl⟩
      have e1 : Evo L.tg L.tg H (upd H ca (.ins A.c_Client dc (F_Client (.int (((W.cl i).begun + 1 : Nat) : Int)) (.bl (W.cl i).gone) .non))) := Evo.upd hc1 (by rw [tc]; simp)
      have hca1 : upd H ca (.ins A.c_Client dc (F_Client (.int (((W.cl i).begun + 1 : Nat) : Int)) (.bl (W.cl i).gone) .non)) ca = _ := upd_same
      generalize hH1 : upd H ca (.ins A.c_Client dc (F_Client (.int (((W.cl i).begun + 1 : Nat) : Int)) (.bl (W.cl i).gone) .non)) = H1 at w1 e1 hca1
      have hH1' : upd H ca (.ins A.c_Client dc (F_Client (.int ((((W.cl i).begun : Nat) : Int) + 1)) (.bl (W.cl i).gone) .non)) = H1 := hH1
      rw [hH1']
      obtain ⟨dw1, hob1⟩ := w1.ob
      refine ⟨_, rfl, _, rfl, _, _, _, _, _, rfl, hca1, T.cl_Client, T.na_Client_begun, F_Client_begun, _, rfl, _, rfl, _, rfl, _, rfl, L.p, dw1, _, rfl, hob1, F_World_m_next_event, L, _, rfl, w1, fun H2 w2 e2 => fun x' d nx nd ne => ?_⟩
      refine ⟨x', d, _, _, _, _, _, _, rfl, upd_same, fun h t q H3 nh nt nq hht hhq htq hx hh ht hq kp => ⟨rfl, ?_⟩⟩
      have s3 : Same H2 H3 := Same.made nx nd kp
      have nh2 := upd_none _ (upd_none _ nh)
      have nt2 := upd_none _ (upd_none _ nt)
      have nq2 := upd_none _ (upd_none _ nq)
      have hl4 : i < W.clients.length := (List.getElem?_eq_some_iff.mp hcl).1
      have hcl2 : ({ { W with clients := W.clients.set i ⟨(W.cl i).begun + 1, (W.cl i).gone, none⟩ } with events := W.events + 1 } : MW).clients[i]? = some ⟨(W.cl i).begun + 1, (W.cl i).gone, none⟩ := by
        show (W.clients.set i _)[i]? = _
        rw [List.getElem?_set_self hl4]
      obtain ⟨dc2, u2, tc2, hc2, hu2⟩ := w2.ac.at_ i ca _ hca hcl2
      obtain rfl : u2 = .non := hu2
      have hlen : W.ops.length = L.oa.length := w2.ao.len.symm
      obtain ⟨dw2, hob2⟩ := w2.ob
      obtain ⟨w5, e5⟩ := begun_at (cell := x) (v := v) (wr := wr) hlen hi w2 s3 nx nh2 nt2 nq2 hht hhq htq hx hh ht hq hca tc2 hc2
      refine ⟨_, rfl, _, rfl, ca, _, dc2, _, rfl, s3 _ _ hc2, T.cl_Client, T.na_Client_under_way, F_Client_len, ?_⟩
      rw [F_Client_put_under_way]
      have npc : L.p ≠ ca := fun z => by
        have := w2.tp
        rw [z, tc2] at this
        simp at this
      have nlc : L.lo ≠ ca := fun z => by
        have := w2.to_
        rw [z, tc2] at this
        simp at this
      refine ⟨_, rfl, _, _, _, _, _, rfl, (Eq.trans (upd_ne npc) (s3 _ _ hob2)), T.cl_World, T.na_World_record, F_World_record, .inl ⟨rfl, _, SqL.of (Eq.trans (upd_ne nlc) (s3 _ _ w2.ho))⟩, _, rfl, L.lo, _, _, rfl, rfl, Eq.trans (upd_ne nlc) (s3 _ _ w2.ho), ?_, ?_⟩
      · rw [List.length_map, ← hlen]
        exact Nat.lt_of_le_of_lt hops (by decide)
      have eo : L.oa.map V.ref ++ [V.ref x'] = (L.oa ++ [x']).map V.ref := by rw [List.map_append]; rfl
      rw [eo]
      have e15 := (e1.trans e2).trans e5
      generalize hH5 : begH A L H3 ca dc2 x' ((W.cl i).begun + 1) (W.cl i).gone = H5 at w5 e5 e15
      have hH5' : upd (upd H3 ca (.ins A.c_Client dc2 (F_Client (.int (((W.cl i).begun + 1 : Nat) : Int)) (.bl (W.cl i).gone) (.ref x')))) L.lo (.lst ((L.oa ++ [x']).map V.ref)) = H5 := hH5
      rw [hH5']
      have hoa5 : (L.oa ++ [x'])[W.ops.length]? = some x' := by
        rw [hlen, List.getElem?_append_right (Nat.le_refl _), Nat.sub_self]
        rfl
      have hop5 : (W.begun1 i x wr v).ops[W.ops.length]? = some (W.newOp i x wr v) := by
        show (W.ops ++ [W.newOp i x wr v])[W.ops.length]? = _
        rw [List.getElem?_append_right (Nat.le_refl _), Nat.sub_self]
        rfl
      obtain ⟨dw5, hob5⟩ := w5.ob
      refine ⟨_, rfl, L.p, dw5, _, rfl, hob5, F_World_m_send_to_missing, _, rfl, { L with oa := L.oa ++ [x'], tg := tag4 L.tg W.ops.length x' h t q }, W.begun1 i x wr v, x', W.ops.length, W.newOp i x wr v, rfl, w5, ok.row, ok.nlen, hoa5, hop5, fun la H6 w6 e6 => ?_⟩
      have hop6 : ((W.begun1 i x wr v).sendTo (W.newOp i x wr v)).ops[W.ops.length]? = some (W.newOp i x wr v) := by
        unfold MW.sendTo
        rw [sends_ops]
        exact hop5
      obtain ⟨dx6, x6, t6, q6, wv6, ts6, u1, g1, g2⟩ := w6.ao.at_ W.ops.length x' _ hoa5 hop6
      refine ⟨_, rfl, _, _, _, _, _, rfl, g1, T.cl_Operation, T.na_Operation_number, F_Operation_number, (by show 1 ≤ sizeLine; decide), ?_⟩
      exact (k.move (L1 := { { L with oa := L.oa ++ [x'], tg := tag4 L.tg W.ops.length x' h t q } with la := la }) rfl (e15.trans e6)).ret w6
theorem ok_World_read (T : Txt K mg A) : MtG P w K mg base A.c_World "read" 6 ["self", "client", "cell"] (sp_read A) := by
  have G_World_begin_operation := ok_World_begin_operation (P := P) (w := w) (base := base) T
  obtain ⟨f_World_begin_operation, d_World_begin_operation, c_World_begin_operation, m_World_begin_operation, b_World_begin_operation, F_World_begin_operation⟩ := G_World_begin_operation.ex
  refine mk_World_read T (fun vs H Q E h => ?_) (fun f cdv B outer s H vs Q E hr h => ?_)
  · obtain ⟨L, W, i, x, rfl, _⟩ := h
    rfl
  · obtain ⟨L, W, i, x, rfl, wa, ok, hops, k⟩ := h
    obtain ⟨dw, hob⟩ := wa.ob
    refine ⟨_, (pss_one (ps_ret (pe_meth (pv 0) c_World_begin_operation m_World_begin_operation F_World_begin_operation (hr.mono (by decide)) b_World_begin_operation .nil pass0 (pa_cons (pv 1) (pa_cons (pv 2) (pa_cons pe_bl (pa_cons pe_int pa_nil))))))), ?_⟩
    exact ⟨_, rfl, L.p, dw, _, rfl, hob, F_World_m_begin_operation, _, rfl, _, rfl, L, W, i, x, 0, false, rfl, wa, ok, hops, k⟩
theorem ok_World_write (T : Txt K mg A) : MtG P w K mg base A.c_World "write" 6 ["self", "client", "cell", "value"] (sp_write A) := by
  have G_World_begin_operation := ok_World_begin_operation (P := P) (w := w) (base := base) T
  obtain ⟨f_World_begin_operation, d_World_begin_operation, c_World_begin_operation, m_World_begin_operation, b_World_begin_operation, F_World_begin_operation⟩ := G_World_begin_operation.ex
  refine mk_World_write T (fun vs H Q E h => ?_) (fun f cdv B outer s H vs Q E hr h => ?_)
  · obtain ⟨L, W, i, x, v, rfl, _⟩ := h
    rfl
  · obtain ⟨L, W, i, x, v, rfl, wa, ok, hops, k⟩ := h
    obtain ⟨dw, hob⟩ := wa.ob
    refine ⟨_, (pss_one (ps_ret (pe_meth (pv 0) c_World_begin_operation m_World_begin_operation F_World_begin_operation (hr.mono (by decide)) b_World_begin_operation .nil pass0 (pa_cons (pv 1) (pa_cons (pv 2) (pa_cons pe_bl (pa_cons (pv 3) pa_nil))))))), ?_⟩
    exact ⟨_, rfl, L.p, dw, _, rfl, hob, F_World_m_begin_operation, _, rfl, _, rfl, _, rfl, L, W, i, x, v, true, rfl, wa, ok, hops, k⟩
end
end Cb

namespace Cb
open PySem L2
open Ag02 (Copy Letter above same zero)
section
variable {P : Program} {w : World} {K : PySem.W.Frag} {mg : Str → Option Value} {base : Heap} {A : Adr}
/-! ### a world is made -/
def tag1 (τ : Addr → Tag) (x : Addr) (t : Tag) : Addr → Tag := fun z => if z = x then t else τ z
theorem tag1_at {τ : Addr → Tag} {x : Addr} {t : Tag} : tag1 τ x t x = t := if_pos rfl
theorem tag1_ne {τ : Addr → Tag} {x z : Addr} {t : Tag} (h : z ≠ x) : tag1 τ x t z = τ z := if_neg h
structure Own (A : Adr) (H0 : Hp) (p dx : Addr) (fs : List (Str × V)) (τ : Addr → Tag) (H : Hp) : Prop where
  ob : H p = some (.ins A.c_World dx fs)
  tp : τ p = (1, 0)
  old : ∀ b o, H0 b = some o → b ≠ p → H b = some o ∧ τ b = (0, 0)
  fr : ∀ b, H b = none → τ b = (0, 0)
section
variable {H0 H H' : Hp} {p dx x : Addr} {fs : List (Str × V)} {τ : Addr → Tag} {t : Tag} {o : HO}
theorem Own.new (u : Own A H0 p dx fs τ H) (hx : H x = none) : Own A H0 p dx fs (tag1 τ x t) (upd H x o) := by
  have np : p ≠ x := ne_of_none u.ob hx
  refine ⟨by rw [upd_ne np]; exact u.ob, by rw [tag1_ne np]; exact u.tp, fun b v hb hp => ?_, fun b hb => ?_⟩
  · obtain ⟨h1, h2⟩ := u.old b v hb hp
    have nb : b ≠ x := ne_of_none h1 hx
    exact ⟨by rw [upd_ne nb]; exact h1, by rw [tag1_ne nb]; exact h2⟩
  · have nb : b ≠ x := fun q => by
      rw [q, upd_same] at hb
      cases hb
    rw [upd_ne nb] at hb
    rw [tag1_ne nb]
    exact u.fr b hb
theorem Own.chg (u : Own A H0 p dx fs τ H) (tx : τ x = t) (h0 : t ≠ (0, 0)) (h1 : t ≠ (1, 0)) : Own A H0 p dx fs τ (upd H x o) := by
  refine ⟨by rw [upd_ne (fun q => h1 (by rw [← tx, ← q]; exact u.tp))]; exact u.ob, u.tp, fun b v hb hp => ?_, fr_upd u.fr⟩
  obtain ⟨g1, g2⟩ := u.old b v hb hp
  exact ⟨by rw [upd_ne (fun q => h0 (by rw [← tx, ← q]; exact g2))]; exact g1, g2⟩
theorem Own.put (u : Own A H0 p dx fs τ H) {fs' : List (Str × V)} : Own A H0 p dx fs' τ (upd H p (.ins A.c_World dx fs')) := by
  refine ⟨upd_same, u.tp, fun b v hb hp => ?_, fr_upd u.fr⟩
  obtain ⟨g1, g2⟩ := u.old b v hb hp
  exact ⟨by rw [upd_ne hp]; exact g1, g2⟩
theorem Own.same (u : Own A H0 p dx fs τ H) (s : Same H H') : Own A H0 p dx fs τ H' :=
  ⟨s _ _ u.ob, u.tp, fun b v hb hp => ⟨s _ _ (u.old b v hb hp).1, (u.old b v hb hp).2⟩, fun b hb => u.fr b (s.free hb)⟩
theorem mv_new {S : Tag → Prop} (hx : H x = none) : Mv S τ (tag1 τ x t) H (upd H x o) := fun b u hb _ => by
  have nb : b ≠ x := ne_of_none hb hx
  exact ⟨by rw [upd_ne nb]; exact hb, tag1_ne nb⟩
theorem mv_tag {S : Tag → Prop} (hx : H x = none) (s : Same H H') : Mv S τ (tag1 τ x t) H H' := fun b u hb _ => ⟨s _ _ hb, tag1_ne (ne_of_none hb hx)⟩
/-- an object that was new gets its tag -/
theorem Own.tag (u : Own A H0 p dx fs τ H) (hx : H x = none) (s : Same H H') {v : HO} (hv : H' x = some v) : Own A H0 p dx fs (tag1 τ x t) H' := by
  have np : p ≠ x := ne_of_none u.ob hx
  refine ⟨s _ _ u.ob, by rw [tag1_ne np]; exact u.tp, fun b v hb hp => ?_, fun b hb => ?_⟩
  · obtain ⟨h1, h2⟩ := u.old b v hb hp
    exact ⟨s _ _ h1, by rw [tag1_ne (ne_of_none h1 hx)]; exact h2⟩
  · rw [tag1_ne (fun q => by rw [q, hv] at hb; cases hb)]
    exact u.fr b (s.free hb)
end
def NodesAt (A : Adr) (τ : Addr → Tag) (H : Hp) (D : Addr) (na : List Addr) (ns : List MNode) : Prop := H D = some (.lst (na.map V.ref)) ∧ τ D = (12, 0) ∧ Al (NodeAt A τ H) na ns
def ClsAt (A : Adr) (τ : Addr → Tag) (H : Hp) (D : Addr) (ca : List Addr) (cs : List MClient) : Prop := H D = some (.lst (ca.map V.ref)) ∧ τ D = (13, 0) ∧ Al (ClAt A τ H []) ca cs
theorem NodesAt.mv {S : Tag → Prop} {τ τ' : Addr → Tag} {H H' : Hp} {D : Addr} {na : List Addr} {ns : List MNode} (h : NodesAt A τ H D na ns) (m : Mv S τ τ' H H') (s0 : S (0, 0)) (s12 : S (12, 0)) (s4 : ∀ i, S (4, i)) (s5 : ∀ i, S (5, i)) : NodesAt A τ' H' D na ns := by
  obtain ⟨h1, t1, al⟩ := h
  obtain ⟨g1, g2⟩ := m _ _ h1 (by rw [t1]; exact s12)
  exact ⟨g1, g2.trans t1, al.imp fun i _ _ _ _ r => r.mv m s0 (s4 i) (s5 i)⟩
theorem ClsAt.mv {S : Tag → Prop} {τ τ' : Addr → Tag} {H H' : Hp} {D : Addr} {na : List Addr} {ns : List MClient} (h : ClsAt A τ H D na ns) (m : Mv S τ τ' H H') (s13 : S (13, 0)) (s6 : ∀ i, S (6, i)) : ClsAt A τ' H' D na ns := by
  obtain ⟨h1, t1, al⟩ := h
  obtain ⟨g1, g2⟩ := m _ _ h1 (by rw [t1]; exact s13)
  exact ⟨g1, g2.trans t1, al.imp fun i _ _ _ _ r => r.mv m (s6 i)⟩
def mkN (n : Nat) : MNode := ⟨n, true, [zero, zero, zero]⟩
def sp_world (A : Adr) : Sp := fun vs H Q _ => ∃ (p dx l : Addr) (ws : List Nat), vs = [.ref p, .ref l] ∧ H p = some (.ins A.c_World dx []) ∧ H l = some (.lst (nsV ws)) ∧ ws.length ≤ 1000 ∧
  ∀ (L : Lay) (H' : Hp), L.p = p → WAt A L H' (freshW ws) → (∀ b o, H b = some o → b ≠ p → H' b = some o ∧ L.tg b = (0, 0)) → Q .non H'
theorem ok_World_init (T : Txt K mg A) : MkG P w K mg base "World" A.c_World 3 ["self", "weights"] (sp_world A) := by
  have G_Node_init := ok_Node_init (P := P) (w := w) (base := base) T
  have G_Client_init := ok_Client_init (P := P) (w := w) (base := base) T
  obtain ⟨f_Node_init, d_Node_init, M_Node_init, h_Node_init, b_Node_init, F_Node_init⟩ := G_Node_init.ex
  obtain ⟨f_Client_init, d_Client_init, M_Client_init, h_Client_init, b_Client_init, F_Client_init⟩ := G_Client_init.ex
  refine mk_World_init T (fun vs H Q E h => ?_) (fun f cdv B outer s H vs Q E hr h => ?_)
  · obtain ⟨p, dx, l, ws, rfl, _⟩ := h
    rfl
  · obtain ⟨p, dx, l, ws, rfl, hp, hl, hws, k⟩ := h
    have npl : l ≠ p := ne_of hl hp (by intro q; cases q)
    have u0 : Own A H p dx [] (tag1 (fun _ => (0, 0)) p (1, 0)) H := ⟨hp, tag1_at, fun b o hb hbp => ⟨hb, tag1_ne hbp⟩, fun b hb => tag1_ne fun q => by rw [q, hp] at hb; cases hb⟩
    refine ⟨_, (pss_cons (ps_fld (pv 0) (pe_lc (own := [("weight", 2)]) rfl sc_World_init.nd (pi_list (pv 1)) (blkOk_by (N := n_World_init) (sc := defScope s_World_init) (by decide +kernel)) (fun _ _ _ _ _ => pg_name (i := 2) sc_World_init.nd rfl (Or.inl rfl)) (fun _ _ _ _ _ => pts_nil) (fun _ _ _ _ _ => (pe_make M_Node_init F_Node_init (hr.mono (by decide)) (by rfl) h_Node_init b_Node_init .nil pass0 (pa_cons (pv 2) pa_nil)))) rfl)
      (pss_cons (ps_fld (pv 0) (pe_lc (own := [("client", 3)]) rfl sc_World_init.nd (pi_range1 (by rfl) T.b_range (pa_cons (pe_gint rfl T.g_CLIENTS) pa_nil)) (blkOk_by (N := n_World_init) (sc := defScope s_World_init) (by decide +kernel)) (fun _ _ _ _ _ => pg_name (i := 3) sc_World_init.nd rfl (Or.inl rfl)) (fun _ _ _ _ _ => pts_nil) (fun _ _ _ _ _ => (pe_make0 M_Client_init F_Client_init (hr.mono (by decide)) (by rfl) h_Client_init b_Client_init .nil pass0))) rfl)
      (pss_cons (ps_fld (pv 0) (pe_lst pa_nil) rfl)
      (pss_cons (ps_fld (pv 0) (pe_lst pa_nil) rfl)
      (pss_one (ps_fld (pv 0) pe_int rfl)))))), ?_⟩
    refine ⟨_, rfl, l, rfl, ⟨_, SqL.of hl⟩, fun D hD => lc_list (K := K) (xs := nsV ws) (fun i H' => ∃ (na : List Addr) (τ : Addr → Tag), Own A H p dx [] τ H' ∧ NodesAt A τ H' D na ((ws.take i).map mkN)) ⟨[], _, u0.new (t := (12, 0)) hD, upd_same, tag1_at, Al.nil⟩ (fun i H' _ ⟨_, _, u, _⟩ => SqL.of (u.old _ _ hl npl).1) ?_ ?_⟩
    · rintro i y H1 hi ⟨na, τ, u, hD1, tD, al⟩
      obtain ⟨wn, hwn, rfl⟩ := map_get hi
      have hil : i < ws.length := (List.getElem?_eq_some_iff.mp hwn).1
      refine ⟨rfl, tyes ?_⟩
      refine ⟨_, rfl, fun x d nx nd ne => ?_⟩
      refine ⟨x, d, _, rfl, upd_same, fun lc H2 nl nlx hx hlc kp => ⟨rfl, na.map V.ref, ?_, ?_, ?_⟩⟩
      · exact Same.made nx nd kp _ _ hD1
      · have := al.len
        rw [List.length_map, List.length_take] at this
        rw [List.length_map, this]
        exact sz1000 (by omega)
      · have s2 : Same H1 H2 := Same.made nx nd kp
        have nl1 : H1 lc = none := upd_none _ (upd_none _ nl)
        have nDx : x ≠ D := fun q => by rw [q, hD1] at nx; cases nx
        have nDl : lc ≠ D := fun q => by rw [q, hD1] at nl1; cases nl1
        have nlen : na.length = i := by
          have := al.len
          rw [List.length_map, List.length_take] at this
          omega
        have m1 : Mv (fun _ => True) τ (tag1 (tag1 τ x (4, i)) lc (5, i)) H1 H2 := fun b o hb _ => ⟨s2 _ _ hb, by rw [tag1_ne (ne_of_none hb nl1), tag1_ne (ne_of_none hb nx)]⟩
        have m2 : Mv (· ≠ (12, 0)) τ (tag1 (tag1 τ x (4, i)) lc (5, i)) H1 (upd H2 D (.lst (na.map V.ref ++ [V.ref x]))) := fun b o hb hs => by
          obtain ⟨g1, g2⟩ := m1 b o hb trivial
          exact ⟨by rw [upd_ne (fun q => hs (by rw [q]; exact tD))]; exact g1, g2⟩
        have tx : tag1 (tag1 τ x (4, i)) lc (5, i) x = (4, i) := by rw [tag1_ne nlx.symm, tag1_at]
        have tD' : tag1 (tag1 τ x (4, i)) lc (5, i) D = (12, 0) := by rw [tag1_ne nDl.symm, tag1_ne nDx.symm]; exact tD
        refine ⟨na ++ [x], tag1 (tag1 τ x (4, i)) lc (5, i), ?_, ?_, tD', ?_⟩
        · refine Own.chg (t := (12, 0)) ⟨s2 _ _ u.ob, ?_, fun b o hb hbp => ?_, fun b hb => ?_⟩ tD' (by simp) (by simp)
          · exact (m1 _ _ u.ob trivial).2.trans u.tp
          · obtain ⟨g1, g2⟩ := u.old b o hb hbp
            exact ⟨s2 _ _ g1, (m1 _ _ g1 trivial).2.trans g2⟩
          · rw [tag1_ne (fun q => by rw [q, hlc] at hb; cases hb), tag1_ne (fun q => by rw [q, hx] at hb; cases hb)]
            exact u.fr b (s2.free hb)
        · rw [upd_same, List.map_append]
          rfl
        · rw [take_more hwn, List.map_append]
          refine Al.push (al.imp fun j _ _ _ _ r => r.mv m2 (by simp) (by simp) (by simp)) ?_
          rw [nlen]
          refine ⟨d, lc, [A.z_ZERO_COPY, A.z_ZERO_COPY, A.z_ZERO_COPY], tx, by rw [upd_ne nDx]; exact hx, tag1_at, by rw [upd_ne nDl]; exact hlc, ?_⟩
          refine ⟨rfl, fun j a c hj hc => ?_⟩
          have ha : a = A.z_ZERO_COPY := by
            have := List.mem_of_getElem? hj
            simp at this
            exact this
          have hz : c = zero := by
            have : c ∈ [zero, zero, zero] := List.mem_of_getElem? hc
            simp at this
            exact this
          exact .inl ⟨ha, hz⟩
    · rintro H1 ⟨na, τ, u, hN⟩
      have eN : (ws.take (nsV ws).length).map mkN = ws.map mkN := by
        rw [List.take_of_length_le (by unfold nsV; rw [List.length_map]; omega)]
      rw [eN] at hN
      refine ⟨_, rfl, p, _, dx, _, rfl, u.ob, T.cl_World, T.na_World_nodes, (show 0 < 1000 by decide), ?_⟩
      rw [F_World_new_nodes]
      have u1 := u.put (fs' := [("nodes", V.ref D)])
      have hN1 := hN.mv (Mv.upd (H := H1) (o := .ins A.c_World dx [("nodes", V.ref D)]) u.tp) (by simp) (by simp) (by simp) (by simp)
      generalize hG1 : upd H1 p (.ins A.c_World dx [("nodes", V.ref D)]) = G1 at u1 hN1
      refine ⟨4, rfl, by decide, by decide, fun D2 hD2 => lc_range (lo := 0) (n := 4) (fun i H' => ∃ (ca : List Addr) (τ : Addr → Tag), Own A H p dx [("nodes", V.ref D)] τ H' ∧ NodesAt A τ H' D na (ws.map mkN) ∧ ClsAt A τ H' D2 ca (List.replicate i ⟨0, false, none⟩)) ⟨[], _, u1.new (t := (13, 0)) hD2, hN1.mv (S := fun _ => True) (mv_new hD2) trivial trivial (fun _ => trivial) (fun _ => trivial), upd_same, tag1_at, Al.nil⟩ ?_ ?_⟩
      · rintro i H2 hi ⟨ca, τ2, u2, hN2, hD3, tD2, al2⟩
        refine ⟨rfl, tyes ?_⟩
        refine fun x d nx nd ne => ⟨x, d, upd H2 d (.own x), rfl, rfl, rfl, ca.map V.ref, ?_, ?_, ?_⟩
        · rw [upd_ne (ne_of_none hD3 nx), upd_ne (ne_of_none hD3 nd)]
          exact hD3
        · have := al2.len
          rw [List.length_replicate] at this
          rw [List.length_map, this]
          exact sz1000 (by omega)
        · have s3 : Same H2 (upd (upd H2 d (.own x)) x (.ins A.c_Client d (F_Client (.int 0) (.bl false) .non))) := Same.upd2 (Same.upd nd) (by rw [upd_ne fun q => ne q.symm]; exact nx)
          have hx : upd (upd H2 d (.own x)) x (.ins A.c_Client d (F_Client (.int 0) (.bl false) .non)) x = _ := upd_same
          generalize hG3 : upd (upd H2 d (.own x)) x (.ins A.c_Client d (F_Client (.int 0) (.bl false) .non)) = G3 at s3 hx
          have nDx : x ≠ D2 := fun q => by rw [q, hD3] at nx; cases nx
          have clen : ca.length = i := by
            have := al2.len
            rw [List.length_replicate] at this
            exact this
          have u3 := u2.tag (t := (6, i)) nx s3 hx
          have m3 : Mv (fun _ => True) τ2 (tag1 τ2 x (6, i)) H2 G3 := mv_tag nx s3
          have tD3 : tag1 τ2 x (6, i) D2 = (13, 0) := by rw [tag1_ne nDx.symm]; exact tD2
          have m4 : Mv (· ≠ (13, 0)) τ2 (tag1 τ2 x (6, i)) H2 (upd G3 D2 (.lst (ca.map V.ref ++ [V.ref x]))) := fun b o hb hs => by
            obtain ⟨g1, g2⟩ := m3 b o hb trivial
            exact ⟨by rw [upd_ne (fun q => hs (by rw [q]; exact tD2))]; exact g1, g2⟩
          refine ⟨ca ++ [x], tag1 τ2 x (6, i), u3.chg tD3 (by simp) (by simp), hN2.mv m4 (by simp) (by simp) (by simp) (by simp), ?_, tD3, ?_⟩
          · rw [upd_same, List.map_append]
            rfl
          · rw [← rep_push]
            refine Al.push (al2.imp fun j _ _ _ _ r => r.mv m4 (by simp)) ?_
            rw [clen]
            exact ⟨d, .non, tag1_at, by rw [upd_ne nDx]; exact hx, rfl⟩
      · rintro H2 ⟨ca, τ2, u2, hN2, hC2⟩
        refine ⟨_, rfl, p, _, dx, _, rfl, u2.ob, T.cl_World, T.na_World_clients, (show 1 < 1000 by decide), ?_⟩
        rw [F_World_new_clients]
        have u3 := u2.put (fs' := [("nodes", V.ref D), ("clients", V.ref D2)])
        have hN3 := hN2.mv (Mv.upd (H := H2) (o := .ins A.c_World dx [("nodes", V.ref D), ("clients", V.ref D2)]) u2.tp) (by simp) (by simp) (by simp) (by simp)
        have hC3 := hC2.mv (Mv.upd (H := H2) (o := .ins A.c_World dx [("nodes", V.ref D), ("clients", V.ref D2)]) u2.tp) (by simp) (by simp)
        generalize hG3 : upd H2 p (.ins A.c_World dx [("nodes", V.ref D), ("clients", V.ref D2)]) = G3 at u3 hN3 hC3
        -- self.row = []
        refine ⟨Nat.zero_le _, fun lr hlr => ?_⟩
        have u4 := u3.new (t := (2, 0)) (o := .lst []) hlr
        have hN4 := hN3.mv (S := fun _ => True) (mv_new (t := (2, 0)) (o := .lst []) hlr) trivial trivial (fun _ => trivial) (fun _ => trivial)
        have hC4 := hC3.mv (S := fun _ => True) (mv_new (t := (2, 0)) (o := .lst []) hlr) trivial (fun _ => trivial)
        have r4 : upd G3 lr (.lst []) lr = some (.lst []) := upd_same
        have tr4 : tag1 τ2 lr (2, 0) lr = (2, 0) := tag1_at
        generalize hG4 : upd G3 lr (.lst []) = G4 at u4 hN4 hC4 r4
        generalize hτ4 : tag1 τ2 lr (2, 0) = τ4 at u4 hN4 hC4 tr4
        refine ⟨_, rfl, p, _, dx, _, rfl, u4.ob, T.cl_World, T.na_World_row, (show 2 < 1000 by decide), ?_⟩
        rw [F_World_new_row]
        have u5 := u4.put (fs' := [("nodes", V.ref D), ("clients", V.ref D2), ("row", V.ref lr)])
        have m5 : Mv (· ≠ (1, 0)) τ4 τ4 G4 (upd G4 p (.ins A.c_World dx [("nodes", V.ref D), ("clients", V.ref D2), ("row", V.ref lr)])) := Mv.upd u4.tp
        have hN5 := hN4.mv m5 (by simp) (by simp) (by simp) (by simp)
        have hC5 := hC4.mv m5 (by simp) (by simp)
        have r5 := (m5 _ _ r4 (by rw [tr4]; simp)).1
        generalize hG5 : upd G4 p (.ins A.c_World dx [("nodes", V.ref D), ("clients", V.ref D2), ("row", V.ref lr)]) = G5 at u5 hN5 hC5 r5 m5
        -- self.record = []
        refine ⟨Nat.zero_le _, fun lo hlo => ?_⟩
        have u6 := u5.new (t := (3, 0)) (o := .lst []) hlo
        have m6 : Mv (fun _ => True) τ4 (tag1 τ4 lo (3, 0)) G5 (upd G5 lo (.lst [])) := mv_new hlo
        have hN6 := hN5.mv m6 trivial trivial (fun _ => trivial) (fun _ => trivial)
        have hC6 := hC5.mv m6 trivial (fun _ => trivial)
        have r6 := m6 _ _ r5 trivial
        have tr6 := r6.2.trans tr4
        have o6 : upd G5 lo (.lst []) lo = some (.lst []) := upd_same
        have to6 : tag1 τ4 lo (3, 0) lo = (3, 0) := tag1_at
        have r6 := r6.1
        generalize hG6 : upd G5 lo (.lst []) = G6 at u6 hN6 hC6 r6 o6 m6
        generalize hτ6 : tag1 τ4 lo (3, 0) = τ6 at u6 hN6 hC6 tr6 to6 m6
        refine ⟨_, rfl, p, _, dx, _, rfl, u6.ob, T.cl_World, T.na_World_record, (show 3 < 1000 by decide), ?_⟩
        refine ⟨_, rfl, p, _, dx, _, rfl, upd_same, T.cl_World, T.na_World_events, ?_, ?_⟩
        · rw [F_World_new_record]
          exact (show 4 < 1000 by decide)
        rw [upd_upd, F_World_new_record, F_World_new_events]
        have u7 := u6.put (fs' := [("nodes", V.ref D), ("clients", V.ref D2), ("row", V.ref lr), ("record", V.ref lo), ("events", .int 0)])
        have m7 : Mv (· ≠ (1, 0)) τ6 τ6 G6 (upd G6 p (.ins A.c_World dx [("nodes", V.ref D), ("clients", V.ref D2), ("row", V.ref lr), ("record", V.ref lo), ("events", .int 0)])) := Mv.upd u6.tp
        have hN7 := hN6.mv m7 (by simp) (by simp) (by simp) (by simp)
        have hC7 := hC6.mv m7 (by simp) (by simp)
        have r7 := (m7 _ _ r6 (by rw [tr6]; simp)).1
        have o7 := (m7 _ _ o6 (by rw [to6]; simp)).1
        refine k ⟨p, D, D2, lr, lo, na, ca, [], [], τ6⟩ _ rfl ⟨u7.tp, tr6, to6, hN7.2.1, hC7.2.1, ⟨dx, u7.ob⟩, hN7.1, hC7.1, r7, o7, hN7.2.2, hC7.2.2, Al.nil, Al.nil, u7.fr⟩ (fun b o hb hbp => u7.old b o hb hbp)
end
end Cb

/-! The calls as one list of numbers. -/
namespace Cb
open Ag02 (Copy Letter above same zero)
theorem whole_id (c : List (List Int)) : PyAg02.whole c = c := by
  unfold PyAg02.whole
  split <;> rfl
/-- how many numbers stand behind a call's own -/
def arity (p : Int) : Option Nat := if p = 1 then some 2 else if p = 2 then some 3 else if p = 3 then some 1 else if p = 4 then some 1 else if p = 5 then some 1 else if p = 6 then some 1 else if p = 7 then some 1 else if p = 8 then some 1 else if p = 9 then some 1
  else if p = 10 then some 0 else if p = 11 then some 1 else if p = 12 then some 1 else if p = 13 then some 0 else none
theorem shape_eq {p : Int} (h : p ≠ 0) : PyAg02.shape p = (arity p).map fun m => (m, 0) := by
  by_cases h1 : p = 1
  · subst h1
    rfl
  by_cases h2 : p = 2
  · subst h2
    rfl
  by_cases h3 : p = 3
  · subst h3
    rfl
  by_cases h4 : p = 4
  · subst h4
    rfl
  by_cases h5 : p = 5
  · subst h5
    rfl
  by_cases h6 : p = 6
  · subst h6
    rfl
  by_cases h7 : p = 7
  · subst h7
    rfl
  by_cases h8 : p = 8
  · subst h8
    rfl
  by_cases h9 : p = 9
  · subst h9
    rfl
  by_cases h10 : p = 10
  · subst h10
    rfl
  by_cases h11 : p = 11
  · subst h11
    rfl
  by_cases h12 : p = 12
  · subst h12
    rfl
  by_cases h13 : p = 13
  · subst h13
    rfl
  unfold PyAg02.shape arity
  rw [if_neg h, if_neg h1, if_neg h2, if_neg h3, if_neg h4, if_neg h5, if_neg h6, if_neg h7, if_neg h8, if_neg h9, if_neg h10, if_neg h11, if_neg h12, if_neg h13, if_neg h1, if_neg h2, if_neg h3, if_neg h4, if_neg h5, if_neg h6, if_neg h7, if_neg h8, if_neg h9, if_neg h10, if_neg h11, if_neg h12, if_neg h13]
  rfl
theorem call_cases {l : List Int} {c : List (List Int)} {t : List Int} (h : PyFlat.call PyAg02.shape l = some (c, t)) :
    (∃ (n : Nat) (r : List Int), l = 0 :: (n : Int) :: r ∧ n ≤ r.length ∧ c = [[0], r.take n] ∧ t = r.drop n) ∨
    (∃ (p : Int) (m : Nat) (r : List Int), l = p :: r ∧ p ≠ 0 ∧ arity p = some m ∧ m ≤ r.length ∧ c = [p :: r.take m] ∧ t = r.drop m) := by
  cases l with
  | nil => exact nomatch h
  | cons p r =>
    unfold PyFlat.call at h
    dsimp only at h
    by_cases hp : p = 0
    · subst hp
      have e : PyAg02.shape 0 = some (0, 1) := rfl
      rw [e] at h
      dsimp only at h
      rw [if_neg (by omega), List.drop_zero] at h
      unfold PyFlat.rows at h
      cases hr : PyFlat.row r with
      | none =>
        rw [hr] at h
        cases h
      | some q =>
        rw [hr] at h
        obtain ⟨x, s⟩ := q
        dsimp only [PyFlat.rows] at h
        have h := Option.some.inj h
        injection h with h1 h2
        subst h1
        subst h2
        cases r with
        | nil => exact nomatch hr
        | cons n r =>
          unfold PyFlat.row at hr
          dsimp only at hr
          split at hr
          · rename_i hn
            have hr := Option.some.inj hr
            injection hr with g1 g2
            subst g1
            subst g2
            refine .inl ⟨n.toNat, r, ?_, hn.2, rfl, rfl⟩
            rw [show ((n.toNat : Nat) : Int) = n by omega]
          · cases hr
    · rw [shape_eq hp] at h
      cases ha : arity p with
      | none =>
        rw [ha] at h
        cases h
      | some m =>
        rw [ha] at h
        dsimp only [Option.map] at h
        split at h
        · cases h
        · rename_i hm
          dsimp only [PyFlat.rows] at h
          have h := Option.some.inj h
          injection h with h1 h2
          subst h1
          subst h2
          exact .inr ⟨p, m, r, rfl, hp, ha, by omega, rfl, rfl⟩
/-- a call other than begin, as its numbers -/
inductive Flat : List Int → Ag02.Call → Prop
  | read (i x : Nat) : i ≤ 9 → x ≤ 9 → Flat [1, (i : Int), (x : Int)] (.read i x)
  | write (i x v : Nat) : i ≤ 9 → x ≤ 9 → v ≤ 200 → Flat [2, (i : Int), (x : Int), (v : Int)] (.write i x v)
  | take (k : Nat) : k ≤ 200 → Flat [3, (k : Int)] (.take k)
  | again (k : Nat) : k ≤ 200 → Flat [4, (k : Int)] (.again k)
  | lose (k : Nat) : k ≤ 200 → Flat [5, (k : Int)] (.lose k)
  | nudge (i : Nat) : i ≤ 9 → Flat [6, (i : Int)] (.nudge i)
  | quit (i : Nat) : i ≤ 9 → Flat [7, (i : Int)] (.quit i)
  | halt_ (i : Nat) : i ≤ 9 → Flat [8, (i : Int)] (.halt_ i)
  | start (i : Nat) : i ≤ 9 → Flat [9, (i : Int)] (.start i)
  | letters : Flat [10] .letters
  | node (i : Nat) : i ≤ 9 → Flat [11, (i : Int)] (.node i)
  | client (i : Nat) : i ≤ 9 → Flat [12, (i : Int)] (.client i)
  | record : Flat [13] .record
theorem flat_ne {c : List Int} {x : Ag02.Call} (h : Flat c x) : ∃ p r, c = p :: r ∧ p ≠ 0 := by
  cases h <;> exact ⟨_, _, rfl, by decide⟩
theorem within_nat {lo hi z : Int} (h : PyInside.within lo hi z = true) (h0 : lo = 0) : ∃ n : Nat, z = (n : Int) ∧ (n : Int) ≤ hi := by
  unfold PyInside.within at h
  rw [Bool.and_eq_true, decide_eq_true_eq, decide_eq_true_eq] at h
  exact ⟨z.toNat, by omega, by omega⟩
theorem take1 {r : List Int} (h : 1 ≤ r.length) : ∃ a, r.take 1 = [a] := by
  cases r with
  | nil => exact absurd h (by decide)
  | cons a r => exact ⟨a, rfl⟩
theorem take2 {r : List Int} (h : 2 ≤ r.length) : ∃ a b, r.take 2 = [a, b] := by
  match r, h with
  | a :: b :: r, _ => exact ⟨a, b, rfl⟩
theorem take3 {r : List Int} (h : 3 ≤ r.length) : ∃ a b c, r.take 3 = [a, b, c] := by
  match r, h with
  | a :: b :: c :: r, _ => exact ⟨a, b, c, rfl⟩
theorem arity_cases {p : Int} {m : Nat} (h : arity p = some m) : (p = 1 ∧ m = 2) ∨ (p = 2 ∧ m = 3) ∨ (p = 3 ∧ m = 1) ∨ (p = 4 ∧ m = 1) ∨ (p = 5 ∧ m = 1) ∨ (p = 6 ∧ m = 1) ∨ (p = 7 ∧ m = 1) ∨ (p = 8 ∧ m = 1) ∨ (p = 9 ∧ m = 1) ∨ (p = 10 ∧ m = 0) ∨ (p = 11 ∧ m = 1) ∨ (p = 12 ∧ m = 1) ∨ (p = 13 ∧ m = 0) := by
  by_cases h1 : p = 1
  · subst h1
    have e := Option.some.inj (show some 2 = some m from h)
    subst e
    exact .inl ⟨rfl, rfl⟩
  by_cases h2 : p = 2
  · subst h2
    have e := Option.some.inj (show some 3 = some m from h)
    subst e
    exact .inr (.inl ⟨rfl, rfl⟩)
  by_cases h3 : p = 3
  · subst h3
    have e := Option.some.inj (show some 1 = some m from h)
    subst e
    exact .inr (.inr (.inl ⟨rfl, rfl⟩))
  by_cases h4 : p = 4
  · subst h4
    have e := Option.some.inj (show some 1 = some m from h)
    subst e
    exact .inr (.inr (.inr (.inl ⟨rfl, rfl⟩)))
  by_cases h5 : p = 5
  · subst h5
    have e := Option.some.inj (show some 1 = some m from h)
    subst e
    exact .inr (.inr (.inr (.inr (.inl ⟨rfl, rfl⟩))))
  by_cases h6 : p = 6
  · subst h6
    have e := Option.some.inj (show some 1 = some m from h)
    subst e
    exact .inr (.inr (.inr (.inr (.inr (.inl ⟨rfl, rfl⟩)))))
  by_cases h7 : p = 7
  · subst h7
    have e := Option.some.inj (show some 1 = some m from h)
    subst e
    exact .inr (.inr (.inr (.inr (.inr (.inr (.inl ⟨rfl, rfl⟩))))))
  by_cases h8 : p = 8
  · subst h8
    have e := Option.some.inj (show some 1 = some m from h)
    subst e
    exact .inr (.inr (.inr (.inr (.inr (.inr (.inr (.inl ⟨rfl, rfl⟩)))))))
  by_cases h9 : p = 9
  · subst h9
    have e := Option.some.inj (show some 1 = some m from h)
    subst e
    exact .inr (.inr (.inr (.inr (.inr (.inr (.inr (.inr (.inl ⟨rfl, rfl⟩))))))))
  by_cases h10 : p = 10
  · subst h10
    have e := Option.some.inj (show some 0 = some m from h)
    subst e
    exact .inr (.inr (.inr (.inr (.inr (.inr (.inr (.inr (.inr (.inl ⟨rfl, rfl⟩)))))))))
  by_cases h11 : p = 11
  · subst h11
    have e := Option.some.inj (show some 1 = some m from h)
    subst e
    exact .inr (.inr (.inr (.inr (.inr (.inr (.inr (.inr (.inr (.inr (.inl ⟨rfl, rfl⟩))))))))))
  by_cases h12 : p = 12
  · subst h12
    have e := Option.some.inj (show some 1 = some m from h)
    subst e
    exact .inr (.inr (.inr (.inr (.inr (.inr (.inr (.inr (.inr (.inr (.inr (.inl ⟨rfl, rfl⟩)))))))))))
  by_cases h13 : p = 13
  · subst h13
    have e := Option.some.inj (show some 0 = some m from h)
    subst e
    exact .inr (.inr (.inr (.inr (.inr (.inr (.inr (.inr (.inr (.inr (.inr (.inr (⟨rfl, rfl⟩))))))))))))
  unfold arity at h
  rw [if_neg h1, if_neg h2, if_neg h3, if_neg h4, if_neg h5, if_neg h6, if_neg h7, if_neg h8, if_neg h9, if_neg h10, if_neg h11, if_neg h12, if_neg h13] at h
  cases h
theorem in1 {p lo hi : Int} {a : Int} (h : PyInside.call PyAg02.bound [[p, a]] = true) (hb : PyAg02.bound p = ([(lo, hi)], [])) : PyInside.within lo hi a = true := by
  unfold PyInside.call at h
  dsimp only at h
  rw [hb] at h
  simp [PyInside.each, PyInside.lists] at h
  exact h
theorem flat_of {p : Int} {m : Nat} {r : List Int} (ha : arity p = some m) (hm : m ≤ r.length) (hin : PyInside.call PyAg02.bound [p :: r.take m] = true) :
    ∃ x, Flat (p :: r.take m) x ∧ Ag02Neutral.callOf [p :: r.take m] = some x := by
  rcases arity_cases ha with ⟨rfl, rfl⟩ | ⟨rfl, rfl⟩ | ⟨rfl, rfl⟩ | ⟨rfl, rfl⟩ | ⟨rfl, rfl⟩ | ⟨rfl, rfl⟩ | ⟨rfl, rfl⟩ | ⟨rfl, rfl⟩ | ⟨rfl, rfl⟩ | ⟨rfl, rfl⟩ | ⟨rfl, rfl⟩ | ⟨rfl, rfl⟩ | ⟨rfl, rfl⟩
  · obtain ⟨a, b, e⟩ := take2 hm
    rw [e] at hin ⊢
    have h : ((PyInside.within 0 9 a && (PyInside.within 0 9 b && true)) && true) = true := hin
    rw [Bool.and_true, Bool.and_true, Bool.and_eq_true] at h
    obtain ⟨i, rfl, hi⟩ := within_nat h.1 rfl
    obtain ⟨x, rfl, hx⟩ := within_nat h.2 rfl
    exact ⟨_, .read i x (by omega) (by omega), rfl⟩
  · obtain ⟨a, b, c, e⟩ := take3 hm
    rw [e] at hin ⊢
    have h : ((PyInside.within 0 9 a && (PyInside.within 0 9 b && (PyInside.within 0 200 c && true))) && true) = true := hin
    rw [Bool.and_true, Bool.and_true, Bool.and_eq_true, Bool.and_eq_true] at h
    obtain ⟨i, rfl, hi⟩ := within_nat h.1 rfl
    obtain ⟨x, rfl, hx⟩ := within_nat h.2.1 rfl
    obtain ⟨v, rfl, hv⟩ := within_nat h.2.2 rfl
    exact ⟨_, .write i x v (by omega) (by omega) (by omega), rfl⟩
  · obtain ⟨a, e⟩ := take1 hm
    rw [e] at hin ⊢
    obtain ⟨k, rfl, hk⟩ := within_nat (in1 hin rfl) rfl
    exact ⟨_, .take k (by omega), rfl⟩
  · obtain ⟨a, e⟩ := take1 hm
    rw [e] at hin ⊢
    obtain ⟨k, rfl, hk⟩ := within_nat (in1 hin rfl) rfl
    exact ⟨_, .again k (by omega), rfl⟩
  · obtain ⟨a, e⟩ := take1 hm
    rw [e] at hin ⊢
    obtain ⟨k, rfl, hk⟩ := within_nat (in1 hin rfl) rfl
    exact ⟨_, .lose k (by omega), rfl⟩
  · obtain ⟨a, e⟩ := take1 hm
    rw [e] at hin ⊢
    obtain ⟨k, rfl, hk⟩ := within_nat (in1 hin rfl) rfl
    exact ⟨_, .nudge k (by omega), rfl⟩
  · obtain ⟨a, e⟩ := take1 hm
    rw [e] at hin ⊢
    obtain ⟨k, rfl, hk⟩ := within_nat (in1 hin rfl) rfl
    exact ⟨_, .quit k (by omega), rfl⟩
  · obtain ⟨a, e⟩ := take1 hm
    rw [e] at hin ⊢
    obtain ⟨k, rfl, hk⟩ := within_nat (in1 hin rfl) rfl
    exact ⟨_, .halt_ k (by omega), rfl⟩
  · obtain ⟨a, e⟩ := take1 hm
    rw [e] at hin ⊢
    obtain ⟨k, rfl, hk⟩ := within_nat (in1 hin rfl) rfl
    exact ⟨_, .start k (by omega), rfl⟩
  · exact ⟨_, .letters, rfl⟩
  · obtain ⟨a, e⟩ := take1 hm
    rw [e] at hin ⊢
    obtain ⟨k, rfl, hk⟩ := within_nat (in1 hin rfl) rfl
    exact ⟨_, .node k (by omega), rfl⟩
  · obtain ⟨a, e⟩ := take1 hm
    rw [e] at hin ⊢
    obtain ⟨k, rfl, hk⟩ := within_nat (in1 hin rfl) rfl
    exact ⟨_, .client k (by omega), rfl⟩
  · exact ⟨_, .record, rfl⟩
/-- begin's weights -/
theorem weights_of {r : List Int} {n : Nat} (hin : PyInside.call PyAg02.bound [[0], r.take n] = true) : ∃ ws : List Nat, r.take n = ws.map (fun (k : Nat) => (k : Int)) ∧ ws.length ≤ 10 ∧ Ag02Neutral.callOf [[0], r.take n] = some (.begin_ ws) := by
  have h : ((decide (0 ≤ (r.take n).length) && decide ((r.take n).length ≤ 10)) && (r.take n).all (PyInside.within 0 20) && true) = true := by
    have : (true && ((decide (0 ≤ (r.take n).length) && decide ((r.take n).length ≤ 10)) && (r.take n).all (PyInside.within 0 20) && true)) = true := hin
    rw [Bool.true_and] at this
    exact this
  rw [Bool.and_true, Bool.and_eq_true, Bool.and_eq_true, decide_eq_true_eq, decide_eq_true_eq, List.all_eq_true] at h
  refine ⟨(r.take n).map Int.toNat, ?_, by rw [List.length_map]; exact h.1.2, rfl⟩
  rw [List.map_map]
  have : (r.take n).map ((fun k : Nat => (k : Int)) ∘ Int.toNat) = (r.take n).map id := by
    refine List.map_congr_left fun z hz => ?_
    obtain ⟨k, e, _⟩ := within_nat (h.2 z hz) rfl
    show ((z.toNat : Nat) : Int) = z
    rw [e]
    rfl
  rw [this, List.map_id]
/-! ### all calls, one after the other -/
def mrun : Option MW → List (List (List Int)) → List (List Int)
  | _, [] => []
  | o, c :: r => match Ag02Neutral.callOf c with
    | some x => (mstep o x).2 :: mrun (mstep o x).1 r
    | none => [] :: mrun o r
end Cb

namespace Cb
open Ag02 (Copy Letter above same zero)
theorem send_ops_len (W : MW) (o : MOp) : (W.sendTo o).ops = W.ops := by
  unfold MW.sendTo
  generalize (W.missing o).map o.letterTo = ls
  induction ls generalizing W with
  | nil => rfl
  | cons l ls ih => rw [List.foldl_cons, ih, send_ops]
theorem end_ops (W : MW) (k : Nat) (o : MOp) (r : Nat) : (W.end_ k o r).1.ops.length = W.ops.length := by
  show (W.ops.set k _).length = _
  rw [List.length_set]
theorem keep_ops (W : MW) (k : Nat) (o : MOp) (c : Copy) : (W.haveKept k o c).1.ops.length = W.ops.length := by
  unfold MW.haveKept
  dsimp only
  rw [send_ops_len]
  show (W.ops.set k _).length = _
  rw [List.length_set]
theorem setOp_len (W : MW) (k : Nat) (o : MOp) : (W.setOp k o).ops.length = W.ops.length := by
  show (W.ops.set k _).length = _
  rw [List.length_set]
theorem hand_ops (W : MW) (l : Letter) : (W.hand l).1.ops.length = W.ops.length := by
  unfold MW.hand
  split
  · unfold MW.handNode
    dsimp only
    split
    · rfl
    · split
      · rw [send_ops]
      · rw [send_ops]
  · unfold MW.handClient
    dsimp only
    split
    · rfl
    · split
      · rfl
      · split
        · rfl
        · split
          · rfl
          · split
            · unfold MW.hear
              dsimp only
              split
              · exact setOp_len ..
              · split
                · rw [keep_ops, setOp_len]
                · split
                  · rw [end_ops, setOp_len, setOp_len]
                  · rw [keep_ops, setOp_len, setOp_len]
            · unfold MW.countKeeper
              dsimp only
              split
              · exact setOp_len ..
              · split
                · rw [end_ops, setOp_len]
                · rw [end_ops, setOp_len]
theorem begins_ops (W : MW) (i x v : Nat) (wr : Bool) : (W.begins i x wr v).1.ops.length ≤ W.ops.length + 1 := by
  unfold MW.begins
  split
  · exact Nat.le_succ _
  · dsimp only
    split
    · exact Nat.le_succ _
    · rw [send_ops_len]
      show (W.ops ++ [_]).length ≤ _
      rw [List.length_append]
      exact Nat.le_refl _
/-- what holds of a world: it is as it should be, and has begun no more than so many -/
def OkN (n : Nat) (o : Option MW) : Prop := ∀ W, o = some W → Ok W ∧ W.ops.length ≤ n
theorem okN_step {n : Nat} {o : Option MW} (ok : OkN n o) (c : Ag02.Call) : OkN (n + 1) (mstep o c).1 := by
  have same : ∀ {W : MW}, o = some W → OkN (n + 1) (some W) := fun h W' e => by
    cases e
    obtain ⟨h1, h2⟩ := ok _ h
    exact ⟨h1, by omega⟩
  have beg : ∀ {w : List Nat}, OkN (n + 1) (if canBegin w = true then ((some (freshW w) : Option MW), ([0] : List Int)) else (o, [-1])).1 := fun {w} => by
    split
    · rename_i h
      intro W e
      cases e
      have h := of_decide_eq_true h
      refine ⟨fresh_ok ?_, Nat.zero_le _⟩
      have : ¬ 5 < w.length := fun z => h (.inr (.inl z))
      omega
    · intro W e
      obtain ⟨h1, h2⟩ := ok W e
      exact ⟨h1, by omega⟩
  cases o with
  | none =>
    cases c with
    | begin_ w => exact beg
    | _ => intro W e; cases e
  | some W =>
    obtain ⟨okW, hn⟩ := ok W rfl
    have give : ∀ {W' : MW}, Ok W' → W'.ops.length ≤ W.ops.length + 1 → OkN (n + 1) (some W') := fun h1 h2 X e => by
      cases e
      exact ⟨h1, by omega⟩
    cases c with
    | begin_ w => exact beg
    | read i x => exact give (ok_begins okW (fun _ => rfl)) (begins_ops ..)
    | write i x v => exact give (ok_begins okW (fun q => by cases q)) (begins_ops ..)
    | take k =>
      refine give ?_ ?_
      · unfold MW.take
        split
        · exact okW
        · rename_i l hk
          refine ok_hand (ok_rowOf okW (by have := List.length_eraseIdx_le W.row k; have := okW.row; omega) fun l hl => okW.lts l (List.mem_of_mem_eraseIdx hl)) (okW.lts l (List.mem_of_getElem? hk))
      · unfold MW.take
        split
        · exact Nat.le_succ _
        · rw [hand_ops]
          exact Nat.le_succ _
    | again k =>
      refine give ?_ ?_
      · unfold MW.again
        split
        · exact okW
        · rename_i l hk
          exact ok_hand okW (okW.lts l (List.mem_of_getElem? hk))
      · unfold MW.again
        split
        · exact Nat.le_succ _
        · rw [hand_ops]
          exact Nat.le_succ _
    | lose k =>
      refine give ?_ ?_
      · unfold MW.lose
        split
        · exact okW
        · exact ok_rowOf okW (by have := List.length_eraseIdx_le W.row k; have := okW.row; omega) fun l hl => okW.lts l (List.mem_of_mem_eraseIdx hl)
      · unfold MW.lose
        split <;> exact Nat.le_succ _
    | nudge i =>
      refine give ?_ ?_
      · unfold MW.nudge
        split
        · exact okW
        · rename_i hi
          split
          · exact okW
          · rename_i k hu
            split
            · exact okW
            · obtain ⟨o, ho, hok⟩ := okW.ops i _ k (cl_some okW (by omega)) hu
              rw [opAt_of ho]
              exact ok_sendTo okW (i := i) (by omega) hok
      · unfold MW.nudge
        split
        · exact Nat.le_succ _
        · split
          · exact Nat.le_succ _
          · split
            · exact Nat.le_succ _
            · rw [send_ops_len]
              exact Nat.le_succ _
    | quit i =>
      refine give ?_ ?_
      · unfold MW.quit
        split
        · exact okW
        · rename_i hi
          split
          · exact okW
          · have hl : i < W.clients.length := by rw [okW.clen]; omega
            refine ⟨okW.nlen, by show (W.clients.set _ _).length = 4; rw [List.length_set]; exact okW.clen, okW.cells, okW.row, okW.lts, fun j d k hj dj => ?_⟩
            have hj : (W.clients.set i { W.cl i with gone := true })[j]? = some d := hj
            by_cases q : i = j
            · subst q
              rw [List.getElem?_set_self hl] at hj
              cases hj
              exact okW.ops i _ k (cl_some okW (by omega)) dj
            · rw [List.getElem?_set_ne q] at hj
              exact okW.ops j d k hj dj
      · unfold MW.quit
        split
        · exact Nat.le_succ _
        · split <;> exact Nat.le_succ _
    | halt_ i =>
      refine give ?_ ?_
      · unfold MW.setUp
        split
        · exact okW
        · split
          · exact okW
          · exact ok_nodes okW (okW.cells (W.nd i) (nd_mem (i := i) (by omega)))
      · unfold MW.setUp
        split
        · exact Nat.le_succ _
        · split <;> exact Nat.le_succ _
    | start i =>
      refine give ?_ ?_
      · unfold MW.setUp
        split
        · exact okW
        · split
          · exact okW
          · exact ok_nodes okW (okW.cells (W.nd i) (nd_mem (i := i) (by omega)))
      · unfold MW.setUp
        split
        · exact Nat.le_succ _
        · split <;> exact Nat.le_succ _
    | letters => exact same rfl
    | node i => exact same rfl
    | client i => exact same rfl
    | record => exact same rfl
theorem played_abs : ∀ (cs : List (List (List Int))) (o : Option MW) (n : Nat), OkN n o → PyFlat.played Ag02Neutral.step (o.map MW.abs) cs = mrun o cs
  | [], _, _, _ => rfl
  | c :: r, o, n, ok => by
    show (Ag02Neutral.step (o.map MW.abs) c).2 :: PyFlat.played Ag02Neutral.step (Ag02Neutral.step (o.map MW.abs) c).1 r = mrun o (c :: r)
    unfold mrun
    cases hc : Ag02Neutral.callOf c with
    | none =>
      have e : Ag02Neutral.step (o.map MW.abs) c = (o.map MW.abs, []) := by unfold Ag02Neutral.step; rw [hc]
      rw [e, played_abs r o n ok]
    | some x =>
      have e : Ag02Neutral.step (o.map MW.abs) c = ((mstep o x).1.map MW.abs, (mstep o x).2) := by
        unfold Ag02Neutral.step
        rw [hc]
        exact step_abs (fun W h => (ok W h).1) x
      rw [e, played_abs r _ (n + 1) (okN_step ok x)]
theorem mrun_cons {o : Option MW} {c : List (List Int)} {cs : List (List (List Int))} {x : Ag02.Call} (h : Ag02Neutral.callOf c = some x) : mrun o (c :: cs) = (mstep o x).2 :: mrun (mstep o x).1 cs := by
  conv => lhs; unfold mrun
  rw [h]
theorem calls_cons {f : Nat} {l : List Int} {cs : List (List (List Int))} (h : PyFlat.calls PyAg02.shape f l = some cs) (hl : l ≠ []) : ∃ c t f' cs', PyFlat.call PyAg02.shape l = some (c, t) ∧ PyFlat.calls PyAg02.shape f' t = some cs' ∧ cs = c :: cs' := by
  cases l with
  | nil => exact absurd rfl hl
  | cons p r =>
    cases f with
    | zero => exact nomatch h
    | succ f =>
      unfold PyFlat.calls at h
      cases hc : PyFlat.call PyAg02.shape (p :: r) with
      | none =>
        rw [hc] at h
        cases h
      | some q =>
        obtain ⟨c, t⟩ := q
        rw [hc] at h
        dsimp only at h
        cases ht : PyFlat.calls PyAg02.shape f t with
        | none =>
          rw [ht] at h
          cases h
        | some cs' =>
          rw [ht] at h
          exact ⟨c, t, f, cs', rfl, ht, (Option.some.inj h).symm⟩
theorem calls_nil {f : Nat} {cs : List (List (List Int))} (h : PyFlat.calls PyAg02.shape f [] = some cs) : cs = [] := by
  cases f <;> exact (Option.some.inj h).symm
theorem asked_of {ns : List Int} (h : PyAg02.answers_asked ns = true) : ∃ cs, PyFlat.calls PyAg02.shape ns.length ns = some cs ∧ cs.length ≤ 100 ∧ (∀ c ∈ cs, PyInside.call PyAg02.bound c = true) ∧ PyAg02.answers ns = PyFlat.told (mrun none cs) ∧ (PyAg02.answers ns).length ≤ 10000000 := by
  unfold PyAg02.answers_asked at h
  cases hc : PyFlat.calls PyAg02.shape ns.length ns with
  | none =>
    rw [hc] at h
    cases h
  | some cs =>
    rw [hc] at h
    dsimp only at h
    rw [Bool.and_eq_true, Bool.and_eq_true, Bool.and_eq_true, Bool.and_eq_true] at h
    obtain ⟨⟨⟨⟨h1, h2⟩, h3⟩, h4⟩, h5⟩ := h
    refine ⟨cs, rfl, of_decide_eq_true h2, List.all_eq_true.mp h3, ?_, of_decide_eq_true h5⟩
    unfold PyAg02.answers PyAg02.calls
    rw [hc]
    dsimp only
    have e : cs.map PyAg02.whole = cs := by
      have : cs.map PyAg02.whole = cs.map id := List.map_congr_left fun c _ => whole_id c
      rw [this, List.map_id]
    rw [e]
    have := played_abs cs none 0 (fun W h => by cases h)
    exact congrArg PyFlat.told this
end Cb

/-! What letters, node, client and record tell, over the mirror; what the record always holds. -/
namespace Cb
open Ag02 (Copy Letter above same zero)
def natI (l : List Nat) : List Int := l.map fun (n : Nat) => (n : Int)
def b01 (b : Bool) : Int := if b = true then 1 else 0
def cpN (c : Copy) : List Int := [(c.num : Int), (c.who : Int), (c.value : Int)]
def ltN (l : Letter) : List Int := [(l.kind : Int), (l.to_ : Int), (l.from_ : Int), (l.op : Int), (l.cell : Int), (l.copy.num : Int), (l.copy.who : Int), (l.copy.value : Int)]
def ndN (n : MNode) : List Int := b01 n.up :: n.cells.flatMap cpN
def pgN (o : MOp) : List Int := (o.cell : Int) :: b01 o.writes :: match o.wanted with
  | none => 0 :: natI o.heard
  | some c => 1 :: (cpN c ++ natI o.keepers)
def opN (o : MOp) : List Int := [(o.client : Int), (o.cell : Int), b01 o.writes, (o.value : Int), (o.began : Int), o.ended, o.result]
def clN (W : MW) (i : Nat) : List Int := ((W.cl i).begun : Int) :: b01 (W.cl i).gone :: match (W.cl i).under with
  | none => []
  | some k => pgN (W.opAt k)
theorem pg_none {o : MOp} (h : o.wanted = none) : pgN o = (o.cell : Int) :: b01 o.writes :: 0 :: natI o.heard := by
  unfold pgN
  rw [h]
theorem pg_some {o : MOp} {c : Copy} (h : o.wanted = some c) : pgN o = (o.cell : Int) :: b01 o.writes :: 1 :: (cpN c ++ natI o.keepers) := by
  unfold pgN
  rw [h]
theorem pg_len (o : MOp) : (pgN o).length ≤ 6 + o.heard.length + o.keepers.length := by
  cases h : o.wanted with
  | none =>
    rw [pg_none h]
    unfold natI
    simp
    omega
  | some c =>
    rw [pg_some h]
    unfold natI cpN
    simp
    omega
theorem cl_none {W : MW} {i : Nat} (h : (W.cl i).under = none) : clN W i = [((W.cl i).begun : Int), b01 (W.cl i).gone] := by
  unfold clN
  rw [h]
theorem cl_busy {W : MW} {i k : Nat} (h : (W.cl i).under = some k) : clN W i = ((W.cl i).begun : Int) :: b01 (W.cl i).gone :: pgN (W.opAt k) := by
  unfold clN
  rw [h]
theorem bit_b01 (b : Bool) : ((Ag02.bit b : Nat) : Int) = b01 b := by cases b <;> rfl
theorem fm_len {α : Type} {f : α → List Int} {m : Nat} (h : ∀ a, (f a).length = m) : ∀ l : List α, (l.flatMap f).length = l.length * m
  | [] => by simp
  | a :: l => by
    rw [List.flatMap_cons, List.length_append, h, fm_len h l, List.length_cons, Nat.succ_mul]
    omega
theorem fm_congr {α β : Type} {f g : α → List β} : ∀ {l : List α}, (∀ a ∈ l, f a = g a) → l.flatMap f = l.flatMap g
  | [], _ => rfl
  | a :: l, h => by rw [List.flatMap_cons, List.flatMap_cons, h a (List.mem_cons_self ..), fm_congr fun b hb => h b (List.mem_cons_of_mem _ hb)]
/-! ### told -/
theorem letters_tell (W : MW) : (Ag02.step (some W.abs) .letters).2 = (W.row.length : Int) :: W.row.flatMap ltN := by
  show Ag02.nums (W.row.length :: W.row.flatMap _) = _
  unfold Ag02.nums
  rw [List.map_cons, List.map_flatMap]
  rfl
theorem node_tell (W : MW) (i : Nat) : (Ag02.step (some W.abs) (.node i)).2 = if W.nodes.length ≤ i then [-1] else ndN (W.nd i) := by
  show (if W.abs.nodes.length ≤ i then _ else Ag02.nums (Ag02.bit (Ag02.node W.abs i).up :: (Ag02.node W.abs i).cells.flatMap _)) = _
  have en : W.abs.nodes.length = W.nodes.length := List.length_map ..
  rw [en, node_abs]
  by_cases h : W.nodes.length ≤ i
  · rw [if_pos h, if_pos h]
  · rw [if_neg h, if_neg h]
    unfold Ag02.nums
    rw [List.map_cons, List.map_flatMap]
    show ((Ag02.bit (W.nd i).up : Nat) : Int) :: _ = _
    rw [bit_b01]
    rfl
theorem client_tell {W : MW} (ok : Ok W) (i : Nat) : (Ag02.step (some W.abs) (.client i)).2 = if 4 ≤ i then [-1] else clN W i := by
  by_cases h : 4 ≤ i
  · rw [if_pos h]
    exact if_pos (show Ag02.CLIENTS ≤ i from h)
  · rw [if_neg h]
    refine (if_neg (show ¬ Ag02.CLIENTS ≤ i from h)).trans ?_
    have eg : (Ag02.client W.abs i).gone = (W.cl i).gone := by rw [client_abs]; rfl
    have ec : (Ag02.client W.abs i).count = (W.cl i).begun := by rw [client_abs]; rfl
    rw [eg, ec, busy_abs ok (by omega)]
    cases hu : (W.cl i).under with
    | none =>
      rw [cl_none hu, ← bit_b01]
      rfl
    | some k =>
      rw [cl_busy hu, ← bit_b01]
      obtain ⟨o, ho, hok⟩ := ok.ops i _ k (cl_some ok (by omega)) hu
      rw [opAt_of ho]
      cases hw : o.wanted with
      | none =>
        rw [pg_none hw, ← bit_b01]
        have e : (o.heard.zip o.told).map (fun (x : Nat × Copy) => x.1) = o.heard := zip_fst hok.len
        show Ag02.nums _ = _
        dsimp only [Option.map, busyOf]
        rw [opAt_of ho, hw]
        dsimp only [Option.isSome]
        rw [e]
        cases o.writes <;> rfl
      | some c =>
        rw [pg_some hw, ← bit_b01]
        show Ag02.nums _ = _
        dsimp only [Option.map, busyOf]
        rw [opAt_of ho, hw]
        dsimp only [Option.isSome, Option.getD]
        cases o.writes <;> rfl
/-! ### the record: what has not ended tells -1 twice -/
def RecO (o : MOp) : Prop := o.ended < 0 → o.ended = -1 ∧ o.result = -1
def Rec (W : MW) : Prop := ∀ o ∈ W.ops, RecO o
theorem record_tell {W : MW} (r : Rec W) : (Ag02.step (some W.abs) .record).2 = (W.ops.length : Int) :: W.ops.flatMap opN := by
  show (((W.ops.map opOf).length : Nat) : Int) :: (W.ops.map opOf).flatMap _ = _
  rw [List.length_map, List.flatMap_map]
  congr 1
  refine fm_congr fun o ho => ?_
  have h := r o ho
  unfold opN
  by_cases q : o.ended < 0
  · have e : (opOf o).ended = none := if_pos q
    rw [e, (h q).1, (h q).2]
    dsimp only [opOf]
    cases o.writes <;> rfl
  · have e : (opOf o).ended = some (o.ended.toNat, o.result) := if_neg q
    have e2 : ((o.ended.toNat : Nat) : Int) = o.ended := by omega
    rw [e]
    dsimp only [opOf]
    rw [e2]
    cases o.writes <;> rfl
theorem rec_of {W W' : MW} (r : Rec W) (e : W'.ops = W.ops) : Rec W' := fun x hx => r x (by rw [← e]; exact hx)
theorem rec_set {W : MW} {k : Nat} {o : MOp} (r : Rec W) (h : RecO o) : Rec (W.setOp k o) := fun x hx => by
  rcases List.mem_or_eq_of_mem_set (show x ∈ W.ops.set k o from hx) with q | q
  · exact r x q
  · rw [q]
    exact h
theorem rec_at {W : MW} {k : Nat} (r : Rec W) : RecO (W.opAt k) := by
  unfold MW.opAt
  rw [List.getD_eq_getElem?_getD]
  cases h : W.ops[k]? with
  | none => exact fun z => absurd z (show ¬ (0 : Int) < 0 by decide)
  | some o => exact r o (List.mem_of_getElem? h)
theorem rec_end {W : MW} {k v : Nat} {o : MOp} (r : Rec W) : Rec (W.end_ k o v).1 :=
  rec_of (W := W.setOp k { o with ended := (W.events : Int), result := (v : Int) }) (rec_set r fun z => absurd z (show ¬ ((W.events : Nat) : Int) < 0 by omega)) rfl
theorem rec_keep {W : MW} {k : Nat} {o : MOp} {c : Copy} (r : Rec W) (h : RecO o) : Rec (W.haveKept k o c).1 :=
  rec_of (rec_set (o := { o with wanted := some c }) r h) (send_ops_len ..)
theorem rec_hand {W : MW} (r : Rec W) (l : Letter) : Rec (W.hand l).1 := by
  unfold MW.hand
  split
  · unfold MW.handNode
    dsimp only
    split
    · exact r
    · split
      · exact rec_of r (send_ops ..)
      · exact rec_of (W := W) r (send_ops ..)
  · unfold MW.handClient
    dsimp only
    split
    · exact r
    · rename_i k _
      have ha := rec_at (k := k) r
      split
      · exact r
      · split
        · exact r
        · split
          · exact r
          · split
            · unfold MW.hear
              dsimp only
              have h1 : RecO ((W.opAt k).hears l) := ha
              split
              · exact rec_set r h1
              · split
                · exact rec_keep (rec_set r h1) h1
                · split
                  · exact rec_end (rec_set (rec_set r h1) h1)
                  · exact rec_keep (rec_set (rec_set r h1) h1) h1
            · unfold MW.countKeeper
              dsimp only
              have h1 : RecO { W.opAt k with keepers := (W.opAt k).keepers ++ [l.from_] } := ha
              split
              · exact rec_set r h1
              · split
                · exact rec_end (rec_set r h1)
                · exact rec_end (rec_set r h1)
theorem rec_begins {W : MW} (r : Rec W) {i x v : Nat} {wr : Bool} : Rec (W.begins i x wr v).1 := by
  unfold MW.begins
  split
  · exact r
  · dsimp only
    split
    · exact r
    · refine rec_of (W := { W with ops := W.ops ++ [_] }) ?_ (send_ops_len ..)
      intro o ho
      rcases List.mem_append.mp (show o ∈ W.ops ++ [_] from ho) with q | q
      · exact r o q
      · have := List.mem_singleton.mp q
        rw [this]
        exact fun _ => ⟨rfl, rfl⟩
def RecN (o : Option MW) : Prop := ∀ W, o = some W → Rec W
theorem rec_step {o : Option MW} (r : RecN o) (c : Ag02.Call) : RecN (mstep o c).1 := by
  have beg : ∀ {w : List Nat}, RecN (if canBegin w = true then ((some (freshW w) : Option MW), ([0] : List Int)) else (o, [-1])).1 := fun {w} => by
    split
    · intro W e
      cases e
      exact fun _ h => nomatch h
    · exact r
  cases o with
  | none =>
    cases c with
    | begin_ w => exact beg
    | _ => intro W e; cases e
  | some W =>
    have rW := r W rfl
    have give : ∀ {W' : MW}, Rec W' → RecN (some W') := fun h X e => by
      cases e
      exact h
    cases c with
    | begin_ w => exact beg
    | read i x => exact give (rec_begins rW)
    | write i x v => exact give (rec_begins rW)
    | take k =>
      refine give ?_
      unfold MW.take
      split
      · exact rW
      · exact rec_hand (W := { W with row := W.row.eraseIdx k }) (rec_of (W := W) rW rfl) _
    | again k =>
      refine give ?_
      unfold MW.again
      split
      · exact rW
      · exact rec_hand rW _
    | lose k =>
      refine give ?_
      unfold MW.lose
      split
      · exact rW
      · exact rec_of (W := W) rW rfl
    | nudge i =>
      refine give ?_
      unfold MW.nudge
      split
      · exact rW
      · split
        · exact rW
        · split
          · exact rW
          · exact rec_of rW (send_ops_len ..)
    | quit i =>
      refine give ?_
      unfold MW.quit
      split
      · exact rW
      · split
        · exact rW
        · exact rec_of (W := W) rW rfl
    | halt_ i =>
      refine give ?_
      unfold MW.setUp
      split
      · exact rW
      · split
        · exact rW
        · exact rec_of (W := W) rW rfl
    | start i =>
      refine give ?_
      unfold MW.setUp
      split
      · exact rW
      · split
        · exact rW
        · exact rec_of (W := W) rW rfl
    | letters => exact give rW
    | node i => exact give rW
    | client i => exact give rW
    | record => exact give rW
end Cb

namespace Cb
open PySem L2
open Ag02 (Copy Letter above same zero)
section
variable {P : Program} {w : World} {K : PySem.W.Frag} {mg : Str → Option Value} {base : Heap} {A : Adr}
/-! ### may it begin -/
theorem nsV_ints (l : List Nat) : nsV l = (natI l).map V.int := by
  unfold nsV natI
  rw [List.map_map]
  rfl
theorem max_all {l : List Nat} {m : Int} (h2 : ∀ y ∈ natI l, y ≤ m) : ∀ n ∈ l, (n : Int) ≤ m := fun n hn => h2 _ (List.mem_map.mpr ⟨n, hn, rfl⟩)
theorem sum_pos {l : List Nat} {n : Nat} (h : n ∈ l) (h0 : 0 < n) : l.sum ≠ 0 := by
  induction l with
  | nil => exact nomatch h
  | cons a l ih =>
    rw [List.sum_cons]
    rcases List.mem_cons.mp h with q | q
    · omega
    · have := ih q
      omega
theorem sum_zero : ∀ {l : List Nat}, (∀ n ∈ l, n = 0) → l.sum = 0
  | [], _ => rfl
  | a :: l, h => by
    rw [List.sum_cons, h a (List.mem_cons_self ..), sum_zero fun n hn => h n (List.mem_cons_of_mem _ hn)]
theorem can_max {l : List Nat} {m m' : Int} (he : l ≠ []) (h5 : ¬ 5 < l.length) (hm : m ∈ natI l) (h2 : ∀ y ∈ natI l, y ≤ m) (hm' : m' ∈ natI l) (h2' : ∀ y ∈ natI l, y ≤ m') : canBegin l = (decide (m ≤ 9) && decide (0 < m')) := by
  have em : m = m' := Int.le_antisymm (h2' m hm) (h2 m' hm')
  subst em
  obtain ⟨k, hk, rfl⟩ := List.mem_map.mp hm
  unfold canBegin
  rw [sum_eq]
  have e1 : ¬ l.isEmpty = true := fun z => he (List.isEmpty_iff.mp z)
  by_cases q9 : k ≤ 9
  · have e9 : ¬ (l.any (fun (n : Nat) => decide (9 < n)) = true) := fun z => by
      obtain ⟨n, hn, z⟩ := List.any_eq_true.mp z
      have := max_all h2 n hn
      have := of_decide_eq_true z
      omega
    rw [decide_eq_true (show ((k : Nat) : Int) ≤ 9 by omega), Bool.true_and]
    by_cases q0 : 0 < k
    · rw [decide_eq_true (show (0 : Int) < (k : Int) by omega)]
      exact decide_eq_true fun z => z.elim e1 fun z => z.elim h5 fun z => z.elim e9 (sum_pos hk q0)
    · rw [decide_eq_false (show ¬ (0 : Int) < (k : Int) by omega)]
      refine decide_eq_false fun z => z (.inr (.inr (.inr (sum_zero fun n hn => ?_))))
      have := max_all h2 n hn
      omega
  · rw [decide_eq_false (show ¬ ((k : Nat) : Int) ≤ 9 by omega), Bool.false_and]
    exact decide_eq_false fun z => z (.inr (.inr (.inl (List.any_eq_true.mpr ⟨k, hk, decide_eq_true (by omega)⟩))))
def sp_canBegin : Sp := fun vs H Q _ => ∃ (l : Addr) (ws : List Nat), vs = [.ref l] ∧ H l = some (.lst (nsV ws)) ∧ Q (.bl (canBegin ws)) H
theorem ok_can_begin (T : Txt K mg A) : FnG P w K mg base "can_begin" 1 ["weights"] sp_canBegin := by
  refine mk_can_begin T (fun vs H Q E h => ?_) (fun f cdv B outer s H vs Q E hr h => ?_)
  · obtain ⟨l, ws, rfl, _⟩ := h
    rfl
  · obtain ⟨l, ws, rfl, hl, k⟩ := h
    have el : (nsV ws).length = ws.length := by unfold nsV; rw [List.length_map]
    refine ⟨_, (pss_cons (ps_if (PW.pt (pw_or (pt_cmpR op_eq (pe_callB call_len_seq (by rfl) T.b_len PySem.boot_len (pa_cons (pv 0) pa_nil)) pe_int (nomark _)) (pw_or1 (pt_cmpR op_gt (pe_callB call_len_seq (by rfl) T.b_len PySem.boot_len (pa_cons (pv 0) pa_nil)) (pe_gint rfl T.g_MOST_NODES) (nomark _)))))
        (pss_one (ps_ret pe_bl))
        pss_nil)
      (pss_one (ps_ret (pe_and (pe_cmpR op_le (pe_callB (cr_max rfl) (by rfl) T.b_max (by decide +kernel) (pa_cons (pv 0) pa_nil)) (pe_gint rfl T.g_GREATEST_WEIGHT) (nomark _)) (pe_one (pe_cmpR op_gt (pe_callB (cr_max rfl) (by rfl) T.b_max (by decide +kernel) (pa_cons (pv 0) pa_nil)) pe_int (nomark _))))))), ?_⟩
    refine ⟨_, rfl, l, _, rfl, .inl (SqL.of hl), rfl, _, rfl, ?_⟩
    rw [el]
    have e0 : decide (V.int ((ws.length : Nat) : Int) = V.int 0) = decide (ws.length = 0) := int_eq (n := 0)
    rw [e0]
    by_cases q0 : ws.length = 0
    · rw [decide_eq_true q0]
      refine iteT (iteT ?_)
      have e : canBegin ws = false := decide_eq_false fun z => z (.inl (List.isEmpty_iff.mpr (List.eq_nil_of_length_eq_zero q0)))
      rw [e] at k
      exact k
    · rw [decide_eq_false q0]
      refine iteF ⟨_, rfl, l, _, rfl, .inl (SqL.of hl), _, _, rfl, rfl, _, rfl, ?_⟩
      rw [el]
      have e5 : decide ((5 : Int) < ((ws.length : Nat) : Int)) = decide (5 < ws.length) := gt_nat (n := 5)
      rw [e5]
      by_cases q5 : 5 < ws.length
      · rw [decide_eq_true q5]
        refine iteT ?_
        have e : canBegin ws = false := decide_eq_false fun z => z (.inr (.inl q5))
        rw [e] at k
        exact k
      · rw [decide_eq_false q5]
        have hne : ws ≠ [] := fun z => q0 (by rw [z]; rfl)
        have hpos : 0 < (natI ws).length := by unfold natI; rw [List.length_map]; omega
        have hS : SqL K H l ((natI ws).map V.int) := by rw [← nsV_ints]; exact SqL.of hl
        refine iteF ⟨_, rfl, l, natI ws, rfl, hS, hpos, fun m hm h2 => ⟨_, _, rfl, rfl, _, rfl, ?_⟩⟩
        by_cases q9 : m ≤ 9
        · rw [decide_eq_true q9]
          refine iteT ⟨_, rfl, l, natI ws, rfl, hS, hpos, fun m' hm' h2' => ⟨_, _, rfl, rfl, ?_⟩⟩
          have e := can_max hne q5 hm h2 hm' h2'
          rw [decide_eq_true q9, Bool.true_and] at e
          rw [e] at k
          exact k
        · rw [decide_eq_false q9]
          refine iteF ?_
          have e := can_max hne q5 hm h2 hm h2
          rw [decide_eq_false q9, Bool.false_and] at e
          rw [e] at k
          exact k
end
end Cb

namespace Cb
open PySem L2
open Ag02 (Copy Letter above same zero)
section
/-! ### a list goes on with a tuple's items -/
theorem ext_tup {l b : Addr} {xs ys : Array Value} {n m : Nat} {od : Option Addr} {sl : Array (Option Value)}
    (few : ¬ (!xs.isEmpty && Builtin.List.listTooLong (xs.size + ys.size)) = true) (h1 : xs.size ≤ sizeLine) (h2 : xs.size + ys.size ≤ sizeLine + 1) :
    Meets (Builtin.«list.extend» ⟨[.ref l, .ref b], []⟩) (fun _ R s =>
      s.heap.get? l = some { cls := .type "list", dict := none, data := .seq xs n, slots := #[] } ∧ s.heap.get? b = some ⟨.type "tuple", od, .seq ys m, sl⟩ ∧
      R (.ok (.ret Value.none)) { s with heap := s.heap.update l (Obj.mapSeq fun z => z ++ ys), toks := s.toks }) := by
  refine .of_wp fun P w A R s h => ?_
  obtain ⟨hp, g, d, tk, os⟩ := s
  obtain ⟨hl, hb, h⟩ := h
  have e1 := AutoSeq1.idx_int
  have e2 := AutoSeq1.sub_tuple_tuple
  have e3 := AutoSeq1.sub_list_list
  have e4 := AutoSeq1.sub_tuple_list
  have e5 := AutoSeq1.sub_list_tuple
  have room : (xs ++ ys).size ≤ sizeLine + 1 := by
    rw [Array.size_append]
    exact h2
  wp_walk using (wpAny_updateSeq hl rfl (hz := h1) (_hz' := room)), AutoSeq1.wpAny_loadPart' hl, AutoSeq1.wpAny_loadPart' hb
  exact ⟨_, rfl, h⟩
def rExtT (K : PySem.W.Frag) : V → List V → Hp → VK → Prop := fun x vs H Q => ∃ (l b : Addr) (xs zs : List V), x = .ref l ∧ vs = [.ref b] ∧ H l = some (.lst xs) ∧ SqT K H b zs ∧ xs.length + zs.length ≤ sizeLine ∧ Q .non (upd H l (.lst (xs ++ zs)))
theorem mt_extendT {X : Cx} : MtM X "list.extend" (rExtT X.K) := by
  intro pins s σ H x vs v us Q I rx rv h
  obtain ⟨l, b, xs, zs, rfl, rfl, hH, hB, hz, q⟩ := h
  cases rx
  obtain ⟨u, rfl, ru⟩ := rv.one
  cases ru
  obtain ⟨z, its, n, r, hl, e⟩ := I.lstM hH
  obtain ⟨its2, r2, ⟨⟨c2, d2, t2, s2⟩, e2, hc2, n2, hd2⟩, z2⟩ := I.tuple hB
  obtain rfl : c2 = _ := hc2
  obtain rfl : t2 = _ := hd2
  have len2 := r2.length
  have few : ¬ (!its.toArray.isEmpty && Builtin.List.listTooLong (its.toArray.size + its2.toArray.size)) = true := by
    rw [notLongL (by rw [List.size_toArray, List.size_toArray]; omega), Bool.and_false]
    decide
  refine call_meets F.slot_list_extend ⟨_, e, rfl⟩ F.entry_list_extend (F.args_list_extend_2 _ _)
    (ext_tup few (by rw [List.size_toArray]; omega) (by rw [List.size_toArray, List.size_toArray]; omega)) ⟨e, e2, .non, _, I.lset (its' := its ++ its2) hH e (by simp) (r.append r2) ?_, rfl, q⟩
  rw [List.length_append]
  omega
end
end Cb

namespace Cb
open PySem L2
open Ag02 (Copy Letter above same zero)
section
variable {P : Program} {w : World} {K : PySem.W.Frag} {mg : Str → Option Value} {base : Heap} {A : Adr}
theorem szBig {n : Nat} (h : n ≤ 1000000) : n ≤ sizeLine := Nat.le_trans h (by decide)
theorem CpAt.same {τ : Addr → Tag} {H H' : Hp} {a : Addr} {c : Copy} (h : CpAt A τ H a c) (s : Same H H') : CpAt A τ H' a c := h.mv (Mv.same (S := fun _ => True) s) trivial
theorem upd_put {H H' : Hp} {g : Addr} {o : HO} (hg : H g = none) (s : Same H H') : Same H (upd H' g o) := fun b u e => by
  rw [upd_ne (ne_of_none e hg)]
  exact s b u e
/-! ### what is told of one thing -/
def sp_bit : Sp := fun vs H Q _ => ∃ b : Bool, vs = [.bl b] ∧ Q (.int (b01 b)) H
theorem ok_one_or_zero (T : Txt K mg A) : FnG P w K mg base "one_or_zero" 1 ["truth"] sp_bit := by
  refine mk_one_or_zero T (fun vs H Q E h => ?_) (fun f cdv B outer s H vs Q E hr h => ?_)
  · obtain ⟨b, rfl, _⟩ := h
    rfl
  · obtain ⟨b, rfl, k⟩ := h
    refine ⟨_, (pss_one (ps_ret (pe_ifExp (pt_val (pv 0)) pe_int pe_int))), ?_⟩
    refine ⟨_, rfl, _, rfl, ?_⟩
    cases b with
    | true => exact iteT k
    | false => exact iteF k
/-- a new list of these numbers, all else as it stood -/
def New (H : Hp) (ns : List Int) (Q : VK) : Prop := ∀ (p : Addr) (H' : Hp), H p = none → Same H H' → H' p = some (.lst (ns.map V.int)) → Q (.ref p) H'
def sp_ltNums (A : Adr) : Sp := fun vs H Q _ => ∃ (a : Addr) (l : Letter) (τ : Addr → Tag), vs = [.ref a] ∧ LtAt A τ H a l ∧ New H (ltN l) Q
theorem ok_Letter_in_numbers (T : Txt K mg A) : MtG P w K mg base A.c_Letter "in_numbers" 1 ["self"] (sp_ltNums A) := by
  refine mk_Letter_in_numbers T (fun vs H Q E h => ?_) (fun f cdv B outer s H vs Q E hr h => ?_)
  · obtain ⟨a, l, τ, rfl, _⟩ := h
    rfl
  · obtain ⟨a, l, τ, rfl, ⟨dx, e, t1, h1, ce⟩, k⟩ := h
    refine ⟨_, (pss_one (ps_ret (pe_op op_cat (pe_lst (pa_cons (pe_fld (pv 0) rfl) (pa_cons (pe_fld (pv 0) rfl) (pa_cons (pe_fld (pv 0) rfl) (pa_cons (pe_fld (pv 0) rfl) (pa_cons (pe_fld (pv 0) rfl) pa_nil)))))) (pe_callTy call_list_of (by rfl) T.b_list (by decide +kernel) (pa_cons (pe_fld (pv 0) rfl) pa_nil))))), ?_⟩
    refine ⟨_, rfl, _, _, _, _, _, rfl, h1, T.cl_Letter, T.na_Letter_kind, F_Letter_kind, _, rfl, _, _, _, _, _, rfl, h1, T.cl_Letter, T.na_Letter_to, F_Letter_to, _, rfl, _, _, _, _, _, rfl, h1, T.cl_Letter, T.na_Letter_sender, F_Letter_sender, _, rfl, _, _, _, _, _, rfl, h1, T.cl_Letter, T.na_Letter_operation, F_Letter_operation, _, rfl, _, _, _, _, _, rfl, h1, T.cl_Letter, T.na_Letter_cell, F_Letter_cell, szBig (by show 5 ≤ 1000000; decide), fun p1 n1 => ?_⟩
    have s1 := Same.upd (o := .lst [.int (l.kind : Int), .int (l.to_ : Int), .int (l.from_ : Int), .int (l.op : Int), .int (l.cell : Int)]) n1
    refine ⟨_, rfl, _, _, _, _, _, rfl, (s1 _ _ h1), T.cl_Letter, T.na_Letter_enclosed, F_Letter_enclosed, e, cpV l.copy, rfl, .inr ((ce.same s1).sq T), fun p2 n2 => ?_⟩
    have s2 := Same.upd2 (o := .lst (cpV l.copy)) s1 n2
    refine ⟨p1, p2, _, _, rfl, rfl, Eq.trans (upd_ne (ne_of_none upd_same n2)) upd_same, upd_same, szBig (by show 8 ≤ 1000000; decide), fun p3 n3 => ?_⟩
    exact k p3 _ (Same.none s2 _ n3) (Same.upd2 s2 n3) upd_same
def sp_ndNums (A : Adr) : Sp := fun vs H Q _ => ∃ (a : Addr) (i : Nat) (n : MNode) (τ : Addr → Tag), vs = [.ref a] ∧ NodeAt A τ H i a n ∧ n.cells.length ≤ 1000 ∧ New H (ndN n) Q
theorem ok_Node_in_numbers (T : Txt K mg A) : MtG P w K mg base A.c_Node "in_numbers" 2 ["self"] (sp_ndNums A) := by
  have G_one_or_zero := ok_one_or_zero (P := P) (w := w) (base := base) T
  obtain ⟨f_one_or_zero, d_one_or_zero, h_one_or_zero, k_one_or_zero, b_one_or_zero, F_one_or_zero⟩ := G_one_or_zero.ex
  refine mk_Node_in_numbers T (fun vs H Q E h => ?_) (fun f cdv B outer s H vs Q E hr h => ?_)
  · obtain ⟨a, i, n, τ, rfl, _⟩ := h
    rfl
  · obtain ⟨a, i, n, τ, rfl, ⟨dx, lc, cs, t1, h1, t2, h2, al⟩, hz, k⟩ := h
    refine ⟨_, (pss_cons (ps_set (i := 1) sc_Node_in_numbers.nd rfl (Or.inl rfl) (pe_lst (pa_cons (pe_call F_one_or_zero (hr.mono (by decide)) (by rfl) h_one_or_zero k_one_or_zero b_one_or_zero .nil pass0 (pa_cons (pe_fld (pv 0) rfl) pa_nil)) pa_nil)))
      (pss_cons (ps_for PassesOwn.never rfl (pi_list (pe_fld (pv 0) rfl)) (pg_name (i := 2) sc_Node_in_numbers.nd rfl (Or.inl rfl))
        (pss_one (ps_expr (pe_bm PySem.F.plainAttrs_list PySem.F.slot_list_extend PySem.F.type_list_extend mt_extendT (pv 1) (pa_cons (pv 2) pa_nil)))))
      (pss_one (ps_ret (pv 1))))), ?_⟩
    refine ⟨_, rfl, _, _, _, _, _, rfl, h1, T.cl_Node, T.na_Node_runs, F_Node_runs, n.up, rfl, szBig (by show 1 ≤ 1000000; decide), fun g hg => ?_⟩
    have s0 := Same.upd (o := .lst [.int (b01 n.up)]) hg
    refine ⟨_, rfl, _, _, _, _, _, rfl, (s0 _ _ h1), T.cl_Node, T.na_Node_copies, F_Node_copies, lc, rfl, ⟨_, SqL.of (s0 _ _ h2)⟩, for_list (K := K) (a := lc) (xs := cs.map V.ref) (fun j σ H' => ∃ v2 : Option V, σ = [some (.ref a), some (.ref g), v2] ∧ Same H H' ∧ H' g = some (.lst ((b01 n.up :: (n.cells.take j).flatMap cpN).map V.int)))
      ⟨none, rfl, s0, upd_same⟩ (fun j σ H' _ ⟨_, _, s, _⟩ => SqL.of (s _ _ h2)) ?_ ?_⟩
    · rintro j y σ H' hj ⟨v2, rfl, s, hgj⟩
      obtain ⟨q, hq, rfl⟩ := map_get hj
      obtain ⟨c, hc, hqc⟩ := al.getL hq
      refine ⟨_, rfl, .inl ⟨rfl, _, SqL.of hgj⟩, _, rfl, g, q, _, cpV c, rfl, rfl, hgj, (hqc.same s).sq T, szBig ?_, ?_⟩
      · rw [List.length_map, List.length_cons, fm_len (m := 3) (fun _ => rfl), List.length_take]
        show _ + 3 ≤ _
        omega
      · refine ⟨_, rfl, upd_put hg s, ?_⟩
        rw [upd_same, take_more hc, List.flatMap_append, ← List.cons_append, List.map_append, List.flatMap_singleton]
        rfl
    · rintro σ H' ⟨v2, rfl, s, hgj⟩
      rw [List.length_map, al.len, List.take_length] at hgj
      exact ⟨_, rfl, k g H' hg s hgj⟩
def sp_pgNums (A : Adr) : Sp := fun vs H Q _ => ∃ (a : Addr) (k : Nat) (o : MOp) (τ : Addr → Tag), vs = [.ref a] ∧ OpAt A τ H k a o ∧ o.heard.length ≤ 1000 ∧ o.keepers.length ≤ 1000 ∧ New H (pgN o) Q
theorem ok_Operation_progress_in_numbers (T : Txt K mg A) : MtG P w K mg base A.c_Operation "progress_in_numbers" 2 ["self"] (sp_pgNums A) := by
  have G_one_or_zero := ok_one_or_zero (P := P) (w := w) (base := base) T
  obtain ⟨f_one_or_zero, d_one_or_zero, h_one_or_zero, k_one_or_zero, b_one_or_zero, F_one_or_zero⟩ := G_one_or_zero.ex
  refine mk_Operation_progress_in_numbers T (fun vs H Q E h => ?_) (fun f cdv B outer s H vs Q E hr h => ?_)
  · obtain ⟨a, n, o, τ, rfl, _⟩ := h
    rfl
  · obtain ⟨a, n, o, τ, rfl, ⟨dx, h, t, q, w, ts, t1, h1, t2, h2, t3, h3, c3, t4, h4, c4⟩, hz1, hz2, k⟩ := h
    refine ⟨_, (pss_cons (ps_set (i := 1) sc_Operation_progress_in_numbers.nd rfl (Or.inl rfl) (pe_lst (pa_cons (pe_fld (pv 0) rfl) (pa_cons (pe_call F_one_or_zero (hr.mono (by decide)) (by rfl) h_one_or_zero k_one_or_zero b_one_or_zero .nil pass0 (pa_cons (pe_fld (pv 0) rfl) pa_nil)) pa_nil))))
      (pss_cons (ps_if (pt_cmpR op_isN (pe_fld (pv 0) rfl) pe_non (nomark _))
        (pss_one (ps_ret (pe_op op_cat (pe_op op_cat (pv 1) (pe_lst (pa_cons pe_int pa_nil))) (pe_fld (pv 0) rfl))))
        pss_nil)
      (pss_one (ps_ret (pe_op op_cat (pe_op op_cat (pe_op op_cat (pv 1) (pe_lst (pa_cons pe_int pa_nil))) (pe_callTy call_list_of (by rfl) T.b_list (by decide +kernel) (pa_cons (pe_fld (pv 0) rfl) pa_nil))) (pe_fld (pv 0) rfl)))))), ?_⟩
    refine ⟨_, rfl, _, _, _, _, _, rfl, h1, T.cl_Operation, T.na_Operation_cell, F_Operation_cell, _, rfl, _, _, _, _, _, rfl, h1, T.cl_Operation, T.na_Operation_writes, F_Operation_writes, o.writes, rfl, szBig (by show 2 ≤ 1000000; decide), fun g hg => ?_⟩
    have s0 := Same.upd (o := .lst [.int (o.cell : Int), .int (b01 o.writes)]) hg
    have g0 : upd H g (.lst [.int (o.cell : Int), .int (b01 o.writes)]) g = some (.lst [.int (o.cell : Int), .int (b01 o.writes)]) := upd_same
    generalize hH0 : upd H g (.lst [.int (o.cell : Int), .int (b01 o.writes)]) = H0 at s0 g0
    refine ⟨_, rfl, _, _, _, _, _, rfl, (s0 _ _ h1), T.cl_Operation, T.na_Operation_wanted, F_Operation_wanted, rfl, _, rfl, ?_⟩
    cases hw : o.wanted with
    | none =>
      rw [hw] at c4
      obtain rfl : w = .non := c4
      rw [pg_none hw] at k
      refine iteT ⟨_, rfl, szBig (by show 1 ≤ 1000000; decide), fun p1 n1 => ?_⟩
      have s1 := Same.upd2 (o := .lst [.int 0]) s0 n1
      refine ⟨g, p1, _, _, rfl, rfl, Eq.trans (upd_ne (ne_of_none g0 n1)) g0, upd_same, szBig (by show 3 ≤ 1000000; decide), fun p2 n2 => ?_⟩
      have s2 := Same.upd2 (o := .lst ([.int (o.cell : Int), .int (b01 o.writes)] ++ [.int 0])) s1 n2
      refine ⟨_, rfl, _, _, _, _, _, rfl, (s2 _ _ h1), T.cl_Operation, T.na_Operation_heard, F_Operation_heard, p2, h, _, _, rfl, rfl, upd_same, s2 _ _ h2, szBig ?_, fun p3 n3 => ?_⟩
      · unfold nsV
        rw [List.length_map]
        show 3 + _ ≤ _
        omega
      · refine k p3 _ (Same.none s2 _ n3) (Same.upd2 s2 n3) ?_
        rw [upd_same, nsV_ints]
        rfl
    | some c =>
      rw [hw] at c4
      obtain ⟨e, rfl, ce⟩ := c4
      rw [pg_some hw] at k
      refine iteF ⟨_, rfl, szBig (by show 1 ≤ 1000000; decide), fun p1 n1 => ?_⟩
      have s1 := Same.upd2 (o := .lst [.int 1]) s0 n1
      refine ⟨g, p1, _, _, rfl, rfl, Eq.trans (upd_ne (ne_of_none g0 n1)) g0, upd_same, szBig (by show 3 ≤ 1000000; decide), fun p2 n2 => ?_⟩
      have s2 := Same.upd2 (o := .lst ([.int (o.cell : Int), .int (b01 o.writes)] ++ [.int 1])) s1 n2
      refine ⟨_, rfl, _, _, _, _, _, rfl, (s2 _ _ h1), T.cl_Operation, T.na_Operation_wanted, F_Operation_wanted, e, cpV c, rfl, .inr ((ce.same s2).sq T), fun p3 n3 => ?_⟩
      have s3 := Same.upd2 (o := .lst (cpV c)) s2 n3
      refine ⟨p2, p3, _, _, rfl, rfl, Eq.trans (upd_ne (ne_of_none upd_same n3)) upd_same, upd_same, szBig (by show 6 ≤ 1000000; decide), fun p4 n4 => ?_⟩
      have s4 := Same.upd2 (o := .lst (([.int (o.cell : Int), .int (b01 o.writes)] ++ [.int 1]) ++ cpV c)) s3 n4
      refine ⟨_, rfl, _, _, _, _, _, rfl, (s4 _ _ h1), T.cl_Operation, T.na_Operation_keepers, F_Operation_keepers, p4, q, _, _, rfl, rfl, upd_same, s4 _ _ h4, szBig ?_, fun p5 n5 => ?_⟩
      · unfold nsV
        rw [List.length_map]
        show 6 + _ ≤ _
        omega
      · refine k p5 _ (Same.none s4 _ n5) (Same.upd2 s4 n5) ?_
        rw [upd_same, nsV_ints]
        rfl
def sp_opNums (A : Adr) : Sp := fun vs H Q _ => ∃ (a : Addr) (k : Nat) (o : MOp) (τ : Addr → Tag), vs = [.ref a] ∧ OpAt A τ H k a o ∧ New H (opN o) Q
theorem ok_Operation_record_in_numbers (T : Txt K mg A) : MtG P w K mg base A.c_Operation "record_in_numbers" 2 ["self"] (sp_opNums A) := by
  have G_one_or_zero := ok_one_or_zero (P := P) (w := w) (base := base) T
  obtain ⟨f_one_or_zero, d_one_or_zero, h_one_or_zero, k_one_or_zero, b_one_or_zero, F_one_or_zero⟩ := G_one_or_zero.ex
  refine mk_Operation_record_in_numbers T (fun vs H Q E h => ?_) (fun f cdv B outer s H vs Q E hr h => ?_)
  · obtain ⟨a, n, o, τ, rfl, _⟩ := h
    rfl
  · obtain ⟨a, n, o, τ, rfl, ⟨dx, h, t, q, w, ts, t1, h1, t2, h2, t3, h3, c3, t4, h4, c4⟩, k⟩ := h
    refine ⟨_, (pss_cons (ps_set (i := 1) sc_Operation_record_in_numbers.nd rfl (Or.inl rfl) (pe_lst (pa_cons (pe_fld (pv 0) rfl) (pa_cons (pe_fld (pv 0) rfl) (pa_cons (pe_call F_one_or_zero (hr.mono (by decide)) (by rfl) h_one_or_zero k_one_or_zero b_one_or_zero .nil pass0 (pa_cons (pe_fld (pv 0) rfl) pa_nil)) (pa_cons (pe_fld (pv 0) rfl) (pa_cons (pe_fld (pv 0) rfl) pa_nil)))))))
      (pss_one (ps_ret (pe_op op_cat (pv 1) (pe_lst (pa_cons (pe_fld (pv 0) rfl) (pa_cons (pe_fld (pv 0) rfl) pa_nil))))))), ?_⟩
    refine ⟨_, rfl, _, _, _, _, _, rfl, h1, T.cl_Operation, T.na_Operation_client, F_Operation_client, _, rfl, _, _, _, _, _, rfl, h1, T.cl_Operation, T.na_Operation_cell, F_Operation_cell, _, rfl, _, _, _, _, _, rfl, h1, T.cl_Operation, T.na_Operation_writes, F_Operation_writes, o.writes, rfl, _, rfl, _, _, _, _, _, rfl, h1, T.cl_Operation, T.na_Operation_value, F_Operation_value, _, rfl, _, _, _, _, _, rfl, h1, T.cl_Operation, T.na_Operation_began, F_Operation_began, szBig (by show 5 ≤ 1000000; decide), fun g hg => ?_⟩
    have s0 := Same.upd (o := .lst [.int (o.client : Int), .int (o.cell : Int), .int (b01 o.writes), .int (o.value : Int), .int (o.began : Int)]) hg
    refine ⟨_, rfl, _, rfl, _, _, _, _, _, rfl, (s0 _ _ h1), T.cl_Operation, T.na_Operation_ended, F_Operation_ended, _, rfl, _, _, _, _, _, rfl, (s0 _ _ h1), T.cl_Operation, T.na_Operation_result, F_Operation_result, szBig (by show 2 ≤ 1000000; decide), fun p1 n1 => ?_⟩
    have s1 := Same.upd2 (o := .lst [.int o.ended, .int o.result]) s0 n1
    refine ⟨g, p1, _, _, rfl, rfl, Eq.trans (upd_ne (ne_of_none upd_same n1)) upd_same, upd_same, szBig (by show 7 ≤ 1000000; decide), fun p2 n2 => ?_⟩
    exact k p2 _ (Same.none s1 _ n2) (Same.upd2 s1 n2) upd_same
def sp_clNums (A : Adr) : Sp := fun vs H Q _ => ∃ (L : Lay) (W : MW) (i : Nat) (a : Addr), vs = [.ref a] ∧ WAt A L H W ∧ Ok W ∧ i < 4 ∧ L.ca[i]? = some a ∧ New H (clN W i) Q
theorem ok_Client_in_numbers (T : Txt K mg A) : MtG P w K mg base A.c_Client "in_numbers" 3 ["self"] (sp_clNums A) := by
  have G_one_or_zero := ok_one_or_zero (P := P) (w := w) (base := base) T
  have G_Operation_progress_in_numbers := ok_Operation_progress_in_numbers (P := P) (w := w) (base := base) T
  obtain ⟨f_one_or_zero, d_one_or_zero, h_one_or_zero, k_one_or_zero, b_one_or_zero, F_one_or_zero⟩ := G_one_or_zero.ex
  obtain ⟨f_Operation_progress_in_numbers, d_Operation_progress_in_numbers, c_Operation_progress_in_numbers, m_Operation_progress_in_numbers, b_Operation_progress_in_numbers, F_Operation_progress_in_numbers⟩ := G_Operation_progress_in_numbers.ex
  refine mk_Client_in_numbers T (fun vs H Q E h => ?_) (fun f cdv B outer s H vs Q E hr h => ?_)
  · obtain ⟨L, W, i, a, rfl, _⟩ := h
    rfl
  · obtain ⟨L, W, i, a, rfl, wa, ok, hi, ha, k⟩ := h
    have hcl := cl_some ok hi
    obtain ⟨dc, u, tc, hc1, hu⟩ := wa.ac.at_ i a _ ha hcl
    refine ⟨_, (pss_cons (ps_set (i := 1) sc_Client_in_numbers.nd rfl (Or.inl rfl) (pe_lst (pa_cons (pe_fld (pv 0) rfl) (pa_cons (pe_call F_one_or_zero (hr.mono (by decide)) (by rfl) h_one_or_zero k_one_or_zero b_one_or_zero .nil pass0 (pa_cons (pe_fld (pv 0) rfl) pa_nil)) pa_nil))))
      (pss_cons (ps_if (pt_cmpR op_isN (pe_fld (pv 0) rfl) pe_non (nomark _))
        (pss_one (ps_ret (pv 1)))
        pss_nil)
      (pss_one (ps_ret (pe_op op_cat (pv 1) (pe_meth0 (pe_fld (pv 0) rfl) c_Operation_progress_in_numbers m_Operation_progress_in_numbers F_Operation_progress_in_numbers (hr.mono (by decide)) b_Operation_progress_in_numbers .nil pass0)))))), ?_⟩
    refine ⟨_, rfl, _, _, _, _, _, rfl, hc1, T.cl_Client, T.na_Client_begun, F_Client_begun, _, rfl, _, _, _, _, _, rfl, hc1, T.cl_Client, T.na_Client_gone, F_Client_gone, (W.cl i).gone, rfl, szBig (by show 2 ≤ 1000000; decide), fun g hg => ?_⟩
    have s0 := Same.upd (o := .lst [.int ((W.cl i).begun : Int), .int (b01 (W.cl i).gone)]) hg
    have g0 : upd H g (.lst [.int ((W.cl i).begun : Int), .int (b01 (W.cl i).gone)]) g = some (.lst [.int ((W.cl i).begun : Int), .int (b01 (W.cl i).gone)]) := upd_same
    generalize hH0 : upd H g (.lst [.int ((W.cl i).begun : Int), .int (b01 (W.cl i).gone)]) = H0 at s0 g0
    refine ⟨_, rfl, _, _, _, _, _, rfl, (s0 _ _ hc1), T.cl_Client, T.na_Client_under_way, F_Client_under_way, rfl, _, rfl, ?_⟩
    cases hun : (W.cl i).under with
    | none =>
      rw [hun] at hu
      obtain rfl : u = .non := hu
      rw [cl_none hun] at k
      exact iteT ⟨_, rfl, k g _ hg s0 g0⟩
    | some m =>
      rw [hun] at hu
      obtain ⟨b, hoa, rfl⟩ := hu
      obtain ⟨o, hop, hok⟩ := ok.ops _ _ m hcl hun
      have opa := wa.ao.at_ m b o hoa hop
      obtain ⟨dx, x, t, q, wv, ts, u1, k1, k2⟩ := id opa
      have len1 := nd_len _ _ hok.hnd hok.hin
      have len2 := nd_len _ _ hok.knd hok.kin
      have nlen := ok.nlen
      rw [cl_busy hun, opAt_of hop] at k
      refine iteF ⟨_, rfl, _, rfl, _, _, _, _, _, rfl, (s0 _ _ hc1), T.cl_Client, T.na_Client_under_way, F_Client_under_way, b, dx, _, rfl, s0 _ _ k1, F_Operation_m_progress_in_numbers, b, m, o, L.tg, rfl, opa.mv (Mv.same (S := fun _ => True) s0) trivial trivial trivial trivial trivial, (by omega), (by omega), fun p1 H1 n1 s1 hp1 => ?_⟩
      refine ⟨g, p1, _, _, rfl, rfl, s1 _ _ g0, hp1, szBig ?_, fun p2 n2 => ?_⟩
      · rw [List.length_map]
        have := pg_len o
        show 2 + _ ≤ _
        omega
      · exact k p2 _ (Same.none (s0.trans s1) _ n2) (Same.upd2 (s0.trans s1) n2) upd_same
/-! ### quit, stop, start -/
theorem ok_World_leave (T : Txt K mg A) : MtG P w K mg base A.c_World "leave" 1 ["self", "number"] (sp_place A MW.quit) := by
  refine mk_World_leave T (fun vs H Q E h => ?_) (fun f cdv B outer s H vs Q E hr h => ?_)
  · obtain ⟨L, W, n, rfl, _⟩ := h
    rfl
  · obtain ⟨L, W, n, rfl, wa, ok, hn, k⟩ := h
    obtain ⟨dw, hob⟩ := wa.ob
    refine ⟨_, (pss_cons (ps_if (pt_cmpR op_ge (pv 1) (pe_gint rfl T.g_CLIENTS) (nomark _))
        (pss_one (ps_ret (pe_lst (pa_cons (pe_gint rfl T.g_NO_SUCH) pa_nil))))
        pss_nil)
      (pss_cons (ps_set (i := 2) sc_World_leave.nd rfl (Or.inl rfl) (pe_ix ix_list (pe_fld (pv 0) rfl) (pv 1) (fun _ _ => rfl)))
      (pss_cons (ps_if (pt_val (pe_fld (pv 2) rfl))
        (pss_one (ps_ret (pe_lst (pa_cons (pe_gint rfl T.g_NOT_NOW) pa_nil))))
        pss_nil)
      (pss_cons (ps_fld (pv 2) pe_bl rfl)
      (pss_one (ps_ret (pe_lst (pa_cons pe_int pa_nil)))))))), ?_⟩
    refine ⟨_, rfl, _, _, rfl, rfl, _, rfl, ?_⟩
    have e4 : decide ((4 : Int) ≤ (n : Int)) = decide (4 ≤ n) := ge_len (n := 4)
    rw [e4]
    by_cases q : 4 ≤ n
    · have e : W.quit n = (W, [-1]) := if_pos q
      rw [e] at k
      rw [decide_eq_true q]
      exact iteT ⟨(by show 1 ≤ sizeLine; decide), k.ret wa⟩
    · rw [decide_eq_false q]
      have hcl := cl_some ok (i := n) (by omega)
      obtain ⟨ca, hca, hcat⟩ := wa.ac.get hcl
      obtain ⟨dc, u, tc, hc1, hu⟩ := id hcat
      refine iteF ⟨_, rfl, _, _, _, _, _, rfl, hob, T.cl_World, T.na_World_clients, F_World_clients, _, rfl, _, _, _, _, rfl, rfl, SqL.of wa.hc, at_of rfl (show (L.ca.map V.ref)[n]? = some (V.ref ca) by rw [List.getElem?_map, hca]; rfl), ?_⟩
      refine ⟨_, rfl, _, _, _, _, _, rfl, hc1, T.cl_Client, T.na_Client_gone, F_Client_gone, _, rfl, ?_⟩
      by_cases hg : (W.cl n).gone = true
      · have e : W.quit n = (W, [-2]) := (if_neg q).trans (if_pos hg)
        rw [e] at k
        rw [hg]
        exact iteT ⟨(by show 1 ≤ sizeLine; decide), k.ret wa⟩
      · have e : W.quit n = (W.setClient n { W.cl n with gone := true }, [0]) := (if_neg q).trans (if_neg hg)
        rw [e] at k
        have hg : (W.cl n).gone = false := Bool.eq_false_iff.mpr hg
        rw [hg]
        refine iteF ⟨_, rfl, _, _, _, _, rfl, hc1, T.cl_Client, T.na_Client_gone, F_Client_len, ?_⟩
        rw [F_Client_put_gone]
        have w1 := wa.client (o := .ins A.c_Client dc (F_Client (.int ((W.cl n).begun : Int)) (.bl true) u)) hca tc (c := { W.cl n with gone := true }) ⟨dc, u, tc, upd_same, hu⟩
        exact ⟨(by show 1 ≤ sizeLine; decide), (k.move (L1 := L) rfl (Evo.upd hc1 (by rw [tc]; simp))).ret w1⟩
def sp_running (A : Adr) : Sp := fun vs H Q _ => ∃ (L : Lay) (W : MW) (n : Nat) (b : Bool), vs = [.ref L.p, .int (n : Int), .bl b] ∧ WAt A L H W ∧ Res A L H (W.setUp n b).1 (W.setUp n b).2 Q
theorem ok_World_set_running (T : Txt K mg A) : MtG P w K mg base A.c_World "set_running" 1 ["self", "number", "runs"] (sp_running A) := by
  refine mk_World_set_running T (fun vs H Q E h => ?_) (fun f cdv B outer s H vs Q E hr h => ?_)
  · obtain ⟨L, W, n, b, rfl, _⟩ := h
    rfl
  · obtain ⟨L, W, n, b, rfl, wa, k⟩ := h
    obtain ⟨dw, hob⟩ := wa.ob
    have el : (L.na.map V.ref).length = W.nodes.length := by rw [List.length_map, wa.an.len]
    refine ⟨_, (pss_cons (ps_if (pt_cmpR op_ge (pv 1) (pe_callB call_len_seq (by rfl) T.b_len PySem.boot_len (pa_cons (pe_fld (pv 0) rfl) pa_nil)) (nomark _))
        (pss_one (ps_ret (pe_lst (pa_cons (pe_gint rfl T.g_NO_SUCH) pa_nil))))
        pss_nil)
      (pss_cons (ps_set (i := 3) sc_World_set_running.nd rfl (Or.inl rfl) (pe_ix ix_list (pe_fld (pv 0) rfl) (pv 1) (fun _ _ => rfl)))
      (pss_cons (ps_if (pt_cmpR op_eq (pe_fld (pv 3) rfl) (pv 2) (nomark _))
        (pss_one (ps_ret (pe_lst (pa_cons (pe_gint rfl T.g_NOT_NOW) pa_nil))))
        pss_nil)
      (pss_cons (ps_fld (pv 3) (pv 2) rfl)
      (pss_one (ps_ret (pe_lst (pa_cons pe_int pa_nil)))))))), ?_⟩
    refine ⟨_, rfl, _, rfl, _, _, _, _, _, rfl, hob, T.cl_World, T.na_World_nodes, F_World_nodes, L.ln, _, rfl, .inl (SqL.of wa.hn), _, _, rfl, rfl, _, rfl, ?_⟩
    rw [el, ge_len]
    by_cases q : W.nodes.length ≤ n
    · have e : W.setUp n b = (W, [-1]) := if_pos q
      rw [e] at k
      rw [decide_eq_true q]
      exact iteT ⟨(by show 1 ≤ sizeLine; decide), k.ret wa⟩
    · rw [decide_eq_false q]
      have hnd := nd_some (W := W) (i := n) (by omega)
      obtain ⟨na, hna, hnat⟩ := wa.an.get hnd
      obtain ⟨dn, ln, cs, t1, h1, t2, h2, al⟩ := id hnat
      refine iteF ⟨_, rfl, _, _, _, _, _, rfl, hob, T.cl_World, T.na_World_nodes, F_World_nodes, _, rfl, _, _, _, _, rfl, rfl, SqL.of wa.hn, at_of rfl (show (L.na.map V.ref)[n]? = some (V.ref na) by rw [List.getElem?_map, hna]; rfl), ?_⟩
      refine ⟨_, rfl, _, _, _, _, _, rfl, h1, T.cl_Node, T.na_Node_runs, F_Node_runs, _, rfl, rfl, _, rfl, ?_⟩
      by_cases hb : (W.nd n).up = b
      · have e : W.setUp n b = (W, [-2]) := (if_neg q).trans (if_pos hb)
        rw [e] at k
        rw [decide_eq_true (show V.bl (W.nd n).up = V.bl b by rw [hb])]
        exact iteT ⟨(by show 1 ≤ sizeLine; decide), k.ret wa⟩
      · have e : W.setUp n b = ({ W with nodes := W.nodes.set n { W.nd n with up := b } }, [0]) := (if_neg q).trans (if_neg hb)
        rw [e] at k
        rw [decide_eq_false (fun z : V.bl (W.nd n).up = V.bl b => hb (by injection z))]
        refine iteF ⟨_, rfl, _, rfl, _, _, _, _, rfl, h1, T.cl_Node, T.na_Node_runs, F_Node_len, ?_⟩
        rw [F_Node_put_runs]
        have m : Mv (· ≠ (4, n)) L.tg L.tg H (upd H na (.ins A.c_Node dn (F_Node (.int ((W.nd n).weight : Int)) (.bl b) (.ref ln)))) := Mv.upd t1
        have w1 := wa.node (i := n) (n := { W.nd n with up := b }) (m.mono fun _ z => z.1) (fun a' ha' => by
          rw [hna] at ha'
          cases ha'
          exact ⟨dn, ln, cs, t1, upd_same, t2, (m _ _ h2 (by rw [t2]; simp)).1, cps_mv al m (by simp)⟩) (fr_upd wa.fr)
        exact ⟨(by show 1 ≤ sizeLine; decide), (k.move (L1 := L) rfl (Evo.upd h1 (by rw [t1]; simp))).ret w1⟩
theorem ok_World_stop_node (T : Txt K mg A) : MtG P w K mg base A.c_World "stop_node" 2 ["self", "number"] (sp_place A (fun W n => W.setUp n false)) := by
  have G_World_set_running := ok_World_set_running (P := P) (w := w) (base := base) T
  obtain ⟨f_World_set_running, d_World_set_running, c_World_set_running, m_World_set_running, b_World_set_running, F_World_set_running⟩ := G_World_set_running.ex
  refine mk_World_stop_node T (fun vs H Q E h => ?_) (fun f cdv B outer s H vs Q E hr h => ?_)
  · obtain ⟨L, W, n, rfl, _⟩ := h
    rfl
  · obtain ⟨L, W, n, rfl, wa, ok, hn, k⟩ := h
    obtain ⟨dw, hob⟩ := wa.ob
    refine ⟨_, (pss_one (ps_ret (pe_meth (pv 0) c_World_set_running m_World_set_running F_World_set_running (hr.mono (by decide)) b_World_set_running .nil pass0 (pa_cons (pv 1) (pa_cons pe_bl pa_nil))))), ?_⟩
    exact ⟨_, rfl, L.p, dw, _, rfl, hob, F_World_m_set_running, _, rfl, L, W, n, false, rfl, wa, k⟩
theorem ok_World_start_node (T : Txt K mg A) : MtG P w K mg base A.c_World "start_node" 2 ["self", "number"] (sp_place A (fun W n => W.setUp n true)) := by
  have G_World_set_running := ok_World_set_running (P := P) (w := w) (base := base) T
  obtain ⟨f_World_set_running, d_World_set_running, c_World_set_running, m_World_set_running, b_World_set_running, F_World_set_running⟩ := G_World_set_running.ex
  refine mk_World_start_node T (fun vs H Q E h => ?_) (fun f cdv B outer s H vs Q E hr h => ?_)
  · obtain ⟨L, W, n, rfl, _⟩ := h
    rfl
  · obtain ⟨L, W, n, rfl, wa, ok, hn, k⟩ := h
    obtain ⟨dw, hob⟩ := wa.ob
    refine ⟨_, (pss_one (ps_ret (pe_meth (pv 0) c_World_set_running m_World_set_running F_World_set_running (hr.mono (by decide)) b_World_set_running .nil pass0 (pa_cons (pv 1) (pa_cons pe_bl pa_nil))))), ?_⟩
    exact ⟨_, rfl, L.p, dw, _, rfl, hob, F_World_m_set_running, _, rfl, L, W, n, true, rfl, wa, k⟩
/-! ### letters, node, client, record -/
def sp_tell (A : Adr) (g : MW → List Int) : Sp := fun vs H Q _ => ∃ (L : Lay) (W : MW), vs = [.ref L.p] ∧ WAt A L H W ∧ Ok W ∧ W.ops.length ≤ 10000 ∧ Res A L H W (g W) Q
theorem Res.told {L : Lay} {H H' : Hp} {W : MW} {ans : List Int} {Q : VK} {g : Addr} (k : Res A L H W ans Q) (wa : WAt A L H W) (hg : H g = none) (s : Same H H') (h : H' g = some (.lst (ans.map V.int))) : Q (.ref g) H' :=
  k L H' g rfl (wa.same s) (Evo.same s) hg h (wa.fr g hg)
theorem ok_World_tell_letters (T : Txt K mg A) : MtG P w K mg base A.c_World "tell_letters" 2 ["self"] (sp_tell A (fun W => (W.row.length : Int) :: W.row.flatMap ltN)) := by
  have G_Letter_in_numbers := ok_Letter_in_numbers (P := P) (w := w) (base := base) T
  obtain ⟨f_Letter_in_numbers, d_Letter_in_numbers, c_Letter_in_numbers, m_Letter_in_numbers, b_Letter_in_numbers, F_Letter_in_numbers⟩ := G_Letter_in_numbers.ex
  refine mk_World_tell_letters T (fun vs H Q E h => ?_) (fun f cdv B outer s H vs Q E hr h => ?_)
  · obtain ⟨L, W, rfl, _⟩ := h
    rfl
  · obtain ⟨L, W, rfl, wa, ok, hops, k⟩ := h
    obtain ⟨dw, hob⟩ := wa.ob
    have el : (L.la.map V.ref).length = W.row.length := by rw [List.length_map, wa.al.len]
    have hrow := ok.row
    refine ⟨_, (pss_cons (ps_set (i := 1) sc_World_tell_letters.nd rfl (Or.inl rfl) (pe_lst (pa_cons (pe_callB call_len_seq (by rfl) T.b_len PySem.boot_len (pa_cons (pe_fld (pv 0) rfl) pa_nil)) pa_nil)))
      (pss_cons (ps_for PassesOwn.never rfl (pi_list (pe_fld (pv 0) rfl)) (pg_name (i := 2) sc_World_tell_letters.nd rfl (Or.inl rfl))
        (pss_one (ps_expr (pe_bm PySem.F.plainAttrs_list PySem.F.slot_list_extend PySem.F.type_list_extend mt_extend (pv 1) (pa_cons (pe_meth0 (pv 2) c_Letter_in_numbers m_Letter_in_numbers F_Letter_in_numbers (hr.mono (by decide)) b_Letter_in_numbers .nil pass0) pa_nil)))))
      (pss_one (ps_ret (pv 1))))), ?_⟩
    refine ⟨_, rfl, _, _, _, _, _, rfl, hob, T.cl_World, T.na_World_row, F_World_row, L.lr, _, rfl, .inl (SqL.of wa.hr), szBig (by show 1 ≤ 1000000; decide), fun g hg => ?_⟩
    have s0 := Same.upd (o := .lst [.int (((L.la.map V.ref).length : Nat) : Int)]) hg
    refine ⟨_, rfl, _, _, _, _, _, rfl, (s0 _ _ hob), T.cl_World, T.na_World_row, F_World_row, L.lr, rfl, ⟨_, SqL.of (s0 _ _ wa.hr)⟩, for_list (K := K) (a := L.lr) (xs := L.la.map V.ref) (fun j σ H' => ∃ v2 : Option V, σ = [some (.ref L.p), some (.ref g), v2] ∧ Same H H' ∧ H' g = some (.lst (((W.row.length : Int) :: (W.row.take j).flatMap ltN).map V.int)))
      ⟨none, rfl, s0, by rw [upd_same, el]; rfl⟩ (fun j σ H' _ ⟨_, _, s, _⟩ => SqL.of (s _ _ wa.hr)) ?_ ?_⟩
    · rintro j y σ H' hj ⟨v2, rfl, s, hgj⟩
      obtain ⟨q, hq, rfl⟩ := map_get hj
      obtain ⟨l, hl, hql⟩ := wa.al.getL hq
      obtain ⟨dl, e, tl, hl1, ce⟩ := id hql
      refine ⟨_, rfl, .inl ⟨rfl, _, SqL.of hgj⟩, _, rfl, q, dl, _, rfl, s _ _ hl1, F_Letter_m_in_numbers, q, l, L.tg, rfl, hql.mv (Mv.same (S := fun _ => True) s) trivial, fun p1 H1 n1 s1 hp1 => ?_⟩
      refine ⟨g, p1, _, _, rfl, rfl, s1 _ _ hgj, hp1, szBig ?_, ?_⟩
      · rw [List.length_map, List.length_cons, fm_len (m := 8) (fun _ => rfl), List.length_take]
        show _ + 8 ≤ _
        omega
      · refine ⟨_, rfl, upd_put hg (s.trans s1), ?_⟩
        rw [upd_same, take_more hl, List.flatMap_append, ← List.cons_append, List.map_append, List.flatMap_singleton]
    · rintro σ H' ⟨v2, rfl, s, hgj⟩
      rw [el, List.take_length] at hgj
      exact ⟨_, rfl, k.told wa hg s hgj⟩
theorem ok_World_tell_record (T : Txt K mg A) : MtG P w K mg base A.c_World "tell_record" 3 ["self"] (sp_tell A (fun W => (W.ops.length : Int) :: W.ops.flatMap opN)) := by
  have G_Operation_record_in_numbers := ok_Operation_record_in_numbers (P := P) (w := w) (base := base) T
  obtain ⟨f_Operation_record_in_numbers, d_Operation_record_in_numbers, c_Operation_record_in_numbers, m_Operation_record_in_numbers, b_Operation_record_in_numbers, F_Operation_record_in_numbers⟩ := G_Operation_record_in_numbers.ex
  refine mk_World_tell_record T (fun vs H Q E h => ?_) (fun f cdv B outer s H vs Q E hr h => ?_)
  · obtain ⟨L, W, rfl, _⟩ := h
    rfl
  · obtain ⟨L, W, rfl, wa, ok, hops, k⟩ := h
    obtain ⟨dw, hob⟩ := wa.ob
    have el : (L.oa.map V.ref).length = W.ops.length := by rw [List.length_map, wa.ao.len]
    refine ⟨_, (pss_cons (ps_set (i := 1) sc_World_tell_record.nd rfl (Or.inl rfl) (pe_lst (pa_cons (pe_callB call_len_seq (by rfl) T.b_len PySem.boot_len (pa_cons (pe_fld (pv 0) rfl) pa_nil)) pa_nil)))
      (pss_cons (ps_for PassesOwn.never rfl (pi_list (pe_fld (pv 0) rfl)) (pg_name (i := 2) sc_World_tell_record.nd rfl (Or.inl rfl))
        (pss_one (ps_expr (pe_bm PySem.F.plainAttrs_list PySem.F.slot_list_extend PySem.F.type_list_extend mt_extend (pv 1) (pa_cons (pe_meth0 (pv 2) c_Operation_record_in_numbers m_Operation_record_in_numbers F_Operation_record_in_numbers (hr.mono (by decide)) b_Operation_record_in_numbers .nil pass0) pa_nil)))))
      (pss_one (ps_ret (pv 1))))), ?_⟩
    refine ⟨_, rfl, _, _, _, _, _, rfl, hob, T.cl_World, T.na_World_record, F_World_record, L.lo, _, rfl, .inl (SqL.of wa.ho), szBig (by show 1 ≤ 1000000; decide), fun g hg => ?_⟩
    have s0 := Same.upd (o := .lst [.int (((L.oa.map V.ref).length : Nat) : Int)]) hg
    refine ⟨_, rfl, _, _, _, _, _, rfl, (s0 _ _ hob), T.cl_World, T.na_World_record, F_World_record, L.lo, rfl, ⟨_, SqL.of (s0 _ _ wa.ho)⟩, for_list (K := K) (a := L.lo) (xs := L.oa.map V.ref) (fun j σ H' => ∃ v2 : Option V, σ = [some (.ref L.p), some (.ref g), v2] ∧ Same H H' ∧ H' g = some (.lst (((W.ops.length : Int) :: (W.ops.take j).flatMap opN).map V.int)))
      ⟨none, rfl, s0, by rw [upd_same, el]; rfl⟩ (fun j σ H' _ ⟨_, _, s, _⟩ => SqL.of (s _ _ wa.ho)) ?_ ?_⟩
    · rintro j y σ H' hj ⟨v2, rfl, s, hgj⟩
      obtain ⟨q, hq, rfl⟩ := map_get hj
      obtain ⟨o, ho, hqo⟩ := wa.ao.getL hq
      obtain ⟨dx, x, t, z, wv, ts, u1, k1, k2⟩ := id hqo
      refine ⟨_, rfl, .inl ⟨rfl, _, SqL.of hgj⟩, _, rfl, q, dx, _, rfl, s _ _ k1, F_Operation_m_record_in_numbers, q, j, o, L.tg, rfl, hqo.mv (Mv.same (S := fun _ => True) s) trivial trivial trivial trivial trivial, fun p1 H1 n1 s1 hp1 => ?_⟩
      refine ⟨g, p1, _, _, rfl, rfl, s1 _ _ hgj, hp1, szBig ?_, ?_⟩
      · rw [List.length_map, List.length_cons, fm_len (m := 7) (fun _ => rfl), List.length_take]
        show _ + 7 ≤ _
        omega
      · refine ⟨_, rfl, upd_put hg (s.trans s1), ?_⟩
        rw [upd_same, take_more ho, List.flatMap_append, ← List.cons_append, List.map_append, List.flatMap_singleton]
    · rintro σ H' ⟨v2, rfl, s, hgj⟩
      rw [el, List.take_length] at hgj
      exact ⟨_, rfl, k.told wa hg s hgj⟩
theorem ok_World_tell_node (T : Txt K mg A) : MtG P w K mg base A.c_World "tell_node" 3 ["self", "number"] (sp_place A (fun W n => (W, if W.nodes.length ≤ n then [-1] else ndN (W.nd n)))) := by
  have G_Node_in_numbers := ok_Node_in_numbers (P := P) (w := w) (base := base) T
  obtain ⟨f_Node_in_numbers, d_Node_in_numbers, c_Node_in_numbers, m_Node_in_numbers, b_Node_in_numbers, F_Node_in_numbers⟩ := G_Node_in_numbers.ex
  refine mk_World_tell_node T (fun vs H Q E h => ?_) (fun f cdv B outer s H vs Q E hr h => ?_)
  · obtain ⟨L, W, n, rfl, _⟩ := h
    rfl
  · obtain ⟨L, W, n, rfl, wa, ok, hn, k⟩ := h
    obtain ⟨dw, hob⟩ := wa.ob
    have k : Res A L H W (if W.nodes.length ≤ n then [-1] else ndN (W.nd n)) Q := k
    have el : (L.na.map V.ref).length = W.nodes.length := by rw [List.length_map, wa.an.len]
    refine ⟨_, (pss_cons (ps_if (pt_cmpR op_ge (pv 1) (pe_callB call_len_seq (by rfl) T.b_len PySem.boot_len (pa_cons (pe_fld (pv 0) rfl) pa_nil)) (nomark _))
        (pss_one (ps_ret (pe_lst (pa_cons (pe_gint rfl T.g_NO_SUCH) pa_nil))))
        pss_nil)
      (pss_one (ps_ret (pe_meth0 (pe_ix ix_list (pe_fld (pv 0) rfl) (pv 1) (fun _ _ => rfl)) c_Node_in_numbers m_Node_in_numbers F_Node_in_numbers (hr.mono (by decide)) b_Node_in_numbers .nil pass0)))), ?_⟩
    refine ⟨_, rfl, _, rfl, _, _, _, _, _, rfl, hob, T.cl_World, T.na_World_nodes, F_World_nodes, L.ln, _, rfl, .inl (SqL.of wa.hn), _, _, rfl, rfl, _, rfl, ?_⟩
    rw [el, ge_len]
    by_cases q : W.nodes.length ≤ n
    · rw [if_pos q] at k
      rw [decide_eq_true q]
      exact iteT ⟨(by show 1 ≤ sizeLine; decide), k.ret wa⟩
    · rw [if_neg q] at k
      rw [decide_eq_false q]
      have hlt : n < W.nodes.length := by omega
      obtain ⟨na, hna, hnat⟩ := wa.an.get (nd_some hlt)
      obtain ⟨dn, ln, cs, t1, h1, t2, h2, al⟩ := id hnat
      have hc := (ok.cells _ (nd_mem hlt)).1
      exact iteF ⟨_, rfl, _, _, _, _, _, rfl, hob, T.cl_World, T.na_World_nodes, F_World_nodes, _, rfl, _, _, _, _, rfl, rfl, SqL.of wa.hn, at_of rfl (show (L.na.map V.ref)[n]? = some (V.ref na) by rw [List.getElem?_map, hna]; rfl), na, dn, _, rfl, h1, F_Node_m_in_numbers, na, n, W.nd n, L.tg, rfl, hnat, (by omega), fun p H' hp s hp' => k.told wa hp s hp'⟩
theorem ok_World_tell_client (T : Txt K mg A) : MtG P w K mg base A.c_World "tell_client" 4 ["self", "number"] (sp_place A (fun W n => (W, if 4 ≤ n then [-1] else clN W n))) := by
  have G_Client_in_numbers := ok_Client_in_numbers (P := P) (w := w) (base := base) T
  obtain ⟨f_Client_in_numbers, d_Client_in_numbers, c_Client_in_numbers, m_Client_in_numbers, b_Client_in_numbers, F_Client_in_numbers⟩ := G_Client_in_numbers.ex
  refine mk_World_tell_client T (fun vs H Q E h => ?_) (fun f cdv B outer s H vs Q E hr h => ?_)
  · obtain ⟨L, W, n, rfl, _⟩ := h
    rfl
  · obtain ⟨L, W, n, rfl, wa, ok, hn, k⟩ := h
    obtain ⟨dw, hob⟩ := wa.ob
    have k : Res A L H W (if 4 ≤ n then [-1] else clN W n) Q := k
    refine ⟨_, (pss_cons (ps_if (pt_cmpR op_ge (pv 1) (pe_gint rfl T.g_CLIENTS) (nomark _))
        (pss_one (ps_ret (pe_lst (pa_cons (pe_gint rfl T.g_NO_SUCH) pa_nil))))
        pss_nil)
      (pss_one (ps_ret (pe_meth0 (pe_ix ix_list (pe_fld (pv 0) rfl) (pv 1) (fun _ _ => rfl)) c_Client_in_numbers m_Client_in_numbers F_Client_in_numbers (hr.mono (by decide)) b_Client_in_numbers .nil pass0)))), ?_⟩
    refine ⟨_, rfl, _, _, rfl, rfl, _, rfl, ?_⟩
    have e4 : decide ((4 : Int) ≤ (n : Int)) = decide (4 ≤ n) := ge_len (n := 4)
    rw [e4]
    by_cases q : 4 ≤ n
    · rw [if_pos q] at k
      rw [decide_eq_true q]
      exact iteT ⟨(by show 1 ≤ sizeLine; decide), k.ret wa⟩
    · rw [if_neg q] at k
      rw [decide_eq_false q]
      have hcl := cl_some ok (i := n) (by omega)
      obtain ⟨ca, hca, hcat⟩ := wa.ac.get hcl
      obtain ⟨dc, u, tc, hc1, hu⟩ := id hcat
      exact iteF ⟨_, rfl, _, _, _, _, _, rfl, hob, T.cl_World, T.na_World_clients, F_World_clients, _, rfl, _, _, _, _, rfl, rfl, SqL.of wa.hc, at_of rfl (show (L.ca.map V.ref)[n]? = some (V.ref ca) by rw [List.getElem?_map, hca]; rfl), ca, dc, _, rfl, hc1, F_Client_m_in_numbers, L, W, n, ca, rfl, wa, ok, (by omega), hca, fun p H' hp s hp' => k.told wa hp s hp'⟩
end
end Cb

namespace Cb
open PySem L2
open Ag02 (Copy Letter above same zero)
section
variable {P : Program} {w : World} {K : PySem.W.Frag} {mg : Str → Option Value} {base : Heap} {A : Adr}
def sp_answerOf (A : Adr) : Sp := fun vs H Q _ => ∃ (L : Lay) (W W' : MW) (l : Addr) (c : List Int) (x : Ag02.Call), vs = [.ref L.p, .ref l] ∧ WAt A L H W ∧ Ok W ∧ Rec W ∧ W.ops.length ≤ 10000 ∧ H l = some (.lst (c.map V.int)) ∧ Flat c x ∧ (mstep (some W) x).1 = some W' ∧ Res A L H W' (mstep (some W) x).2 Q
theorem ok_answer_of (T : Txt K mg A) : FnG P w K mg base "answer_of" 10 ["world", "call"] (sp_answerOf A) := by
  have G_World_tell_record := ok_World_tell_record (P := P) (w := w) (base := base) T
  have G_World_read := ok_World_read (P := P) (w := w) (base := base) T
  have G_World_write := ok_World_write (P := P) (w := w) (base := base) T
  have G_World_take := ok_World_take (P := P) (w := w) (base := base) T
  have G_World_again := ok_World_again (P := P) (w := w) (base := base) T
  have G_World_lose := ok_World_lose (P := P) (w := w) (base := base) T
  have G_World_nudge := ok_World_nudge (P := P) (w := w) (base := base) T
  have G_World_leave := ok_World_leave (P := P) (w := w) (base := base) T
  have G_World_stop_node := ok_World_stop_node (P := P) (w := w) (base := base) T
  have G_World_start_node := ok_World_start_node (P := P) (w := w) (base := base) T
  have G_World_tell_letters := ok_World_tell_letters (P := P) (w := w) (base := base) T
  have G_World_tell_node := ok_World_tell_node (P := P) (w := w) (base := base) T
  have G_World_tell_client := ok_World_tell_client (P := P) (w := w) (base := base) T
  obtain ⟨f_World_tell_record, d_World_tell_record, c_World_tell_record, m_World_tell_record, b_World_tell_record, F_World_tell_record⟩ := G_World_tell_record.ex
  obtain ⟨f_World_read, d_World_read, c_World_read, m_World_read, b_World_read, F_World_read⟩ := G_World_read.ex
  obtain ⟨f_World_write, d_World_write, c_World_write, m_World_write, b_World_write, F_World_write⟩ := G_World_write.ex
  obtain ⟨f_World_take, d_World_take, c_World_take, m_World_take, b_World_take, F_World_take⟩ := G_World_take.ex
  obtain ⟨f_World_again, d_World_again, c_World_again, m_World_again, b_World_again, F_World_again⟩ := G_World_again.ex
  obtain ⟨f_World_lose, d_World_lose, c_World_lose, m_World_lose, b_World_lose, F_World_lose⟩ := G_World_lose.ex
  obtain ⟨f_World_nudge, d_World_nudge, c_World_nudge, m_World_nudge, b_World_nudge, F_World_nudge⟩ := G_World_nudge.ex
  obtain ⟨f_World_leave, d_World_leave, c_World_leave, m_World_leave, b_World_leave, F_World_leave⟩ := G_World_leave.ex
  obtain ⟨f_World_stop_node, d_World_stop_node, c_World_stop_node, m_World_stop_node, b_World_stop_node, F_World_stop_node⟩ := G_World_stop_node.ex
  obtain ⟨f_World_start_node, d_World_start_node, c_World_start_node, m_World_start_node, b_World_start_node, F_World_start_node⟩ := G_World_start_node.ex
  obtain ⟨f_World_tell_letters, d_World_tell_letters, c_World_tell_letters, m_World_tell_letters, b_World_tell_letters, F_World_tell_letters⟩ := G_World_tell_letters.ex
  obtain ⟨f_World_tell_node, d_World_tell_node, c_World_tell_node, m_World_tell_node, b_World_tell_node, F_World_tell_node⟩ := G_World_tell_node.ex
  obtain ⟨f_World_tell_client, d_World_tell_client, c_World_tell_client, m_World_tell_client, b_World_tell_client, F_World_tell_client⟩ := G_World_tell_client.ex
  refine mk_answer_of T (fun vs H Q E h => ?_) (fun f cdv B outer s H vs Q E hr h => ?_)
  · obtain ⟨L, W, W', l, c, x, rfl, _⟩ := h
    rfl
  · obtain ⟨L, W, W', l, c, x, rfl, wa, ok, rc, hops, hl, hf, hW, k⟩ := h
    obtain ⟨dw, hob⟩ := wa.ob
    refine ⟨_, (pss_cons (ps_if (pt_cmpR op_eq (pe_ix ix_list (pv 1) pe_int (fun _ _ => rfl)) (pe_gint rfl T.g_READ) (nomark _))
        (pss_one (ps_ret (pe_meth (pv 0) c_World_read m_World_read F_World_read (hr.mono (by decide)) b_World_read .nil pass0 (pa_cons (pe_ix ix_list (pv 1) pe_int (fun _ _ => rfl)) (pa_cons (pe_ix ix_list (pv 1) pe_int (fun _ _ => rfl)) pa_nil)))))
        pss_nil)
      (pss_cons (ps_if (pt_cmpR op_eq (pe_ix ix_list (pv 1) pe_int (fun _ _ => rfl)) (pe_gint rfl T.g_WRITE) (nomark _))
        (pss_one (ps_ret (pe_meth (pv 0) c_World_write m_World_write F_World_write (hr.mono (by decide)) b_World_write .nil pass0 (pa_cons (pe_ix ix_list (pv 1) pe_int (fun _ _ => rfl)) (pa_cons (pe_ix ix_list (pv 1) pe_int (fun _ _ => rfl)) (pa_cons (pe_ix ix_list (pv 1) pe_int (fun _ _ => rfl)) pa_nil))))))
        pss_nil)
      (pss_cons (ps_if (pt_cmpR op_eq (pe_ix ix_list (pv 1) pe_int (fun _ _ => rfl)) (pe_gint rfl T.g_TAKE) (nomark _))
        (pss_one (ps_ret (pe_meth (pv 0) c_World_take m_World_take F_World_take (hr.mono (by decide)) b_World_take .nil pass0 (pa_cons (pe_ix ix_list (pv 1) pe_int (fun _ _ => rfl)) pa_nil))))
        pss_nil)
      (pss_cons (ps_if (pt_cmpR op_eq (pe_ix ix_list (pv 1) pe_int (fun _ _ => rfl)) (pe_gint rfl T.g_AGAIN) (nomark _))
        (pss_one (ps_ret (pe_meth (pv 0) c_World_again m_World_again F_World_again (hr.mono (by decide)) b_World_again .nil pass0 (pa_cons (pe_ix ix_list (pv 1) pe_int (fun _ _ => rfl)) pa_nil))))
        pss_nil)
      (pss_cons (ps_if (pt_cmpR op_eq (pe_ix ix_list (pv 1) pe_int (fun _ _ => rfl)) (pe_gint rfl T.g_LOSE) (nomark _))
        (pss_one (ps_ret (pe_meth (pv 0) c_World_lose m_World_lose F_World_lose (hr.mono (by decide)) b_World_lose .nil pass0 (pa_cons (pe_ix ix_list (pv 1) pe_int (fun _ _ => rfl)) pa_nil))))
        pss_nil)
      (pss_cons (ps_if (pt_cmpR op_eq (pe_ix ix_list (pv 1) pe_int (fun _ _ => rfl)) (pe_gint rfl T.g_NUDGE) (nomark _))
        (pss_one (ps_ret (pe_meth (pv 0) c_World_nudge m_World_nudge F_World_nudge (hr.mono (by decide)) b_World_nudge .nil pass0 (pa_cons (pe_ix ix_list (pv 1) pe_int (fun _ _ => rfl)) pa_nil))))
        pss_nil)
      (pss_cons (ps_if (pt_cmpR op_eq (pe_ix ix_list (pv 1) pe_int (fun _ _ => rfl)) (pe_gint rfl T.g_QUIT) (nomark _))
        (pss_one (ps_ret (pe_meth (pv 0) c_World_leave m_World_leave F_World_leave (hr.mono (by decide)) b_World_leave .nil pass0 (pa_cons (pe_ix ix_list (pv 1) pe_int (fun _ _ => rfl)) pa_nil))))
        pss_nil)
      (pss_cons (ps_if (pt_cmpR op_eq (pe_ix ix_list (pv 1) pe_int (fun _ _ => rfl)) (pe_gint rfl T.g_STOP) (nomark _))
        (pss_one (ps_ret (pe_meth (pv 0) c_World_stop_node m_World_stop_node F_World_stop_node (hr.mono (by decide)) b_World_stop_node .nil pass0 (pa_cons (pe_ix ix_list (pv 1) pe_int (fun _ _ => rfl)) pa_nil))))
        pss_nil)
      (pss_cons (ps_if (pt_cmpR op_eq (pe_ix ix_list (pv 1) pe_int (fun _ _ => rfl)) (pe_gint rfl T.g_START) (nomark _))
        (pss_one (ps_ret (pe_meth (pv 0) c_World_start_node m_World_start_node F_World_start_node (hr.mono (by decide)) b_World_start_node .nil pass0 (pa_cons (pe_ix ix_list (pv 1) pe_int (fun _ _ => rfl)) pa_nil))))
        pss_nil)
      (pss_cons (ps_if (pt_cmpR op_eq (pe_ix ix_list (pv 1) pe_int (fun _ _ => rfl)) (pe_gint rfl T.g_LETTERS) (nomark _))
        (pss_one (ps_ret (pe_meth0 (pv 0) c_World_tell_letters m_World_tell_letters F_World_tell_letters (hr.mono (by decide)) b_World_tell_letters .nil pass0)))
        pss_nil)
      (pss_cons (ps_if (pt_cmpR op_eq (pe_ix ix_list (pv 1) pe_int (fun _ _ => rfl)) (pe_gint rfl T.g_NODE) (nomark _))
        (pss_one (ps_ret (pe_meth (pv 0) c_World_tell_node m_World_tell_node F_World_tell_node (hr.mono (by decide)) b_World_tell_node .nil pass0 (pa_cons (pe_ix ix_list (pv 1) pe_int (fun _ _ => rfl)) pa_nil))))
        pss_nil)
      (pss_cons (ps_if (pt_cmpR op_eq (pe_ix ix_list (pv 1) pe_int (fun _ _ => rfl)) (pe_gint rfl T.g_CLIENT) (nomark _))
        (pss_one (ps_ret (pe_meth (pv 0) c_World_tell_client m_World_tell_client F_World_tell_client (hr.mono (by decide)) b_World_tell_client .nil pass0 (pa_cons (pe_ix ix_list (pv 1) pe_int (fun _ _ => rfl)) pa_nil))))
        pss_nil)
      (pss_one (ps_ret (pe_meth0 (pv 0) c_World_tell_record m_World_tell_record F_World_tell_record (hr.mono (by decide)) b_World_tell_record .nil pass0))))))))))))))), ?_⟩
    cases hf with
    | read i x hi hx =>
      cases hW
      refine ⟨_, rfl, _, _, _, _, rfl, rfl, SqL.of hl, at_of (show (0 : Int) = ((0 : Nat) : Int) from rfl) rfl, rfl, _, rfl, iteT ?_⟩
      exact ⟨_, rfl, L.p, dw, _, rfl, hob, F_World_m_read, _, rfl, _, _, _, _, rfl, rfl, SqL.of hl, at_of (show (1 : Int) = ((1 : Nat) : Int) from rfl) rfl, _, rfl, _, _, _, _, rfl, rfl, SqL.of hl, at_of (show (2 : Int) = ((2 : Nat) : Int) from rfl) rfl, L, W, i, x, rfl, wa, ok, hops, k⟩
    | write i x v hi hx hv =>
      cases hW
      refine ⟨_, rfl, _, _, _, _, rfl, rfl, SqL.of hl, at_of (show (0 : Int) = ((0 : Nat) : Int) from rfl) rfl, rfl, _, rfl, iteF ?_⟩
      refine ⟨_, rfl, _, _, _, _, rfl, rfl, SqL.of hl, at_of (show (0 : Int) = ((0 : Nat) : Int) from rfl) rfl, rfl, _, rfl, iteT ?_⟩
      exact ⟨_, rfl, L.p, dw, _, rfl, hob, F_World_m_write, _, rfl, _, _, _, _, rfl, rfl, SqL.of hl, at_of (show (1 : Int) = ((1 : Nat) : Int) from rfl) rfl, _, rfl, _, _, _, _, rfl, rfl, SqL.of hl, at_of (show (2 : Int) = ((2 : Nat) : Int) from rfl) rfl, _, rfl, _, _, _, _, rfl, rfl, SqL.of hl, at_of (show (3 : Int) = ((3 : Nat) : Int) from rfl) rfl, L, W, i, x, v, rfl, wa, ok, hops, k⟩
    | take n hn =>
      cases hW
      refine ⟨_, rfl, _, _, _, _, rfl, rfl, SqL.of hl, at_of (show (0 : Int) = ((0 : Nat) : Int) from rfl) rfl, rfl, _, rfl, iteF ?_⟩
      refine ⟨_, rfl, _, _, _, _, rfl, rfl, SqL.of hl, at_of (show (0 : Int) = ((0 : Nat) : Int) from rfl) rfl, rfl, _, rfl, iteF ?_⟩
      refine ⟨_, rfl, _, _, _, _, rfl, rfl, SqL.of hl, at_of (show (0 : Int) = ((0 : Nat) : Int) from rfl) rfl, rfl, _, rfl, iteT ?_⟩
      exact ⟨_, rfl, L.p, dw, _, rfl, hob, F_World_m_take, _, rfl, _, _, _, _, rfl, rfl, SqL.of hl, at_of (show (1 : Int) = ((1 : Nat) : Int) from rfl) rfl, L, W, n, rfl, wa, ok, (by omega), k⟩
    | again n hn =>
      cases hW
      refine ⟨_, rfl, _, _, _, _, rfl, rfl, SqL.of hl, at_of (show (0 : Int) = ((0 : Nat) : Int) from rfl) rfl, rfl, _, rfl, iteF ?_⟩
      refine ⟨_, rfl, _, _, _, _, rfl, rfl, SqL.of hl, at_of (show (0 : Int) = ((0 : Nat) : Int) from rfl) rfl, rfl, _, rfl, iteF ?_⟩
      refine ⟨_, rfl, _, _, _, _, rfl, rfl, SqL.of hl, at_of (show (0 : Int) = ((0 : Nat) : Int) from rfl) rfl, rfl, _, rfl, iteF ?_⟩
      refine ⟨_, rfl, _, _, _, _, rfl, rfl, SqL.of hl, at_of (show (0 : Int) = ((0 : Nat) : Int) from rfl) rfl, rfl, _, rfl, iteT ?_⟩
      exact ⟨_, rfl, L.p, dw, _, rfl, hob, F_World_m_again, _, rfl, _, _, _, _, rfl, rfl, SqL.of hl, at_of (show (1 : Int) = ((1 : Nat) : Int) from rfl) rfl, L, W, n, rfl, wa, ok, (by omega), k⟩
    | lose n hn =>
      cases hW
      refine ⟨_, rfl, _, _, _, _, rfl, rfl, SqL.of hl, at_of (show (0 : Int) = ((0 : Nat) : Int) from rfl) rfl, rfl, _, rfl, iteF ?_⟩
      refine ⟨_, rfl, _, _, _, _, rfl, rfl, SqL.of hl, at_of (show (0 : Int) = ((0 : Nat) : Int) from rfl) rfl, rfl, _, rfl, iteF ?_⟩
      refine ⟨_, rfl, _, _, _, _, rfl, rfl, SqL.of hl, at_of (show (0 : Int) = ((0 : Nat) : Int) from rfl) rfl, rfl, _, rfl, iteF ?_⟩
      refine ⟨_, rfl, _, _, _, _, rfl, rfl, SqL.of hl, at_of (show (0 : Int) = ((0 : Nat) : Int) from rfl) rfl, rfl, _, rfl, iteF ?_⟩
      refine ⟨_, rfl, _, _, _, _, rfl, rfl, SqL.of hl, at_of (show (0 : Int) = ((0 : Nat) : Int) from rfl) rfl, rfl, _, rfl, iteT ?_⟩
      exact ⟨_, rfl, L.p, dw, _, rfl, hob, F_World_m_lose, _, rfl, _, _, _, _, rfl, rfl, SqL.of hl, at_of (show (1 : Int) = ((1 : Nat) : Int) from rfl) rfl, L, W, n, rfl, wa, ok, (by omega), k⟩
    | nudge n hn =>
      cases hW
      refine ⟨_, rfl, _, _, _, _, rfl, rfl, SqL.of hl, at_of (show (0 : Int) = ((0 : Nat) : Int) from rfl) rfl, rfl, _, rfl, iteF ?_⟩
      refine ⟨_, rfl, _, _, _, _, rfl, rfl, SqL.of hl, at_of (show (0 : Int) = ((0 : Nat) : Int) from rfl) rfl, rfl, _, rfl, iteF ?_⟩
      refine ⟨_, rfl, _, _, _, _, rfl, rfl, SqL.of hl, at_of (show (0 : Int) = ((0 : Nat) : Int) from rfl) rfl, rfl, _, rfl, iteF ?_⟩
      refine ⟨_, rfl, _, _, _, _, rfl, rfl, SqL.of hl, at_of (show (0 : Int) = ((0 : Nat) : Int) from rfl) rfl, rfl, _, rfl, iteF ?_⟩
      refine ⟨_, rfl, _, _, _, _, rfl, rfl, SqL.of hl, at_of (show (0 : Int) = ((0 : Nat) : Int) from rfl) rfl, rfl, _, rfl, iteF ?_⟩
      refine ⟨_, rfl, _, _, _, _, rfl, rfl, SqL.of hl, at_of (show (0 : Int) = ((0 : Nat) : Int) from rfl) rfl, rfl, _, rfl, iteT ?_⟩
      exact ⟨_, rfl, L.p, dw, _, rfl, hob, F_World_m_nudge, _, rfl, _, _, _, _, rfl, rfl, SqL.of hl, at_of (show (1 : Int) = ((1 : Nat) : Int) from rfl) rfl, L, W, n, rfl, wa, ok, (by omega), k⟩
    | quit n hn =>
      cases hW
      refine ⟨_, rfl, _, _, _, _, rfl, rfl, SqL.of hl, at_of (show (0 : Int) = ((0 : Nat) : Int) from rfl) rfl, rfl, _, rfl, iteF ?_⟩
      refine ⟨_, rfl, _, _, _, _, rfl, rfl, SqL.of hl, at_of (show (0 : Int) = ((0 : Nat) : Int) from rfl) rfl, rfl, _, rfl, iteF ?_⟩
      refine ⟨_, rfl, _, _, _, _, rfl, rfl, SqL.of hl, at_of (show (0 : Int) = ((0 : Nat) : Int) from rfl) rfl, rfl, _, rfl, iteF ?_⟩
      refine ⟨_, rfl, _, _, _, _, rfl, rfl, SqL.of hl, at_of (show (0 : Int) = ((0 : Nat) : Int) from rfl) rfl, rfl, _, rfl, iteF ?_⟩
      refine ⟨_, rfl, _, _, _, _, rfl, rfl, SqL.of hl, at_of (show (0 : Int) = ((0 : Nat) : Int) from rfl) rfl, rfl, _, rfl, iteF ?_⟩
      refine ⟨_, rfl, _, _, _, _, rfl, rfl, SqL.of hl, at_of (show (0 : Int) = ((0 : Nat) : Int) from rfl) rfl, rfl, _, rfl, iteF ?_⟩
      refine ⟨_, rfl, _, _, _, _, rfl, rfl, SqL.of hl, at_of (show (0 : Int) = ((0 : Nat) : Int) from rfl) rfl, rfl, _, rfl, iteT ?_⟩
      exact ⟨_, rfl, L.p, dw, _, rfl, hob, F_World_m_leave, _, rfl, _, _, _, _, rfl, rfl, SqL.of hl, at_of (show (1 : Int) = ((1 : Nat) : Int) from rfl) rfl, L, W, n, rfl, wa, ok, (by omega), k⟩
    | halt_ n hn =>
      cases hW
      refine ⟨_, rfl, _, _, _, _, rfl, rfl, SqL.of hl, at_of (show (0 : Int) = ((0 : Nat) : Int) from rfl) rfl, rfl, _, rfl, iteF ?_⟩
      refine ⟨_, rfl, _, _, _, _, rfl, rfl, SqL.of hl, at_of (show (0 : Int) = ((0 : Nat) : Int) from rfl) rfl, rfl, _, rfl, iteF ?_⟩
      refine ⟨_, rfl, _, _, _, _, rfl, rfl, SqL.of hl, at_of (show (0 : Int) = ((0 : Nat) : Int) from rfl) rfl, rfl, _, rfl, iteF ?_⟩
      refine ⟨_, rfl, _, _, _, _, rfl, rfl, SqL.of hl, at_of (show (0 : Int) = ((0 : Nat) : Int) from rfl) rfl, rfl, _, rfl, iteF ?_⟩
      refine ⟨_, rfl, _, _, _, _, rfl, rfl, SqL.of hl, at_of (show (0 : Int) = ((0 : Nat) : Int) from rfl) rfl, rfl, _, rfl, iteF ?_⟩
      refine ⟨_, rfl, _, _, _, _, rfl, rfl, SqL.of hl, at_of (show (0 : Int) = ((0 : Nat) : Int) from rfl) rfl, rfl, _, rfl, iteF ?_⟩
      refine ⟨_, rfl, _, _, _, _, rfl, rfl, SqL.of hl, at_of (show (0 : Int) = ((0 : Nat) : Int) from rfl) rfl, rfl, _, rfl, iteF ?_⟩
      refine ⟨_, rfl, _, _, _, _, rfl, rfl, SqL.of hl, at_of (show (0 : Int) = ((0 : Nat) : Int) from rfl) rfl, rfl, _, rfl, iteT ?_⟩
      exact ⟨_, rfl, L.p, dw, _, rfl, hob, F_World_m_stop_node, _, rfl, _, _, _, _, rfl, rfl, SqL.of hl, at_of (show (1 : Int) = ((1 : Nat) : Int) from rfl) rfl, L, W, n, rfl, wa, ok, (by omega), k⟩
    | start n hn =>
      cases hW
      refine ⟨_, rfl, _, _, _, _, rfl, rfl, SqL.of hl, at_of (show (0 : Int) = ((0 : Nat) : Int) from rfl) rfl, rfl, _, rfl, iteF ?_⟩
      refine ⟨_, rfl, _, _, _, _, rfl, rfl, SqL.of hl, at_of (show (0 : Int) = ((0 : Nat) : Int) from rfl) rfl, rfl, _, rfl, iteF ?_⟩
      refine ⟨_, rfl, _, _, _, _, rfl, rfl, SqL.of hl, at_of (show (0 : Int) = ((0 : Nat) : Int) from rfl) rfl, rfl, _, rfl, iteF ?_⟩
      refine ⟨_, rfl, _, _, _, _, rfl, rfl, SqL.of hl, at_of (show (0 : Int) = ((0 : Nat) : Int) from rfl) rfl, rfl, _, rfl, iteF ?_⟩
      refine ⟨_, rfl, _, _, _, _, rfl, rfl, SqL.of hl, at_of (show (0 : Int) = ((0 : Nat) : Int) from rfl) rfl, rfl, _, rfl, iteF ?_⟩
      refine ⟨_, rfl, _, _, _, _, rfl, rfl, SqL.of hl, at_of (show (0 : Int) = ((0 : Nat) : Int) from rfl) rfl, rfl, _, rfl, iteF ?_⟩
      refine ⟨_, rfl, _, _, _, _, rfl, rfl, SqL.of hl, at_of (show (0 : Int) = ((0 : Nat) : Int) from rfl) rfl, rfl, _, rfl, iteF ?_⟩
      refine ⟨_, rfl, _, _, _, _, rfl, rfl, SqL.of hl, at_of (show (0 : Int) = ((0 : Nat) : Int) from rfl) rfl, rfl, _, rfl, iteF ?_⟩
      refine ⟨_, rfl, _, _, _, _, rfl, rfl, SqL.of hl, at_of (show (0 : Int) = ((0 : Nat) : Int) from rfl) rfl, rfl, _, rfl, iteT ?_⟩
      exact ⟨_, rfl, L.p, dw, _, rfl, hob, F_World_m_start_node, _, rfl, _, _, _, _, rfl, rfl, SqL.of hl, at_of (show (1 : Int) = ((1 : Nat) : Int) from rfl) rfl, L, W, n, rfl, wa, ok, (by omega), k⟩
    | letters =>
      cases hW
      have k : Res A L H W (Ag02.step (some W.abs) .letters).2 Q := k
      rw [letters_tell] at k
      refine ⟨_, rfl, _, _, _, _, rfl, rfl, SqL.of hl, at_of (show (0 : Int) = ((0 : Nat) : Int) from rfl) rfl, rfl, _, rfl, iteF ?_⟩
      refine ⟨_, rfl, _, _, _, _, rfl, rfl, SqL.of hl, at_of (show (0 : Int) = ((0 : Nat) : Int) from rfl) rfl, rfl, _, rfl, iteF ?_⟩
      refine ⟨_, rfl, _, _, _, _, rfl, rfl, SqL.of hl, at_of (show (0 : Int) = ((0 : Nat) : Int) from rfl) rfl, rfl, _, rfl, iteF ?_⟩
      refine ⟨_, rfl, _, _, _, _, rfl, rfl, SqL.of hl, at_of (show (0 : Int) = ((0 : Nat) : Int) from rfl) rfl, rfl, _, rfl, iteF ?_⟩
      refine ⟨_, rfl, _, _, _, _, rfl, rfl, SqL.of hl, at_of (show (0 : Int) = ((0 : Nat) : Int) from rfl) rfl, rfl, _, rfl, iteF ?_⟩
      refine ⟨_, rfl, _, _, _, _, rfl, rfl, SqL.of hl, at_of (show (0 : Int) = ((0 : Nat) : Int) from rfl) rfl, rfl, _, rfl, iteF ?_⟩
      refine ⟨_, rfl, _, _, _, _, rfl, rfl, SqL.of hl, at_of (show (0 : Int) = ((0 : Nat) : Int) from rfl) rfl, rfl, _, rfl, iteF ?_⟩
      refine ⟨_, rfl, _, _, _, _, rfl, rfl, SqL.of hl, at_of (show (0 : Int) = ((0 : Nat) : Int) from rfl) rfl, rfl, _, rfl, iteF ?_⟩
      refine ⟨_, rfl, _, _, _, _, rfl, rfl, SqL.of hl, at_of (show (0 : Int) = ((0 : Nat) : Int) from rfl) rfl, rfl, _, rfl, iteF ?_⟩
      refine ⟨_, rfl, _, _, _, _, rfl, rfl, SqL.of hl, at_of (show (0 : Int) = ((0 : Nat) : Int) from rfl) rfl, rfl, _, rfl, iteT ?_⟩
      exact ⟨_, rfl, L.p, dw, _, rfl, hob, F_World_m_tell_letters, L, W, rfl, wa, ok, hops, k⟩
    | node n hn =>
      cases hW
      have k : Res A L H W (Ag02.step (some W.abs) (.node n)).2 Q := k
      rw [node_tell] at k
      refine ⟨_, rfl, _, _, _, _, rfl, rfl, SqL.of hl, at_of (show (0 : Int) = ((0 : Nat) : Int) from rfl) rfl, rfl, _, rfl, iteF ?_⟩
      refine ⟨_, rfl, _, _, _, _, rfl, rfl, SqL.of hl, at_of (show (0 : Int) = ((0 : Nat) : Int) from rfl) rfl, rfl, _, rfl, iteF ?_⟩
      refine ⟨_, rfl, _, _, _, _, rfl, rfl, SqL.of hl, at_of (show (0 : Int) = ((0 : Nat) : Int) from rfl) rfl, rfl, _, rfl, iteF ?_⟩
      refine ⟨_, rfl, _, _, _, _, rfl, rfl, SqL.of hl, at_of (show (0 : Int) = ((0 : Nat) : Int) from rfl) rfl, rfl, _, rfl, iteF ?_⟩
      refine ⟨_, rfl, _, _, _, _, rfl, rfl, SqL.of hl, at_of (show (0 : Int) = ((0 : Nat) : Int) from rfl) rfl, rfl, _, rfl, iteF ?_⟩
      refine ⟨_, rfl, _, _, _, _, rfl, rfl, SqL.of hl, at_of (show (0 : Int) = ((0 : Nat) : Int) from rfl) rfl, rfl, _, rfl, iteF ?_⟩
      refine ⟨_, rfl, _, _, _, _, rfl, rfl, SqL.of hl, at_of (show (0 : Int) = ((0 : Nat) : Int) from rfl) rfl, rfl, _, rfl, iteF ?_⟩
      refine ⟨_, rfl, _, _, _, _, rfl, rfl, SqL.of hl, at_of (show (0 : Int) = ((0 : Nat) : Int) from rfl) rfl, rfl, _, rfl, iteF ?_⟩
      refine ⟨_, rfl, _, _, _, _, rfl, rfl, SqL.of hl, at_of (show (0 : Int) = ((0 : Nat) : Int) from rfl) rfl, rfl, _, rfl, iteF ?_⟩
      refine ⟨_, rfl, _, _, _, _, rfl, rfl, SqL.of hl, at_of (show (0 : Int) = ((0 : Nat) : Int) from rfl) rfl, rfl, _, rfl, iteF ?_⟩
      refine ⟨_, rfl, _, _, _, _, rfl, rfl, SqL.of hl, at_of (show (0 : Int) = ((0 : Nat) : Int) from rfl) rfl, rfl, _, rfl, iteT ?_⟩
      exact ⟨_, rfl, L.p, dw, _, rfl, hob, F_World_m_tell_node, _, rfl, _, _, _, _, rfl, rfl, SqL.of hl, at_of (show (1 : Int) = ((1 : Nat) : Int) from rfl) rfl, L, W, n, rfl, wa, ok, (by omega), k⟩
    | client n hn =>
      cases hW
      have k : Res A L H W (Ag02.step (some W.abs) (.client n)).2 Q := k
      rw [client_tell ok] at k
      refine ⟨_, rfl, _, _, _, _, rfl, rfl, SqL.of hl, at_of (show (0 : Int) = ((0 : Nat) : Int) from rfl) rfl, rfl, _, rfl, iteF ?_⟩
      refine ⟨_, rfl, _, _, _, _, rfl, rfl, SqL.of hl, at_of (show (0 : Int) = ((0 : Nat) : Int) from rfl) rfl, rfl, _, rfl, iteF ?_⟩
      refine ⟨_, rfl, _, _, _, _, rfl, rfl, SqL.of hl, at_of (show (0 : Int) = ((0 : Nat) : Int) from rfl) rfl, rfl, _, rfl, iteF ?_⟩
      refine ⟨_, rfl, _, _, _, _, rfl, rfl, SqL.of hl, at_of (show (0 : Int) = ((0 : Nat) : Int) from rfl) rfl, rfl, _, rfl, iteF ?_⟩
      refine ⟨_, rfl, _, _, _, _, rfl, rfl, SqL.of hl, at_of (show (0 : Int) = ((0 : Nat) : Int) from rfl) rfl, rfl, _, rfl, iteF ?_⟩
      refine ⟨_, rfl, _, _, _, _, rfl, rfl, SqL.of hl, at_of (show (0 : Int) = ((0 : Nat) : Int) from rfl) rfl, rfl, _, rfl, iteF ?_⟩
      refine ⟨_, rfl, _, _, _, _, rfl, rfl, SqL.of hl, at_of (show (0 : Int) = ((0 : Nat) : Int) from rfl) rfl, rfl, _, rfl, iteF ?_⟩
      refine ⟨_, rfl, _, _, _, _, rfl, rfl, SqL.of hl, at_of (show (0 : Int) = ((0 : Nat) : Int) from rfl) rfl, rfl, _, rfl, iteF ?_⟩
      refine ⟨_, rfl, _, _, _, _, rfl, rfl, SqL.of hl, at_of (show (0 : Int) = ((0 : Nat) : Int) from rfl) rfl, rfl, _, rfl, iteF ?_⟩
      refine ⟨_, rfl, _, _, _, _, rfl, rfl, SqL.of hl, at_of (show (0 : Int) = ((0 : Nat) : Int) from rfl) rfl, rfl, _, rfl, iteF ?_⟩
      refine ⟨_, rfl, _, _, _, _, rfl, rfl, SqL.of hl, at_of (show (0 : Int) = ((0 : Nat) : Int) from rfl) rfl, rfl, _, rfl, iteF ?_⟩
      refine ⟨_, rfl, _, _, _, _, rfl, rfl, SqL.of hl, at_of (show (0 : Int) = ((0 : Nat) : Int) from rfl) rfl, rfl, _, rfl, iteT ?_⟩
      exact ⟨_, rfl, L.p, dw, _, rfl, hob, F_World_m_tell_client, _, rfl, _, _, _, _, rfl, rfl, SqL.of hl, at_of (show (1 : Int) = ((1 : Nat) : Int) from rfl) rfl, L, W, n, rfl, wa, ok, (by omega), k⟩
    | record =>
      cases hW
      have k : Res A L H W (Ag02.step (some W.abs) .record).2 Q := k
      rw [record_tell rc] at k
      refine ⟨_, rfl, _, _, _, _, rfl, rfl, SqL.of hl, at_of (show (0 : Int) = ((0 : Nat) : Int) from rfl) rfl, rfl, _, rfl, iteF ?_⟩
      refine ⟨_, rfl, _, _, _, _, rfl, rfl, SqL.of hl, at_of (show (0 : Int) = ((0 : Nat) : Int) from rfl) rfl, rfl, _, rfl, iteF ?_⟩
      refine ⟨_, rfl, _, _, _, _, rfl, rfl, SqL.of hl, at_of (show (0 : Int) = ((0 : Nat) : Int) from rfl) rfl, rfl, _, rfl, iteF ?_⟩
      refine ⟨_, rfl, _, _, _, _, rfl, rfl, SqL.of hl, at_of (show (0 : Int) = ((0 : Nat) : Int) from rfl) rfl, rfl, _, rfl, iteF ?_⟩
      refine ⟨_, rfl, _, _, _, _, rfl, rfl, SqL.of hl, at_of (show (0 : Int) = ((0 : Nat) : Int) from rfl) rfl, rfl, _, rfl, iteF ?_⟩
      refine ⟨_, rfl, _, _, _, _, rfl, rfl, SqL.of hl, at_of (show (0 : Int) = ((0 : Nat) : Int) from rfl) rfl, rfl, _, rfl, iteF ?_⟩
      refine ⟨_, rfl, _, _, _, _, rfl, rfl, SqL.of hl, at_of (show (0 : Int) = ((0 : Nat) : Int) from rfl) rfl, rfl, _, rfl, iteF ?_⟩
      refine ⟨_, rfl, _, _, _, _, rfl, rfl, SqL.of hl, at_of (show (0 : Int) = ((0 : Nat) : Int) from rfl) rfl, rfl, _, rfl, iteF ?_⟩
      refine ⟨_, rfl, _, _, _, _, rfl, rfl, SqL.of hl, at_of (show (0 : Int) = ((0 : Nat) : Int) from rfl) rfl, rfl, _, rfl, iteF ?_⟩
      refine ⟨_, rfl, _, _, _, _, rfl, rfl, SqL.of hl, at_of (show (0 : Int) = ((0 : Nat) : Int) from rfl) rfl, rfl, _, rfl, iteF ?_⟩
      refine ⟨_, rfl, _, _, _, _, rfl, rfl, SqL.of hl, at_of (show (0 : Int) = ((0 : Nat) : Int) from rfl) rfl, rfl, _, rfl, iteF ?_⟩
      refine ⟨_, rfl, _, _, _, _, rfl, rfl, SqL.of hl, at_of (show (0 : Int) = ((0 : Nat) : Int) from rfl) rfl, rfl, _, rfl, iteF ?_⟩
      exact ⟨_, rfl, L.p, dw, _, rfl, hob, F_World_m_tell_record, L, W, rfl, wa, ok, hops, k⟩
end
end Cb

namespace Cb
open PySem PySem.Spec PyProof.Rows L2
theorem txt_mk {K : PySem.W.Frag} {h : Heap} {mg : Str → Option Value} {C_Letter C_Node C_Operation C_Client C_World f1 f2 f3 f4 f5 f6 f7 f8 f9 f10 f11 f12 f13 f14 f15 f16 f17 f18 f19 f20 f21 f22 f23 f24 f25 f26 f27 f28 f29 f30 f31 f32 f33 f34 f35 f36 f37 f38 f39 f40 f41 f42 f43 f44 f45 f46 f47 f48 f49 f50 f51 z_ZERO_COPY z_NUMBERS_BEHIND : Addr} (X : K.In h) (G : h.Ns mainGlobals mg)
    {od1 an1 od2 an2 od3 an3 od4 an4 od5 an5 od6 an6 od7 an7 od8 an8 od9 an9 od10 an10 od11 an11 od12 an12 od13 an13 od14 an14 od15 an15 od16 an16 od17 an17 od18 an18 od19 an19 od20 an20 od21 an21 od22 an22 od23 an23 od24 an24 od25 an25 od26 an26 od27 an27 od28 an28 od29 an29 od30 an30 od31 an31 od32 an32 od33 an33 od34 an34 od35 an35 od36 an36 od37 an37 od38 an38 od39 an39 od40 an40 od41 an41 od42 an42 od43 an43 od44 an44 od45 an45 od46 an46 od47 an47 od48 an48 od49 an49 od50 an50 od51 an51 : Option Addr} {sl1 sl2 sl3 sl4 sl5 sl6 sl7 sl8 sl9 sl10 sl11 sl12 sl13 sl14 sl15 sl16 sl17 sl18 sl19 sl20 sl21 sl22 sl23 sl24 sl25 sl26 sl27 sl28 sl29 sl30 sl31 sl32 sl33 sl34 sl35 sl36 sl37 sl38 sl39 sl40 sl41 sl42 sl43 sl44 sl45 sl46 sl47 sl48 sl49 sl50 sl51 : Array (Option Value)} {oc1 kV1 dc1 pm1 cd1 ct1 oc2 kV2 dc2 pm2 cd2 ct2 oc3 kV3 dc3 pm3 cd3 ct3 oc4 kV4 dc4 pm4 cd4 ct4 oc5 kV5 dc5 pm5 cd5 ct5 oc6 kV6 dc6 pm6 cd6 ct6 oc7 kV7 dc7 pm7 cd7 ct7 oc8 kV8 dc8 pm8 cd8 ct8 oc9 kV9 dc9 pm9 cd9 ct9 oc10 kV10 dc10 pm10 cd10 ct10 oc11 kV11 dc11 pm11 cd11 ct11 oc12 kV12 dc12 pm12 cd12 ct12 oc13 kV13 dc13 pm13 cd13 ct13 oc14 kV14 dc14 pm14 cd14 ct14 oc15 kV15 dc15 pm15 cd15 ct15 oc16 kV16 dc16 pm16 cd16 ct16 oc17 kV17 dc17 pm17 cd17 ct17 oc18 kV18 dc18 pm18 cd18 ct18 oc19 kV19 dc19 pm19 cd19 ct19 oc20 kV20 dc20 pm20 cd20 ct20 oc21 kV21 dc21 pm21 cd21 ct21 oc22 kV22 dc22 pm22 cd22 ct22 oc23 kV23 dc23 pm23 cd23 ct23 oc24 kV24 dc24 pm24 cd24 ct24 oc25 kV25 dc25 pm25 cd25 ct25 oc26 kV26 dc26 pm26 cd26 ct26 oc27 kV27 dc27 pm27 cd27 ct27 oc28 kV28 dc28 pm28 cd28 ct28 oc29 kV29 dc29 pm29 cd29 ct29 oc30 kV30 dc30 pm30 cd30 ct30 oc31 kV31 dc31 pm31 cd31 ct31 oc32 kV32 dc32 pm32 cd32 ct32 oc33 kV33 dc33 pm33 cd33 ct33 oc34 kV34 dc34 pm34 cd34 ct34 oc35 kV35 dc35 pm35 cd35 ct35 oc36 kV36 dc36 pm36 cd36 ct36 oc37 kV37 dc37 pm37 cd37 ct37 oc38 kV38 dc38 pm38 cd38 ct38 oc39 kV39 dc39 pm39 cd39 ct39 oc40 kV40 dc40 pm40 cd40 ct40 oc41 kV41 dc41 pm41 cd41 ct41 oc42 kV42 dc42 pm42 cd42 ct42 oc43 kV43 dc43 pm43 cd43 ct43 oc44 kV44 dc44 pm44 cd44 ct44 oc45 kV45 dc45 pm45 cd45 ct45 oc46 kV46 dc46 pm46 cd46 ct46 oc47 kV47 dc47 pm47 cd47 ct47 oc48 kV48 dc48 pm48 cd48 ct48 oc49 kV49 dc49 pm49 cd49 ct49 oc50 kV50 dc50 pm50 cd50 ct50 oc51 kV51 dc51 pm51 cd51 ct51 : Value} {t_CELLS t_ASKS t_TELLS t_KEEP t_KEPT t_CLIENTS t_MOST_NODES t_GREATEST_WEIGHT t_GREATEST_VALUE t_ROOM t_NO_USE t_ANSWERED t_COUNTED t_GOES_ON t_ENDED t_NO_SUCH t_NOT_NOW t_NO_WORLD t_BEGIN t_READ t_WRITE t_TAKE t_AGAIN t_LOSE t_NUDGE t_QUIT t_STOP t_START t_LETTERS t_NODE t_CLIENT : Tok} {o_ZERO_COPY : Obj} {its_ZERO_COPY : Array Value} {sn_ZERO_COPY : Nat} {es_NUMBERS_BEHIND : Array DictEntry} {en_NUMBERS_BEHIND : Nat}
    (gC_Letter : PySem.W.nsIn K mainGlobals "Letter" = some (some (.ref C_Letter)))
    (gC_Node : PySem.W.nsIn K mainGlobals "Node" = some (some (.ref C_Node)))
    (gC_Operation : PySem.W.nsIn K mainGlobals "Operation" = some (some (.ref C_Operation)))
    (gC_Client : PySem.W.nsIn K mainGlobals "Client" = some (some (.ref C_Client)))
    (gC_World : PySem.W.nsIn K mainGlobals "World" = some (some (.ref C_World)))
    (a1 : PySem.W.nsIn K mainGlobals "one_or_zero" = some (some (.ref f1)))
    (l1 : K.lookup f1 = some ⟨oc1, od1, .func (PySem.W.fnOf "one_or_zero" "one_or_zero" (defArgs s_one_or_zero) (defBody s_one_or_zero) (defScope s_one_or_zero) .none kV1 dc1 pm1 an1 cd1 ct1), sl1⟩)
    (c1 : PySem.W.codeIn K cd1 "one_or_zero" = true)
    (k1 : PySem.W.keepIn K (.ref f1) = true)
    (a2 : PySem.W.nsIn K mainGlobals "has_greater_stamp" = some (some (.ref f2)))
    (l2 : K.lookup f2 = some ⟨oc2, od2, .func (PySem.W.fnOf "has_greater_stamp" "has_greater_stamp" (defArgs s_has_greater_stamp) (defBody s_has_greater_stamp) (defScope s_has_greater_stamp) .none kV2 dc2 pm2 an2 cd2 ct2), sl2⟩)
    (c2 : PySem.W.codeIn K cd2 "has_greater_stamp" = true)
    (k2 : PySem.W.keepIn K (.ref f2) = true)
    (a3 : PySem.W.nsIn K mainGlobals "has_same_stamp" = some (some (.ref f3)))
    (l3 : K.lookup f3 = some ⟨oc3, od3, .func (PySem.W.fnOf "has_same_stamp" "has_same_stamp" (defArgs s_has_same_stamp) (defBody s_has_same_stamp) (defScope s_has_same_stamp) .none kV3 dc3 pm3 an3 cd3 ct3), sl3⟩)
    (c3 : PySem.W.codeIn K cd3 "has_same_stamp" = true)
    (k3 : PySem.W.keepIn K (.ref f3) = true)
    (a4 : PySem.W.nsIn K mainGlobals "best_of" = some (some (.ref f4)))
    (l4 : K.lookup f4 = some ⟨oc4, od4, .func (PySem.W.fnOf "best_of" "best_of" (defArgs s_best_of) (defBody s_best_of) (defScope s_best_of) .none kV4 dc4 pm4 an4 cd4 ct4), sl4⟩)
    (c4 : PySem.W.codeIn K cd4 "best_of" = true)
    (k4 : PySem.W.keepIn K (.ref f4) = true)
    (a5 : PySem.W.findIn K (.ref C_Letter) "__init__" = some (some (.ref f5)))
    (i5 : PySem.W.isFn K (.ref f5) = true)
    (l5 : K.lookup f5 = some ⟨oc5, od5, .func (PySem.W.fnOf "__init__" "Letter.__init__" (defArgs s_Letter_init) (defBody s_Letter_init) (defScope s_Letter_init) .none kV5 dc5 pm5 an5 cd5 ct5), sl5⟩)
    (c5 : PySem.W.codeIn K cd5 "Letter.__init__" = true)
    (k5 : PySem.W.keepIn K (.ref f5) = true)
    (a6 : PySem.W.findIn K (.ref C_Letter) "in_numbers" = some (some (.ref f6)))
    (i6 : PySem.W.isFn K (.ref f6) = true)
    (l6 : K.lookup f6 = some ⟨oc6, od6, .func (PySem.W.fnOf "in_numbers" "Letter.in_numbers" (defArgs s_Letter_in_numbers) (defBody s_Letter_in_numbers) (defScope s_Letter_in_numbers) .none kV6 dc6 pm6 an6 cd6 ct6), sl6⟩)
    (c6 : PySem.W.codeIn K cd6 "Letter.in_numbers" = true)
    (k6 : PySem.W.keepIn K (.ref f6) = true)
    (a7 : PySem.W.nsIn K mainGlobals "reply_to" = some (some (.ref f7)))
    (l7 : K.lookup f7 = some ⟨oc7, od7, .func (PySem.W.fnOf "reply_to" "reply_to" (defArgs s_reply_to) (defBody s_reply_to) (defScope s_reply_to) .none kV7 dc7 pm7 an7 cd7 ct7), sl7⟩)
    (c7 : PySem.W.codeIn K cd7 "reply_to" = true)
    (k7 : PySem.W.keepIn K (.ref f7) = true)
    (a8 : PySem.W.findIn K (.ref C_Node) "__init__" = some (some (.ref f8)))
    (i8 : PySem.W.isFn K (.ref f8) = true)
    (l8 : K.lookup f8 = some ⟨oc8, od8, .func (PySem.W.fnOf "__init__" "Node.__init__" (defArgs s_Node_init) (defBody s_Node_init) (defScope s_Node_init) .none kV8 dc8 pm8 an8 cd8 ct8), sl8⟩)
    (c8 : PySem.W.codeIn K cd8 "Node.__init__" = true)
    (k8 : PySem.W.keepIn K (.ref f8) = true)
    (a9 : PySem.W.findIn K (.ref C_Node) "answer_to" = some (some (.ref f9)))
    (i9 : PySem.W.isFn K (.ref f9) = true)
    (l9 : K.lookup f9 = some ⟨oc9, od9, .func (PySem.W.fnOf "answer_to" "Node.answer_to" (defArgs s_Node_answer_to) (defBody s_Node_answer_to) (defScope s_Node_answer_to) .none kV9 dc9 pm9 an9 cd9 ct9), sl9⟩)
    (c9 : PySem.W.codeIn K cd9 "Node.answer_to" = true)
    (k9 : PySem.W.keepIn K (.ref f9) = true)
    (a10 : PySem.W.findIn K (.ref C_Node) "in_numbers" = some (some (.ref f10)))
    (i10 : PySem.W.isFn K (.ref f10) = true)
    (l10 : K.lookup f10 = some ⟨oc10, od10, .func (PySem.W.fnOf "in_numbers" "Node.in_numbers" (defArgs s_Node_in_numbers) (defBody s_Node_in_numbers) (defScope s_Node_in_numbers) .none kV10 dc10 pm10 an10 cd10 ct10), sl10⟩)
    (c10 : PySem.W.codeIn K cd10 "Node.in_numbers" = true)
    (k10 : PySem.W.keepIn K (.ref f10) = true)
    (a11 : PySem.W.findIn K (.ref C_Operation) "__init__" = some (some (.ref f11)))
    (i11 : PySem.W.isFn K (.ref f11) = true)
    (l11 : K.lookup f11 = some ⟨oc11, od11, .func (PySem.W.fnOf "__init__" "Operation.__init__" (defArgs s_Operation_init) (defBody s_Operation_init) (defScope s_Operation_init) .none kV11 dc11 pm11 an11 cd11 ct11), sl11⟩)
    (c11 : PySem.W.codeIn K cd11 "Operation.__init__" = true)
    (k11 : PySem.W.keepIn K (.ref f11) = true)
    (a12 : PySem.W.findIn K (.ref C_Operation) "counted_nodes" = some (some (.ref f12)))
    (i12 : PySem.W.isFn K (.ref f12) = true)
    (l12 : K.lookup f12 = some ⟨oc12, od12, .func (PySem.W.fnOf "counted_nodes" "Operation.counted_nodes" (defArgs s_Operation_counted_nodes) (defBody s_Operation_counted_nodes) (defScope s_Operation_counted_nodes) .none kV12 dc12 pm12 an12 cd12 ct12), sl12⟩)
    (c12 : PySem.W.codeIn K cd12 "Operation.counted_nodes" = true)
    (k12 : PySem.W.keepIn K (.ref f12) = true)
    (a13 : PySem.W.findIn K (.ref C_Operation) "nodes_that_told" = some (some (.ref f13)))
    (i13 : PySem.W.isFn K (.ref f13) = true)
    (l13 : K.lookup f13 = some ⟨oc13, od13, .func (PySem.W.fnOf "nodes_that_told" "Operation.nodes_that_told" (defArgs s_Operation_nodes_that_told) (defBody s_Operation_nodes_that_told) (defScope s_Operation_nodes_that_told) .none kV13 dc13 pm13 an13 cd13 ct13), sl13⟩)
    (c13 : PySem.W.codeIn K cd13 "Operation.nodes_that_told" = true)
    (k13 : PySem.W.keepIn K (.ref f13) = true)
    (a14 : PySem.W.findIn K (.ref C_Operation) "letter_to" = some (some (.ref f14)))
    (i14 : PySem.W.isFn K (.ref f14) = true)
    (l14 : K.lookup f14 = some ⟨oc14, od14, .func (PySem.W.fnOf "letter_to" "Operation.letter_to" (defArgs s_Operation_letter_to) (defBody s_Operation_letter_to) (defScope s_Operation_letter_to) .none kV14 dc14 pm14 an14 cd14 ct14), sl14⟩)
    (c14 : PySem.W.codeIn K cd14 "Operation.letter_to" = true)
    (k14 : PySem.W.keepIn K (.ref f14) = true)
    (a15 : PySem.W.findIn K (.ref C_Operation) "progress_in_numbers" = some (some (.ref f15)))
    (i15 : PySem.W.isFn K (.ref f15) = true)
    (l15 : K.lookup f15 = some ⟨oc15, od15, .func (PySem.W.fnOf "progress_in_numbers" "Operation.progress_in_numbers" (defArgs s_Operation_progress_in_numbers) (defBody s_Operation_progress_in_numbers) (defScope s_Operation_progress_in_numbers) .none kV15 dc15 pm15 an15 cd15 ct15), sl15⟩)
    (c15 : PySem.W.codeIn K cd15 "Operation.progress_in_numbers" = true)
    (k15 : PySem.W.keepIn K (.ref f15) = true)
    (a16 : PySem.W.findIn K (.ref C_Operation) "record_in_numbers" = some (some (.ref f16)))
    (i16 : PySem.W.isFn K (.ref f16) = true)
    (l16 : K.lookup f16 = some ⟨oc16, od16, .func (PySem.W.fnOf "record_in_numbers" "Operation.record_in_numbers" (defArgs s_Operation_record_in_numbers) (defBody s_Operation_record_in_numbers) (defScope s_Operation_record_in_numbers) .none kV16 dc16 pm16 an16 cd16 ct16), sl16⟩)
    (c16 : PySem.W.codeIn K cd16 "Operation.record_in_numbers" = true)
    (k16 : PySem.W.keepIn K (.ref f16) = true)
    (a17 : PySem.W.findIn K (.ref C_Client) "__init__" = some (some (.ref f17)))
    (i17 : PySem.W.isFn K (.ref f17) = true)
    (l17 : K.lookup f17 = some ⟨oc17, od17, .func (PySem.W.fnOf "__init__" "Client.__init__" (defArgs s_Client_init) (defBody s_Client_init) (defScope s_Client_init) .none kV17 dc17 pm17 an17 cd17 ct17), sl17⟩)
    (c17 : PySem.W.codeIn K cd17 "Client.__init__" = true)
    (k17 : PySem.W.keepIn K (.ref f17) = true)
    (a18 : PySem.W.findIn K (.ref C_Client) "is_at_work" = some (some (.ref f18)))
    (i18 : PySem.W.isFn K (.ref f18) = true)
    (l18 : K.lookup f18 = some ⟨oc18, od18, .func (PySem.W.fnOf "is_at_work" "Client.is_at_work" (defArgs s_Client_is_at_work) (defBody s_Client_is_at_work) (defScope s_Client_is_at_work) .none kV18 dc18 pm18 an18 cd18 ct18), sl18⟩)
    (c18 : PySem.W.codeIn K cd18 "Client.is_at_work" = true)
    (k18 : PySem.W.keepIn K (.ref f18) = true)
    (a19 : PySem.W.findIn K (.ref C_Client) "is_free" = some (some (.ref f19)))
    (i19 : PySem.W.isFn K (.ref f19) = true)
    (l19 : K.lookup f19 = some ⟨oc19, od19, .func (PySem.W.fnOf "is_free" "Client.is_free" (defArgs s_Client_is_free) (defBody s_Client_is_free) (defScope s_Client_is_free) .none kV19 dc19 pm19 an19 cd19 ct19), sl19⟩)
    (c19 : PySem.W.codeIn K cd19 "Client.is_free" = true)
    (k19 : PySem.W.keepIn K (.ref f19) = true)
    (a20 : PySem.W.findIn K (.ref C_Client) "in_numbers" = some (some (.ref f20)))
    (i20 : PySem.W.isFn K (.ref f20) = true)
    (l20 : K.lookup f20 = some ⟨oc20, od20, .func (PySem.W.fnOf "in_numbers" "Client.in_numbers" (defArgs s_Client_in_numbers) (defBody s_Client_in_numbers) (defScope s_Client_in_numbers) .none kV20 dc20 pm20 an20 cd20 ct20), sl20⟩)
    (c20 : PySem.W.codeIn K cd20 "Client.in_numbers" = true)
    (k20 : PySem.W.keepIn K (.ref f20) = true)
    (a21 : PySem.W.findIn K (.ref C_World) "__init__" = some (some (.ref f21)))
    (i21 : PySem.W.isFn K (.ref f21) = true)
    (l21 : K.lookup f21 = some ⟨oc21, od21, .func (PySem.W.fnOf "__init__" "World.__init__" (defArgs s_World_init) (defBody s_World_init) (defScope s_World_init) .none kV21 dc21 pm21 an21 cd21 ct21), sl21⟩)
    (c21 : PySem.W.codeIn K cd21 "World.__init__" = true)
    (k21 : PySem.W.keepIn K (.ref f21) = true)
    (a22 : PySem.W.findIn K (.ref C_World) "is_most" = some (some (.ref f22)))
    (i22 : PySem.W.isFn K (.ref f22) = true)
    (l22 : K.lookup f22 = some ⟨oc22, od22, .func (PySem.W.fnOf "is_most" "World.is_most" (defArgs s_World_is_most) (defBody s_World_is_most) (defScope s_World_is_most) .none kV22 dc22 pm22 an22 cd22 ct22), sl22⟩)
    (c22 : PySem.W.codeIn K cd22 "World.is_most" = true)
    (k22 : PySem.W.keepIn K (.ref f22) = true)
    (a23 : PySem.W.findIn K (.ref C_World) "next_event" = some (some (.ref f23)))
    (i23 : PySem.W.isFn K (.ref f23) = true)
    (l23 : K.lookup f23 = some ⟨oc23, od23, .func (PySem.W.fnOf "next_event" "World.next_event" (defArgs s_World_next_event) (defBody s_World_next_event) (defScope s_World_next_event) .none kV23 dc23 pm23 an23 cd23 ct23), sl23⟩)
    (c23 : PySem.W.codeIn K cd23 "World.next_event" = true)
    (k23 : PySem.W.keepIn K (.ref f23) = true)
    (a24 : PySem.W.findIn K (.ref C_World) "send" = some (some (.ref f24)))
    (i24 : PySem.W.isFn K (.ref f24) = true)
    (l24 : K.lookup f24 = some ⟨oc24, od24, .func (PySem.W.fnOf "send" "World.send" (defArgs s_World_send) (defBody s_World_send) (defScope s_World_send) .none kV24 dc24 pm24 an24 cd24 ct24), sl24⟩)
    (c24 : PySem.W.codeIn K cd24 "World.send" = true)
    (k24 : PySem.W.keepIn K (.ref f24) = true)
    (a25 : PySem.W.findIn K (.ref C_World) "send_to_missing" = some (some (.ref f25)))
    (i25 : PySem.W.isFn K (.ref f25) = true)
    (l25 : K.lookup f25 = some ⟨oc25, od25, .func (PySem.W.fnOf "send_to_missing" "World.send_to_missing" (defArgs s_World_send_to_missing) (defBody s_World_send_to_missing) (defScope s_World_send_to_missing) .none kV25 dc25 pm25 an25 cd25 ct25), sl25⟩)
    (c25 : PySem.W.codeIn K cd25 "World.send_to_missing" = true)
    (k25 : PySem.W.keepIn K (.ref f25) = true)
    (a26 : PySem.W.findIn K (.ref C_World) "begin_operation" = some (some (.ref f26)))
    (i26 : PySem.W.isFn K (.ref f26) = true)
    (l26 : K.lookup f26 = some ⟨oc26, od26, .func (PySem.W.fnOf "begin_operation" "World.begin_operation" (defArgs s_World_begin_operation) (defBody s_World_begin_operation) (defScope s_World_begin_operation) .none kV26 dc26 pm26 an26 cd26 ct26), sl26⟩)
    (c26 : PySem.W.codeIn K cd26 "World.begin_operation" = true)
    (k26 : PySem.W.keepIn K (.ref f26) = true)
    (a27 : PySem.W.findIn K (.ref C_World) "read" = some (some (.ref f27)))
    (i27 : PySem.W.isFn K (.ref f27) = true)
    (l27 : K.lookup f27 = some ⟨oc27, od27, .func (PySem.W.fnOf "read" "World.read" (defArgs s_World_read) (defBody s_World_read) (defScope s_World_read) .none kV27 dc27 pm27 an27 cd27 ct27), sl27⟩)
    (c27 : PySem.W.codeIn K cd27 "World.read" = true)
    (k27 : PySem.W.keepIn K (.ref f27) = true)
    (a28 : PySem.W.findIn K (.ref C_World) "write" = some (some (.ref f28)))
    (i28 : PySem.W.isFn K (.ref f28) = true)
    (l28 : K.lookup f28 = some ⟨oc28, od28, .func (PySem.W.fnOf "write" "World.write" (defArgs s_World_write) (defBody s_World_write) (defScope s_World_write) .none kV28 dc28 pm28 an28 cd28 ct28), sl28⟩)
    (c28 : PySem.W.codeIn K cd28 "World.write" = true)
    (k28 : PySem.W.keepIn K (.ref f28) = true)
    (a29 : PySem.W.findIn K (.ref C_World) "take" = some (some (.ref f29)))
    (i29 : PySem.W.isFn K (.ref f29) = true)
    (l29 : K.lookup f29 = some ⟨oc29, od29, .func (PySem.W.fnOf "take" "World.take" (defArgs s_World_take) (defBody s_World_take) (defScope s_World_take) .none kV29 dc29 pm29 an29 cd29 ct29), sl29⟩)
    (c29 : PySem.W.codeIn K cd29 "World.take" = true)
    (k29 : PySem.W.keepIn K (.ref f29) = true)
    (a30 : PySem.W.findIn K (.ref C_World) "again" = some (some (.ref f30)))
    (i30 : PySem.W.isFn K (.ref f30) = true)
    (l30 : K.lookup f30 = some ⟨oc30, od30, .func (PySem.W.fnOf "again" "World.again" (defArgs s_World_again) (defBody s_World_again) (defScope s_World_again) .none kV30 dc30 pm30 an30 cd30 ct30), sl30⟩)
    (c30 : PySem.W.codeIn K cd30 "World.again" = true)
    (k30 : PySem.W.keepIn K (.ref f30) = true)
    (a31 : PySem.W.findIn K (.ref C_World) "lose" = some (some (.ref f31)))
    (i31 : PySem.W.isFn K (.ref f31) = true)
    (l31 : K.lookup f31 = some ⟨oc31, od31, .func (PySem.W.fnOf "lose" "World.lose" (defArgs s_World_lose) (defBody s_World_lose) (defScope s_World_lose) .none kV31 dc31 pm31 an31 cd31 ct31), sl31⟩)
    (c31 : PySem.W.codeIn K cd31 "World.lose" = true)
    (k31 : PySem.W.keepIn K (.ref f31) = true)
    (a32 : PySem.W.findIn K (.ref C_World) "nudge" = some (some (.ref f32)))
    (i32 : PySem.W.isFn K (.ref f32) = true)
    (l32 : K.lookup f32 = some ⟨oc32, od32, .func (PySem.W.fnOf "nudge" "World.nudge" (defArgs s_World_nudge) (defBody s_World_nudge) (defScope s_World_nudge) .none kV32 dc32 pm32 an32 cd32 ct32), sl32⟩)
    (c32 : PySem.W.codeIn K cd32 "World.nudge" = true)
    (k32 : PySem.W.keepIn K (.ref f32) = true)
    (a33 : PySem.W.findIn K (.ref C_World) "leave" = some (some (.ref f33)))
    (i33 : PySem.W.isFn K (.ref f33) = true)
    (l33 : K.lookup f33 = some ⟨oc33, od33, .func (PySem.W.fnOf "leave" "World.leave" (defArgs s_World_leave) (defBody s_World_leave) (defScope s_World_leave) .none kV33 dc33 pm33 an33 cd33 ct33), sl33⟩)
    (c33 : PySem.W.codeIn K cd33 "World.leave" = true)
    (k33 : PySem.W.keepIn K (.ref f33) = true)
    (a34 : PySem.W.findIn K (.ref C_World) "stop_node" = some (some (.ref f34)))
    (i34 : PySem.W.isFn K (.ref f34) = true)
    (l34 : K.lookup f34 = some ⟨oc34, od34, .func (PySem.W.fnOf "stop_node" "World.stop_node" (defArgs s_World_stop_node) (defBody s_World_stop_node) (defScope s_World_stop_node) .none kV34 dc34 pm34 an34 cd34 ct34), sl34⟩)
    (c34 : PySem.W.codeIn K cd34 "World.stop_node" = true)
    (k34 : PySem.W.keepIn K (.ref f34) = true)
    (a35 : PySem.W.findIn K (.ref C_World) "start_node" = some (some (.ref f35)))
    (i35 : PySem.W.isFn K (.ref f35) = true)
    (l35 : K.lookup f35 = some ⟨oc35, od35, .func (PySem.W.fnOf "start_node" "World.start_node" (defArgs s_World_start_node) (defBody s_World_start_node) (defScope s_World_start_node) .none kV35 dc35 pm35 an35 cd35 ct35), sl35⟩)
    (c35 : PySem.W.codeIn K cd35 "World.start_node" = true)
    (k35 : PySem.W.keepIn K (.ref f35) = true)
    (a36 : PySem.W.findIn K (.ref C_World) "set_running" = some (some (.ref f36)))
    (i36 : PySem.W.isFn K (.ref f36) = true)
    (l36 : K.lookup f36 = some ⟨oc36, od36, .func (PySem.W.fnOf "set_running" "World.set_running" (defArgs s_World_set_running) (defBody s_World_set_running) (defScope s_World_set_running) .none kV36 dc36 pm36 an36 cd36 ct36), sl36⟩)
    (c36 : PySem.W.codeIn K cd36 "World.set_running" = true)
    (k36 : PySem.W.keepIn K (.ref f36) = true)
    (a37 : PySem.W.findIn K (.ref C_World) "tell_letters" = some (some (.ref f37)))
    (i37 : PySem.W.isFn K (.ref f37) = true)
    (l37 : K.lookup f37 = some ⟨oc37, od37, .func (PySem.W.fnOf "tell_letters" "World.tell_letters" (defArgs s_World_tell_letters) (defBody s_World_tell_letters) (defScope s_World_tell_letters) .none kV37 dc37 pm37 an37 cd37 ct37), sl37⟩)
    (c37 : PySem.W.codeIn K cd37 "World.tell_letters" = true)
    (k37 : PySem.W.keepIn K (.ref f37) = true)
    (a38 : PySem.W.findIn K (.ref C_World) "tell_node" = some (some (.ref f38)))
    (i38 : PySem.W.isFn K (.ref f38) = true)
    (l38 : K.lookup f38 = some ⟨oc38, od38, .func (PySem.W.fnOf "tell_node" "World.tell_node" (defArgs s_World_tell_node) (defBody s_World_tell_node) (defScope s_World_tell_node) .none kV38 dc38 pm38 an38 cd38 ct38), sl38⟩)
    (c38 : PySem.W.codeIn K cd38 "World.tell_node" = true)
    (k38 : PySem.W.keepIn K (.ref f38) = true)
    (a39 : PySem.W.findIn K (.ref C_World) "tell_client" = some (some (.ref f39)))
    (i39 : PySem.W.isFn K (.ref f39) = true)
    (l39 : K.lookup f39 = some ⟨oc39, od39, .func (PySem.W.fnOf "tell_client" "World.tell_client" (defArgs s_World_tell_client) (defBody s_World_tell_client) (defScope s_World_tell_client) .none kV39 dc39 pm39 an39 cd39 ct39), sl39⟩)
    (c39 : PySem.W.codeIn K cd39 "World.tell_client" = true)
    (k39 : PySem.W.keepIn K (.ref f39) = true)
    (a40 : PySem.W.findIn K (.ref C_World) "tell_record" = some (some (.ref f40)))
    (i40 : PySem.W.isFn K (.ref f40) = true)
    (l40 : K.lookup f40 = some ⟨oc40, od40, .func (PySem.W.fnOf "tell_record" "World.tell_record" (defArgs s_World_tell_record) (defBody s_World_tell_record) (defScope s_World_tell_record) .none kV40 dc40 pm40 an40 cd40 ct40), sl40⟩)
    (c40 : PySem.W.codeIn K cd40 "World.tell_record" = true)
    (k40 : PySem.W.keepIn K (.ref f40) = true)
    (a41 : PySem.W.findIn K (.ref C_World) "hand_over" = some (some (.ref f41)))
    (i41 : PySem.W.isFn K (.ref f41) = true)
    (l41 : K.lookup f41 = some ⟨oc41, od41, .func (PySem.W.fnOf "hand_over" "World.hand_over" (defArgs s_World_hand_over) (defBody s_World_hand_over) (defScope s_World_hand_over) .none kV41 dc41 pm41 an41 cd41 ct41), sl41⟩)
    (c41 : PySem.W.codeIn K cd41 "World.hand_over" = true)
    (k41 : PySem.W.keepIn K (.ref f41) = true)
    (a42 : PySem.W.findIn K (.ref C_World) "hand_to_node" = some (some (.ref f42)))
    (i42 : PySem.W.isFn K (.ref f42) = true)
    (l42 : K.lookup f42 = some ⟨oc42, od42, .func (PySem.W.fnOf "hand_to_node" "World.hand_to_node" (defArgs s_World_hand_to_node) (defBody s_World_hand_to_node) (defScope s_World_hand_to_node) .none kV42 dc42 pm42 an42 cd42 ct42), sl42⟩)
    (c42 : PySem.W.codeIn K cd42 "World.hand_to_node" = true)
    (k42 : PySem.W.keepIn K (.ref f42) = true)
    (a43 : PySem.W.findIn K (.ref C_World) "hand_to_client" = some (some (.ref f43)))
    (i43 : PySem.W.isFn K (.ref f43) = true)
    (l43 : K.lookup f43 = some ⟨oc43, od43, .func (PySem.W.fnOf "hand_to_client" "World.hand_to_client" (defArgs s_World_hand_to_client) (defBody s_World_hand_to_client) (defScope s_World_hand_to_client) .none kV43 dc43 pm43 an43 cd43 ct43), sl43⟩)
    (c43 : PySem.W.codeIn K cd43 "World.hand_to_client" = true)
    (k43 : PySem.W.keepIn K (.ref f43) = true)
    (a44 : PySem.W.findIn K (.ref C_World) "hear" = some (some (.ref f44)))
    (i44 : PySem.W.isFn K (.ref f44) = true)
    (l44 : K.lookup f44 = some ⟨oc44, od44, .func (PySem.W.fnOf "hear" "World.hear" (defArgs s_World_hear) (defBody s_World_hear) (defScope s_World_hear) .none kV44 dc44 pm44 an44 cd44 ct44), sl44⟩)
    (c44 : PySem.W.codeIn K cd44 "World.hear" = true)
    (k44 : PySem.W.keepIn K (.ref f44) = true)
    (a45 : PySem.W.findIn K (.ref C_World) "have_kept" = some (some (.ref f45)))
    (i45 : PySem.W.isFn K (.ref f45) = true)
    (l45 : K.lookup f45 = some ⟨oc45, od45, .func (PySem.W.fnOf "have_kept" "World.have_kept" (defArgs s_World_have_kept) (defBody s_World_have_kept) (defScope s_World_have_kept) .none kV45 dc45 pm45 an45 cd45 ct45), sl45⟩)
    (c45 : PySem.W.codeIn K cd45 "World.have_kept" = true)
    (k45 : PySem.W.keepIn K (.ref f45) = true)
    (a46 : PySem.W.findIn K (.ref C_World) "count_keeper" = some (some (.ref f46)))
    (i46 : PySem.W.isFn K (.ref f46) = true)
    (l46 : K.lookup f46 = some ⟨oc46, od46, .func (PySem.W.fnOf "count_keeper" "World.count_keeper" (defArgs s_World_count_keeper) (defBody s_World_count_keeper) (defScope s_World_count_keeper) .none kV46 dc46 pm46 an46 cd46 ct46), sl46⟩)
    (c46 : PySem.W.codeIn K cd46 "World.count_keeper" = true)
    (k46 : PySem.W.keepIn K (.ref f46) = true)
    (a47 : PySem.W.findIn K (.ref C_World) "end" = some (some (.ref f47)))
    (i47 : PySem.W.isFn K (.ref f47) = true)
    (l47 : K.lookup f47 = some ⟨oc47, od47, .func (PySem.W.fnOf "end" "World.end" (defArgs s_World_end) (defBody s_World_end) (defScope s_World_end) .none kV47 dc47 pm47 an47 cd47 ct47), sl47⟩)
    (c47 : PySem.W.codeIn K cd47 "World.end" = true)
    (k47 : PySem.W.keepIn K (.ref f47) = true)
    (a48 : PySem.W.nsIn K mainGlobals "can_begin" = some (some (.ref f48)))
    (l48 : K.lookup f48 = some ⟨oc48, od48, .func (PySem.W.fnOf "can_begin" "can_begin" (defArgs s_can_begin) (defBody s_can_begin) (defScope s_can_begin) .none kV48 dc48 pm48 an48 cd48 ct48), sl48⟩)
    (c48 : PySem.W.codeIn K cd48 "can_begin" = true)
    (k48 : PySem.W.keepIn K (.ref f48) = true)
    (a49 : PySem.W.nsIn K mainGlobals "call_length" = some (some (.ref f49)))
    (l49 : K.lookup f49 = some ⟨oc49, od49, .func (PySem.W.fnOf "call_length" "call_length" (defArgs s_call_length) (defBody s_call_length) (defScope s_call_length) .none kV49 dc49 pm49 an49 cd49 ct49), sl49⟩)
    (c49 : PySem.W.codeIn K cd49 "call_length" = true)
    (k49 : PySem.W.keepIn K (.ref f49) = true)
    (a50 : PySem.W.nsIn K mainGlobals "answer_of" = some (some (.ref f50)))
    (l50 : K.lookup f50 = some ⟨oc50, od50, .func (PySem.W.fnOf "answer_of" "answer_of" (defArgs s_answer_of) (defBody s_answer_of) (defScope s_answer_of) .none kV50 dc50 pm50 an50 cd50 ct50), sl50⟩)
    (c50 : PySem.W.codeIn K cd50 "answer_of" = true)
    (k50 : PySem.W.keepIn K (.ref f50) = true)
    (a51 : PySem.W.nsIn K mainGlobals "answers" = some (some (.ref f51)))
    (l51 : K.lookup f51 = some ⟨oc51, od51, .func (PySem.W.fnOf "answers" "answers" (defArgs s_answers) (defBody s_answers) (defScope s_answers) .none kV51 dc51 pm51 an51 cd51 ct51), sl51⟩)
    (c51 : PySem.W.codeIn K cd51 "answers" = true)
    (k51 : PySem.W.keepIn K (.ref f51) = true)
    (pg_Letter : PySem.W.plainGet K C_Letter Str.empty = true)
    (hd_Letter : PySem.W.hasDictIn K C_Letter = true)
    (po_Letter : PySem.W.plainOver K C_Letter = true)
    (sa_Letter : PySem.W.findIn K (.ref C_Letter) "__setattr__" = some (some (.builtin "object.__setattr__")))
    (mk_Letter : PySem.W.makesIn K C_Letter = true)
    (kc_Letter : PySem.W.keepIn K (.ref C_Letter) = true)
    (n_Letter_kind : PySem.W.findIn K (.ref C_Letter) "kind" = some none)
    (n_Letter_to : PySem.W.findIn K (.ref C_Letter) "to" = some none)
    (n_Letter_sender : PySem.W.findIn K (.ref C_Letter) "sender" = some none)
    (n_Letter_operation : PySem.W.findIn K (.ref C_Letter) "operation" = some none)
    (n_Letter_cell : PySem.W.findIn K (.ref C_Letter) "cell" = some none)
    (n_Letter_enclosed : PySem.W.findIn K (.ref C_Letter) "enclosed" = some none)
    (pg_Node : PySem.W.plainGet K C_Node Str.empty = true)
    (hd_Node : PySem.W.hasDictIn K C_Node = true)
    (po_Node : PySem.W.plainOver K C_Node = true)
    (sa_Node : PySem.W.findIn K (.ref C_Node) "__setattr__" = some (some (.builtin "object.__setattr__")))
    (mk_Node : PySem.W.makesIn K C_Node = true)
    (kc_Node : PySem.W.keepIn K (.ref C_Node) = true)
    (n_Node_weight : PySem.W.findIn K (.ref C_Node) "weight" = some none)
    (n_Node_runs : PySem.W.findIn K (.ref C_Node) "runs" = some none)
    (n_Node_copies : PySem.W.findIn K (.ref C_Node) "copies" = some none)
    (pg_Operation : PySem.W.plainGet K C_Operation Str.empty = true)
    (hd_Operation : PySem.W.hasDictIn K C_Operation = true)
    (po_Operation : PySem.W.plainOver K C_Operation = true)
    (sa_Operation : PySem.W.findIn K (.ref C_Operation) "__setattr__" = some (some (.builtin "object.__setattr__")))
    (mk_Operation : PySem.W.makesIn K C_Operation = true)
    (kc_Operation : PySem.W.keepIn K (.ref C_Operation) = true)
    (n_Operation_client : PySem.W.findIn K (.ref C_Operation) "client" = some none)
    (n_Operation_number : PySem.W.findIn K (.ref C_Operation) "number" = some none)
    (n_Operation_cell : PySem.W.findIn K (.ref C_Operation) "cell" = some none)
    (n_Operation_writes : PySem.W.findIn K (.ref C_Operation) "writes" = some none)
    (n_Operation_value : PySem.W.findIn K (.ref C_Operation) "value" = some none)
    (n_Operation_began : PySem.W.findIn K (.ref C_Operation) "began" = some none)
    (n_Operation_ended : PySem.W.findIn K (.ref C_Operation) "ended" = some none)
    (n_Operation_result : PySem.W.findIn K (.ref C_Operation) "result" = some none)
    (n_Operation_heard : PySem.W.findIn K (.ref C_Operation) "heard" = some none)
    (n_Operation_told : PySem.W.findIn K (.ref C_Operation) "told" = some none)
    (n_Operation_wanted : PySem.W.findIn K (.ref C_Operation) "wanted" = some none)
    (n_Operation_keepers : PySem.W.findIn K (.ref C_Operation) "keepers" = some none)
    (pg_Client : PySem.W.plainGet K C_Client Str.empty = true)
    (hd_Client : PySem.W.hasDictIn K C_Client = true)
    (po_Client : PySem.W.plainOver K C_Client = true)
    (sa_Client : PySem.W.findIn K (.ref C_Client) "__setattr__" = some (some (.builtin "object.__setattr__")))
    (mk_Client : PySem.W.makesIn K C_Client = true)
    (kc_Client : PySem.W.keepIn K (.ref C_Client) = true)
    (n_Client_begun : PySem.W.findIn K (.ref C_Client) "begun" = some none)
    (n_Client_gone : PySem.W.findIn K (.ref C_Client) "gone" = some none)
    (n_Client_under_way : PySem.W.findIn K (.ref C_Client) "under_way" = some none)
    (pg_World : PySem.W.plainGet K C_World Str.empty = true)
    (hd_World : PySem.W.hasDictIn K C_World = true)
    (po_World : PySem.W.plainOver K C_World = true)
    (sa_World : PySem.W.findIn K (.ref C_World) "__setattr__" = some (some (.builtin "object.__setattr__")))
    (mk_World : PySem.W.makesIn K C_World = true)
    (kc_World : PySem.W.keepIn K (.ref C_World) = true)
    (n_World_nodes : PySem.W.findIn K (.ref C_World) "nodes" = some none)
    (n_World_clients : PySem.W.findIn K (.ref C_World) "clients" = some none)
    (n_World_row : PySem.W.findIn K (.ref C_World) "row" = some none)
    (n_World_record : PySem.W.findIn K (.ref C_World) "record" = some none)
    (n_World_events : PySem.W.findIn K (.ref C_World) "events" = some none)
    (g_CELLS : PySem.W.nsIn K mainGlobals "CELLS" = some (some (.int 3 t_CELLS)))
    (g_ZERO_COPY : PySem.W.nsIn K mainGlobals "ZERO_COPY" = some (some (.ref z_ZERO_COPY)))
    (l_ZERO_COPY : K.lookup z_ZERO_COPY = some o_ZERO_COPY)
    (lc_ZERO_COPY : o_ZERO_COPY.cls = .type "tuple")
    (ld_ZERO_COPY : o_ZERO_COPY.data = .seq its_ZERO_COPY sn_ZERO_COPY)
    (lz_ZERO_COPY : its_ZERO_COPY.size ≤ sizeLine)
    (lv_ZERO_COPY : Vals [.int 0, .int 0, .int 0] its_ZERO_COPY.toList)
    (g_ASKS : PySem.W.nsIn K mainGlobals "ASKS" = some (some (.int 0 t_ASKS)))
    (g_TELLS : PySem.W.nsIn K mainGlobals "TELLS" = some (some (.int 1 t_TELLS)))
    (g_KEEP : PySem.W.nsIn K mainGlobals "KEEP" = some (some (.int 2 t_KEEP)))
    (g_KEPT : PySem.W.nsIn K mainGlobals "KEPT" = some (some (.int 3 t_KEPT)))
    (g_CLIENTS : PySem.W.nsIn K mainGlobals "CLIENTS" = some (some (.int 4 t_CLIENTS)))
    (g_MOST_NODES : PySem.W.nsIn K mainGlobals "MOST_NODES" = some (some (.int 5 t_MOST_NODES)))
    (g_GREATEST_WEIGHT : PySem.W.nsIn K mainGlobals "GREATEST_WEIGHT" = some (some (.int 9 t_GREATEST_WEIGHT)))
    (g_GREATEST_VALUE : PySem.W.nsIn K mainGlobals "GREATEST_VALUE" = some (some (.int 99 t_GREATEST_VALUE)))
    (g_ROOM : PySem.W.nsIn K mainGlobals "ROOM" = some (some (.int 100 t_ROOM)))
    (g_NO_USE : PySem.W.nsIn K mainGlobals "NO_USE" = some (some (.int 0 t_NO_USE)))
    (g_ANSWERED : PySem.W.nsIn K mainGlobals "ANSWERED" = some (some (.int 1 t_ANSWERED)))
    (g_COUNTED : PySem.W.nsIn K mainGlobals "COUNTED" = some (some (.int 2 t_COUNTED)))
    (g_GOES_ON : PySem.W.nsIn K mainGlobals "GOES_ON" = some (some (.int 3 t_GOES_ON)))
    (g_ENDED : PySem.W.nsIn K mainGlobals "ENDED" = some (some (.int 4 t_ENDED)))
    (g_NO_SUCH : PySem.W.nsIn K mainGlobals "NO_SUCH" = some (some (.int (-1) t_NO_SUCH)))
    (g_NOT_NOW : PySem.W.nsIn K mainGlobals "NOT_NOW" = some (some (.int (-2) t_NOT_NOW)))
    (g_NO_WORLD : PySem.W.nsIn K mainGlobals "NO_WORLD" = some (some (.int (-9) t_NO_WORLD)))
    (g_BEGIN : PySem.W.nsIn K mainGlobals "BEGIN" = some (some (.int 0 t_BEGIN)))
    (g_READ : PySem.W.nsIn K mainGlobals "READ" = some (some (.int 1 t_READ)))
    (g_WRITE : PySem.W.nsIn K mainGlobals "WRITE" = some (some (.int 2 t_WRITE)))
    (g_TAKE : PySem.W.nsIn K mainGlobals "TAKE" = some (some (.int 3 t_TAKE)))
    (g_AGAIN : PySem.W.nsIn K mainGlobals "AGAIN" = some (some (.int 4 t_AGAIN)))
    (g_LOSE : PySem.W.nsIn K mainGlobals "LOSE" = some (some (.int 5 t_LOSE)))
    (g_NUDGE : PySem.W.nsIn K mainGlobals "NUDGE" = some (some (.int 6 t_NUDGE)))
    (g_QUIT : PySem.W.nsIn K mainGlobals "QUIT" = some (some (.int 7 t_QUIT)))
    (g_STOP : PySem.W.nsIn K mainGlobals "STOP" = some (some (.int 8 t_STOP)))
    (g_START : PySem.W.nsIn K mainGlobals "START" = some (some (.int 9 t_START)))
    (g_LETTERS : PySem.W.nsIn K mainGlobals "LETTERS" = some (some (.int 10 t_LETTERS)))
    (g_NODE : PySem.W.nsIn K mainGlobals "NODE" = some (some (.int 11 t_NODE)))
    (g_CLIENT : PySem.W.nsIn K mainGlobals "CLIENT" = some (some (.int 12 t_CLIENT)))
    (g_NUMBERS_BEHIND : PySem.W.nsIn K mainGlobals "NUMBERS_BEHIND" = some (some (.ref z_NUMBERS_BEHIND)))
    (l_NUMBERS_BEHIND : K.lookup z_NUMBERS_BEHIND = some ⟨.type "dict", none, .dict es_NUMBERS_BEHIND en_NUMBERS_BEHIND, #[]⟩)
    (lk_NUMBERS_BEHIND : KeysI es_NUMBERS_BEHIND.toList [(1, 2), (2, 3), (3, 1), (4, 1), (5, 1), (6, 1), (7, 1), (8, 1), (9, 1), (10, 0), (11, 1), (12, 1), (13, 0)])
    (b_len : PySem.W.nsIn K mainGlobals "len" = some none)
    (b_sum : PySem.W.nsIn K mainGlobals "sum" = some none)
    (b_max : PySem.W.nsIn K mainGlobals "max" = some none)
    (b_range : PySem.W.nsIn K mainGlobals "range" = some none)
    (b_zip : PySem.W.nsIn K mainGlobals "zip" = some none)
    (b_list : PySem.W.nsIn K mainGlobals "list" = some none)
    : Txt K mg ⟨C_Letter, C_Node, C_Operation, C_Client, C_World, z_ZERO_COPY, z_NUMBERS_BEHIND⟩ :=
  { f_one_or_zero := ⟨_, _, fun_mk (st := s_one_or_zero) l1 c1 k1, PySem.W.mg_of X G a1⟩,
    f_has_greater_stamp := ⟨_, _, fun_mk (st := s_has_greater_stamp) l2 c2 k2, PySem.W.mg_of X G a2⟩,
    f_has_same_stamp := ⟨_, _, fun_mk (st := s_has_same_stamp) l3 c3 k3, PySem.W.mg_of X G a3⟩,
    f_best_of := ⟨_, _, fun_mk (st := s_best_of) l4 c4 k4, PySem.W.mg_of X G a4⟩,
    f_Letter_init := ⟨_, _, fun_mk (st := s_Letter_init) l5 c5 k5, ⟨mk_Letter, a5, i5, kc_Letter⟩, PySem.W.mg_of X G gC_Letter⟩,
    f_Letter_in_numbers := ⟨_, _, fun_mk (st := s_Letter_in_numbers) l6 c6 k6, ⟨a6, i6, k6⟩⟩,
    f_reply_to := ⟨_, _, fun_mk (st := s_reply_to) l7 c7 k7, PySem.W.mg_of X G a7⟩,
    f_Node_init := ⟨_, _, fun_mk (st := s_Node_init) l8 c8 k8, ⟨mk_Node, a8, i8, kc_Node⟩, PySem.W.mg_of X G gC_Node⟩,
    f_Node_answer_to := ⟨_, _, fun_mk (st := s_Node_answer_to) l9 c9 k9, ⟨a9, i9, k9⟩⟩,
    f_Node_in_numbers := ⟨_, _, fun_mk (st := s_Node_in_numbers) l10 c10 k10, ⟨a10, i10, k10⟩⟩,
    f_Operation_init := ⟨_, _, fun_mk (st := s_Operation_init) l11 c11 k11, ⟨mk_Operation, a11, i11, kc_Operation⟩, PySem.W.mg_of X G gC_Operation⟩,
    f_Operation_counted_nodes := ⟨_, _, fun_mk (st := s_Operation_counted_nodes) l12 c12 k12, ⟨a12, i12, k12⟩⟩,
    f_Operation_nodes_that_told := ⟨_, _, fun_mk (st := s_Operation_nodes_that_told) l13 c13 k13, ⟨a13, i13, k13⟩⟩,
    f_Operation_letter_to := ⟨_, _, fun_mk (st := s_Operation_letter_to) l14 c14 k14, ⟨a14, i14, k14⟩⟩,
    f_Operation_progress_in_numbers := ⟨_, _, fun_mk (st := s_Operation_progress_in_numbers) l15 c15 k15, ⟨a15, i15, k15⟩⟩,
    f_Operation_record_in_numbers := ⟨_, _, fun_mk (st := s_Operation_record_in_numbers) l16 c16 k16, ⟨a16, i16, k16⟩⟩,
    f_Client_init := ⟨_, _, fun_mk (st := s_Client_init) l17 c17 k17, ⟨mk_Client, a17, i17, kc_Client⟩, PySem.W.mg_of X G gC_Client⟩,
    f_Client_is_at_work := ⟨_, _, fun_mk (st := s_Client_is_at_work) l18 c18 k18, ⟨a18, i18, k18⟩⟩,
    f_Client_is_free := ⟨_, _, fun_mk (st := s_Client_is_free) l19 c19 k19, ⟨a19, i19, k19⟩⟩,
    f_Client_in_numbers := ⟨_, _, fun_mk (st := s_Client_in_numbers) l20 c20 k20, ⟨a20, i20, k20⟩⟩,
    f_World_init := ⟨_, _, fun_mk (st := s_World_init) l21 c21 k21, ⟨mk_World, a21, i21, kc_World⟩, PySem.W.mg_of X G gC_World⟩,
    f_World_is_most := ⟨_, _, fun_mk (st := s_World_is_most) l22 c22 k22, ⟨a22, i22, k22⟩⟩,
    f_World_next_event := ⟨_, _, fun_mk (st := s_World_next_event) l23 c23 k23, ⟨a23, i23, k23⟩⟩,
    f_World_send := ⟨_, _, fun_mk (st := s_World_send) l24 c24 k24, ⟨a24, i24, k24⟩⟩,
    f_World_send_to_missing := ⟨_, _, fun_mk (st := s_World_send_to_missing) l25 c25 k25, ⟨a25, i25, k25⟩⟩,
    f_World_begin_operation := ⟨_, _, fun_mk (st := s_World_begin_operation) l26 c26 k26, ⟨a26, i26, k26⟩⟩,
    f_World_read := ⟨_, _, fun_mk (st := s_World_read) l27 c27 k27, ⟨a27, i27, k27⟩⟩,
    f_World_write := ⟨_, _, fun_mk (st := s_World_write) l28 c28 k28, ⟨a28, i28, k28⟩⟩,
    f_World_take := ⟨_, _, fun_mk (st := s_World_take) l29 c29 k29, ⟨a29, i29, k29⟩⟩,
    f_World_again := ⟨_, _, fun_mk (st := s_World_again) l30 c30 k30, ⟨a30, i30, k30⟩⟩,
    f_World_lose := ⟨_, _, fun_mk (st := s_World_lose) l31 c31 k31, ⟨a31, i31, k31⟩⟩,
    f_World_nudge := ⟨_, _, fun_mk (st := s_World_nudge) l32 c32 k32, ⟨a32, i32, k32⟩⟩,
    f_World_leave := ⟨_, _, fun_mk (st := s_World_leave) l33 c33 k33, ⟨a33, i33, k33⟩⟩,
    f_World_stop_node := ⟨_, _, fun_mk (st := s_World_stop_node) l34 c34 k34, ⟨a34, i34, k34⟩⟩,
    f_World_start_node := ⟨_, _, fun_mk (st := s_World_start_node) l35 c35 k35, ⟨a35, i35, k35⟩⟩,
    f_World_set_running := ⟨_, _, fun_mk (st := s_World_set_running) l36 c36 k36, ⟨a36, i36, k36⟩⟩,
    f_World_tell_letters := ⟨_, _, fun_mk (st := s_World_tell_letters) l37 c37 k37, ⟨a37, i37, k37⟩⟩,
    f_World_tell_node := ⟨_, _, fun_mk (st := s_World_tell_node) l38 c38 k38, ⟨a38, i38, k38⟩⟩,
    f_World_tell_client := ⟨_, _, fun_mk (st := s_World_tell_client) l39 c39 k39, ⟨a39, i39, k39⟩⟩,
    f_World_tell_record := ⟨_, _, fun_mk (st := s_World_tell_record) l40 c40 k40, ⟨a40, i40, k40⟩⟩,
    f_World_hand_over := ⟨_, _, fun_mk (st := s_World_hand_over) l41 c41 k41, ⟨a41, i41, k41⟩⟩,
    f_World_hand_to_node := ⟨_, _, fun_mk (st := s_World_hand_to_node) l42 c42 k42, ⟨a42, i42, k42⟩⟩,
    f_World_hand_to_client := ⟨_, _, fun_mk (st := s_World_hand_to_client) l43 c43 k43, ⟨a43, i43, k43⟩⟩,
    f_World_hear := ⟨_, _, fun_mk (st := s_World_hear) l44 c44 k44, ⟨a44, i44, k44⟩⟩,
    f_World_have_kept := ⟨_, _, fun_mk (st := s_World_have_kept) l45 c45 k45, ⟨a45, i45, k45⟩⟩,
    f_World_count_keeper := ⟨_, _, fun_mk (st := s_World_count_keeper) l46 c46 k46, ⟨a46, i46, k46⟩⟩,
    f_World_end := ⟨_, _, fun_mk (st := s_World_end) l47 c47 k47, ⟨a47, i47, k47⟩⟩,
    f_can_begin := ⟨_, _, fun_mk (st := s_can_begin) l48 c48 k48, PySem.W.mg_of X G a48⟩,
    f_call_length := ⟨_, _, fun_mk (st := s_call_length) l49 c49 k49, PySem.W.mg_of X G a49⟩,
    f_answer_of := ⟨_, _, fun_mk (st := s_answer_of) l50 c50 k50, PySem.W.mg_of X G a50⟩,
    f_answers := ⟨_, _, fun_mk (st := s_answers) l51 c51 k51, PySem.W.mg_of X G a51⟩,
    cl_Letter := ⟨pg_Letter, hd_Letter, po_Letter, sa_Letter⟩,
    na_Letter_kind := n_Letter_kind,
    na_Letter_to := n_Letter_to,
    na_Letter_sender := n_Letter_sender,
    na_Letter_operation := n_Letter_operation,
    na_Letter_cell := n_Letter_cell,
    na_Letter_enclosed := n_Letter_enclosed,
    cl_Node := ⟨pg_Node, hd_Node, po_Node, sa_Node⟩,
    na_Node_weight := n_Node_weight,
    na_Node_runs := n_Node_runs,
    na_Node_copies := n_Node_copies,
    cl_Operation := ⟨pg_Operation, hd_Operation, po_Operation, sa_Operation⟩,
    na_Operation_client := n_Operation_client,
    na_Operation_number := n_Operation_number,
    na_Operation_cell := n_Operation_cell,
    na_Operation_writes := n_Operation_writes,
    na_Operation_value := n_Operation_value,
    na_Operation_began := n_Operation_began,
    na_Operation_ended := n_Operation_ended,
    na_Operation_result := n_Operation_result,
    na_Operation_heard := n_Operation_heard,
    na_Operation_told := n_Operation_told,
    na_Operation_wanted := n_Operation_wanted,
    na_Operation_keepers := n_Operation_keepers,
    cl_Client := ⟨pg_Client, hd_Client, po_Client, sa_Client⟩,
    na_Client_begun := n_Client_begun,
    na_Client_gone := n_Client_gone,
    na_Client_under_way := n_Client_under_way,
    cl_World := ⟨pg_World, hd_World, po_World, sa_World⟩,
    na_World_nodes := n_World_nodes,
    na_World_clients := n_World_clients,
    na_World_row := n_World_row,
    na_World_record := n_World_record,
    na_World_events := n_World_events,
    g_CELLS := ⟨_, PySem.W.mg_of X G g_CELLS⟩,
    g_ZERO_COPY := PySem.W.mg_of X G g_ZERO_COPY,
    t_ZERO_COPY := fun H => .inr ⟨_, _, _, l_ZERO_COPY, lc_ZERO_COPY, ld_ZERO_COPY, lz_ZERO_COPY, lv_ZERO_COPY⟩,
    g_ASKS := ⟨_, PySem.W.mg_of X G g_ASKS⟩,
    g_TELLS := ⟨_, PySem.W.mg_of X G g_TELLS⟩,
    g_KEEP := ⟨_, PySem.W.mg_of X G g_KEEP⟩,
    g_KEPT := ⟨_, PySem.W.mg_of X G g_KEPT⟩,
    g_CLIENTS := ⟨_, PySem.W.mg_of X G g_CLIENTS⟩,
    g_MOST_NODES := ⟨_, PySem.W.mg_of X G g_MOST_NODES⟩,
    g_GREATEST_WEIGHT := ⟨_, PySem.W.mg_of X G g_GREATEST_WEIGHT⟩,
    g_GREATEST_VALUE := ⟨_, PySem.W.mg_of X G g_GREATEST_VALUE⟩,
    g_ROOM := ⟨_, PySem.W.mg_of X G g_ROOM⟩,
    g_NO_USE := ⟨_, PySem.W.mg_of X G g_NO_USE⟩,
    g_ANSWERED := ⟨_, PySem.W.mg_of X G g_ANSWERED⟩,
    g_COUNTED := ⟨_, PySem.W.mg_of X G g_COUNTED⟩,
    g_GOES_ON := ⟨_, PySem.W.mg_of X G g_GOES_ON⟩,
    g_ENDED := ⟨_, PySem.W.mg_of X G g_ENDED⟩,
    g_NO_SUCH := ⟨_, PySem.W.mg_of X G g_NO_SUCH⟩,
    g_NOT_NOW := ⟨_, PySem.W.mg_of X G g_NOT_NOW⟩,
    g_NO_WORLD := ⟨_, PySem.W.mg_of X G g_NO_WORLD⟩,
    g_BEGIN := ⟨_, PySem.W.mg_of X G g_BEGIN⟩,
    g_READ := ⟨_, PySem.W.mg_of X G g_READ⟩,
    g_WRITE := ⟨_, PySem.W.mg_of X G g_WRITE⟩,
    g_TAKE := ⟨_, PySem.W.mg_of X G g_TAKE⟩,
    g_AGAIN := ⟨_, PySem.W.mg_of X G g_AGAIN⟩,
    g_LOSE := ⟨_, PySem.W.mg_of X G g_LOSE⟩,
    g_NUDGE := ⟨_, PySem.W.mg_of X G g_NUDGE⟩,
    g_QUIT := ⟨_, PySem.W.mg_of X G g_QUIT⟩,
    g_STOP := ⟨_, PySem.W.mg_of X G g_STOP⟩,
    g_START := ⟨_, PySem.W.mg_of X G g_START⟩,
    g_LETTERS := ⟨_, PySem.W.mg_of X G g_LETTERS⟩,
    g_NODE := ⟨_, PySem.W.mg_of X G g_NODE⟩,
    g_CLIENT := ⟨_, PySem.W.mg_of X G g_CLIENT⟩,
    g_NUMBERS_BEHIND := PySem.W.mg_of X G g_NUMBERS_BEHIND,
    d_NUMBERS_BEHIND := ⟨_, _, l_NUMBERS_BEHIND, lk_NUMBERS_BEHIND⟩,
    b_len := PySem.W.mg_none_of X G b_len,
    b_sum := PySem.W.mg_none_of X G b_sum,
    b_max := PySem.W.mg_none_of X G b_max,
    b_range := PySem.W.mg_none_of X G b_range,
    b_zip := PySem.W.mg_none_of X G b_zip,
    b_list := PySem.W.mg_none_of X G b_list }
end Cb
namespace Cb
open PySem PySem.Spec PyProof.Rows L2
def spAns (K : PySem.W.Frag) : Sp := fun vs H Q _ => ∃ (a : Addr) (ns : List Int), vs = [.ref a] ∧ SqL K H a (ns.map V.int) ∧ ns.length ≤ 1300 ∧ (∀ x ∈ ns, 0 ≤ x ∧ x ≤ 255) ∧ PyAg02.answers_asked ns = true ∧
  ∀ (H' : Hp) (p : Addr), H' p = some (.lst ((PyAg02.answers ns).map V.int)) → Q (.ref p) H'
theorem fin {P : Program} {w : World} {K : PySem.W.Frag} {mg : Str → Option Value} {fa : Addr} {A : Adr} {k : Nat} (hfa : mg "answers" = some (.ref fa)) (T : Txt K mg A)
    (hyp : ∀ {base : Heap} {f : Addr} {fd : FuncData}, Txt K mg A → Fun K "answers" "answers" s_answers f fd → FnOk P w K mg base CX0 k f fd ["calls"] (spAns K)) :
    ∃ fd : FuncData, (∀ (s : Shared) (us : List Value), us.length = (["calls"] : List Str).length → BindsTo s fd ⟨us, []⟩ ((["calls"] : List Str).zip us)) ∧ ∀ base : Heap, K.In base → base.Ns mainGlobals mg → FnOk P w K mg base CX0 k fa fd ["calls"] (spAns K) := by
  obtain ⟨f, fd, F, hm⟩ := T.f_answers
  have e := hfa.symm.trans hm
  cases e
  refine ⟨fd, ?_, fun base _ _ => hyp T F⟩
  obtain ⟨oc, od, kV, doc, pm, an, cdv, ct, osl, rfl, lk, hcd⟩ := F.ex
  exact fun s us hu => match us, hu with | [_], _ => .of_eq rfl
end Cb

namespace Cb
open PySem L2
open Ag02 (Copy Letter above same zero)
section
variable {P : Program} {w : World} {K : PySem.W.Frag} {mg : Str → Option Value} {base : Heap} {A : Adr}
/-! ### a call's length -/
theorem drop_get {l : List Int} {s : Nat} {p : Int} {r : List Int} (h : l.drop s = p :: r) : l[s]? = some p := by
  have : (l.drop s)[0]? = some p := by rw [h]; rfl
  rw [List.getElem?_drop] at this
  exact this
theorem drop_get1 {l : List Int} {s : Nat} {p q : Int} {r : List Int} (h : l.drop s = p :: q :: r) : l[s + 1]? = some q := by
  have : (l.drop s)[1]? = some q := by rw [h]; rfl
  rw [List.getElem?_drop] at this
  exact this
theorem map_some {α β : Type} {f : α → β} {l : List α} {i : Nat} {x : α} (h : l[i]? = some x) : (l.map f)[i]? = some (f x) := by
  rw [List.getElem?_map, h]
  rfl
def sp_len (K : PySem.W.Frag) : Sp := fun vs H Q _ => ∃ (a : Addr) (ns : List Int) (s : Nat) (c : List (List Int)) (t : List Int), vs = [.ref a, .int (s : Int)] ∧ SqL K H a (ns.map V.int) ∧ PyFlat.call PyAg02.shape (ns.drop s) = some (c, t) ∧
  ∀ m : Nat, m + t.length = (ns.drop s).length → Q (.int (m : Int)) H
theorem ok_call_length (T : Txt K mg A) : FnG P w K mg base "call_length" 1 ["calls", "start"] (sp_len K) := by
  refine mk_call_length T (fun vs H Q E h => ?_) (fun f cdv B outer s H vs Q E hr h => ?_)
  · obtain ⟨a, ns, s, c, t, rfl, _⟩ := h
    rfl
  · obtain ⟨a, ns, s', c, t, rfl, hS, hc, k⟩ := h
    refine ⟨_, (pss_cons (ps_if (pt_cmpR op_eq (pe_ix ix_list (pv 0) (pv 1) (fun _ _ => rfl)) (pe_gint rfl T.g_BEGIN) (nomark _))
        (pss_one (ps_ret (pe_op op_add pe_int (pe_ix ix_list (pv 0) (pe_op op_add (pv 1) pe_int) (fun _ _ => rfl)))))
        pss_nil)
      (pss_one (ps_ret (pe_op op_add pe_int (pe_ix ix_kdictI (pe_glob (v := .ref A.z_NUMBERS_BEHIND) rfl T.g_NUMBERS_BEHIND rfl) (pe_ix ix_list (pv 0) (pv 1) (fun _ _ => rfl)) (fun _ _ => rfl)))))), ?_⟩
    rcases call_cases hc with ⟨n, r, hd, hn, rfl, rfl⟩ | ⟨p, m, r, hd, hp, ha, hm, rfl, rfl⟩
    · have h0 := drop_get hd
      have h1 := drop_get1 hd
      refine ⟨_, rfl, _, rfl, _, _, _, _, rfl, rfl, hS, at_of rfl (map_some h0), rfl, _, rfl, iteT ?_⟩
      refine ⟨_, rfl, _, rfl, _, _, rfl, rfl, _, _, _, _, rfl, rfl, hS, at_of (j := s' + 1) rfl (map_some h1), _, _, rfl, rfl, ?_⟩
      have e : (2 : Int) + (n : Int) = ((2 + n : Nat) : Int) := by omega
      have q := k (2 + n) (by rw [hd, List.length_drop]; simp; omega)
      rw [← e] at q
      exact q
    · have h0 := drop_get hd
      have e0 : decide (V.int p = V.int 0) = false := decide_eq_false fun z => hp (by injection z)
      refine ⟨_, rfl, _, rfl, _, _, _, _, rfl, rfl, hS, at_of rfl (map_some h0), rfl, _, rfl, ?_⟩
      rw [e0]
      refine iteF ⟨_, rfl, _, rfl, _, _, _, _, rfl, rfl, hS, at_of rfl (map_some h0), _, _, _, (m : Int), rfl, rfl, T.d_NUMBERS_BEHIND, ?_, _, _, rfl, rfl, ?_⟩
      · rcases arity_cases ha with ⟨rfl, rfl⟩ | ⟨rfl, rfl⟩ | ⟨rfl, rfl⟩ | ⟨rfl, rfl⟩ | ⟨rfl, rfl⟩ | ⟨rfl, rfl⟩ | ⟨rfl, rfl⟩ | ⟨rfl, rfl⟩ | ⟨rfl, rfl⟩ | ⟨rfl, rfl⟩ | ⟨rfl, rfl⟩ | ⟨rfl, rfl⟩ | ⟨rfl, rfl⟩ <;> rfl
      · have e : (1 : Int) + (m : Int) = ((1 + m : Nat) : Int) := by omega
        have q := k (1 + m) (by rw [hd, List.length_drop, List.length_cons]; omega)
        rw [← e] at q
        exact q
end
end Cb

namespace Cb
open PySem L2
open Ag02 (Copy Letter above same zero)
section
variable {P : Program} {w : World} {K : PySem.W.Frag} {mg : Str → Option Value} {base : Heap} {A : Adr}
/-! ### all calls -/
theorem Evo.seq {τ τ' : Addr → Tag} {H H' : Hp} (e : Evo τ τ' H H') {a : Addr} {xs : List V} (h : SqL K H a xs) (t : ∀ o, H a = some o → τ a = (0, 0)) : SqL K H' a xs := by
  rcases h with (h | ⟨o, h⟩) | h
  · exact .inl (.inl (e.keep h (t _ h)).1)
  · exact .inl (.inr ⟨o, (e.keep h (t _ h)).1⟩)
  · exact .inr h
theorem cut_mid {ns : List Int} {s n : Nat} (h : s + n ≤ ns.length) : cutV (ns.map V.int) (some (s : Int)) (some ((s : Int) + (n : Int))) = ((ns.drop s).take n).map V.int := by
  unfold cutV
  have e : (s : Int) + (n : Int) = ((s + n : Nat) : Int) := by omega
  rw [e, HT.sIx_nat, HT.sIx_nat, List.length_map, Nat.min_eq_left (show s ≤ ns.length by omega), Nat.min_eq_left h, List.map_take, List.map_drop]
  congr 1
  omega
theorem cut_from {l : List Int} {n : Nat} (h : n ≤ l.length) : cutV (l.map V.int) (some (n : Int)) none = (l.drop n).map V.int := by
  unfold cutV
  rw [HT.sIx_none, HT.sIx_nat, List.length_map, Nat.min_eq_left h, List.map_drop]
  exact List.take_of_length_le (by rw [List.length_drop, List.length_map]; exact Nat.le_refl _)
/-- the world as answers holds it -/
def WorldV (A : Adr) (H0 H : Hp) (g : Addr) (wv : V) (n : Nat) : Option MW → Prop
  | none => wv = .non
  | some W => ∃ L : Lay, wv = .ref L.p ∧ WAt A L H W ∧ (Ok W ∧ Rec W) ∧ W.ops.length ≤ n ∧ L.tg g = (0, 0) ∧ ∀ b u, H0 b = some u → L.tg b = (0, 0)
theorem WorldV.same {H0 H H' : Hp} {g : Addr} {wv : V} {n : Nat} {o : Option MW} (h : WorldV A H0 H g wv n o) (s : Same H H') : WorldV A H0 H' g wv n o := by
  cases o with
  | none => exact h
  | some W =>
    obtain ⟨L, h1, h2, h3⟩ := h
    exact ⟨L, h1, h2.same s, h3⟩
theorem WorldV.okN {H0 H : Hp} {g : Addr} {wv : V} {n : Nat} {o : Option MW} (h : WorldV A H0 H g wv n o) : OkN n o := by
  cases o with
  | none => intro W e; cases e
  | some W =>
    obtain ⟨L, h1, h2, h3, h4, _⟩ := h
    intro W' e
    cases e
    exact ⟨h3.1, h4⟩
theorem told_cons (a : List Int) (r : List (List Int)) : PyFlat.told (a :: r) = (a.length : Int) :: a ++ PyFlat.told r := rfl
theorem top_answers (T : Txt K mg A) {f0 : Addr} {fd0 : FuncData} (F0 : Fun K "answers" "answers" s_answers f0 fd0) : FnOk P w K mg base CX0 11 f0 fd0 ["calls"] (spAns K) := by
  have G_can_begin := ok_can_begin (P := P) (w := w) (base := base) T
  have G_answer_of := ok_answer_of (P := P) (w := w) (base := base) T
  have G_World_init := ok_World_init (P := P) (w := w) (base := base) T
  have G_call_length := ok_call_length (P := P) (w := w) (base := base) T
  obtain ⟨f_can_begin, d_can_begin, h_can_begin, k_can_begin, b_can_begin, F_can_begin⟩ := G_can_begin.ex
  obtain ⟨f_answer_of, d_answer_of, h_answer_of, k_answer_of, b_answer_of, F_answer_of⟩ := G_answer_of.ex
  obtain ⟨f_World_init, d_World_init, M_World_init, h_World_init, b_World_init, F_World_init⟩ := G_World_init.ex
  obtain ⟨f_call_length, d_call_length, h_call_length, k_call_length, b_call_length, F_call_length⟩ := G_call_length.ex
  refine F0.ok sc_answers (fun vs H Q E h => ?_) (fun cdv B outer s H vs Q E hr h => ?_)
  · obtain ⟨a, ns, rfl, _⟩ := h
    rfl
  · obtain ⟨a, ns, rfl, hS, hlen, hbyte, hask, k⟩ := h
    obtain ⟨cs0, hcs0, hcl0, hin0, hans, hshort⟩ := asked_of hask
    refine ⟨_, (pss_cons (ps_set (i := 1) sc_answers.nd rfl (Or.inl rfl) (pe_lst pa_nil))
      (pss_cons (ps_set (i := 2) sc_answers.nd rfl (Or.inl rfl) pe_non)
      (pss_cons (ps_set (i := 3) sc_answers.nd rfl (Or.inl rfl) pe_int)
      (pss_cons (ps_while PassesOwn.never (pt_cmpR op_lt (pv 3) (pe_callB call_len_seq (by rfl) T.b_len PySem.boot_len (pa_cons (pv 0) pa_nil)) (nomark _))
        (pss_cons (ps_set (i := 4) sc_answers.nd rfl (Or.inl rfl) (pe_slice sl_list (pv 0) (po_some (pv 3)) (po_some (pe_op op_add (pv 3) (pe_call F_call_length (hr.mono (by decide)) (by rfl) h_call_length k_call_length b_call_length .nil pass0 (pa_cons (pv 0) (pa_cons (pv 3) pa_nil)))))))
        (pss_cons (ps_set (i := 3) sc_answers.nd rfl (Or.inl rfl) (pe_op op_add (pv 3) (pe_callB call_len_seq (by rfl) T.b_len PySem.boot_len (pa_cons (pv 4) pa_nil))))
        (Evl.pss_cut (ps_if (pt_cmpR op_ne (pe_ix ix_list (pv 4) pe_int (fun _ _ => rfl)) (pe_gint rfl T.g_BEGIN) (nomark _))
          (pss_one (ps_set (i := 5) sc_answers.nd rfl (Or.inl rfl) (pe_ifExp (pt_cmpR op_isN (pv 2) pe_non (nomark _)) (pe_lst (pa_cons (pe_gint rfl T.g_NO_WORLD) pa_nil)) (pe_call F_answer_of (hr.mono (by decide)) (by rfl) h_answer_of k_answer_of b_answer_of .nil pass0 (pa_cons (pv 2) (pa_cons (pv 4) pa_nil))))))
          (pss_one (ps_if (pt_val (pe_call F_can_begin (hr.mono (by decide)) (by rfl) h_can_begin k_can_begin b_can_begin .nil pass0 (pa_cons (pe_slice sl_list (pv 4) (po_some pe_int) po_none) pa_nil)))
            (pss_cons (ps_set (i := 2) sc_answers.nd rfl (Or.inl rfl) (pe_make M_World_init F_World_init (hr.mono (by decide)) (by rfl) h_World_init b_World_init .nil pass0 (pa_cons (pe_slice sl_list (pv 4) (po_some pe_int) po_none) pa_nil)))
            (pss_one (ps_set (i := 5) sc_answers.nd rfl (Or.inl rfl) (pe_lst (pa_cons pe_int pa_nil)))))
            (pss_one (ps_set (i := 5) sc_answers.nd rfl (Or.inl rfl) (pe_lst (pa_cons (pe_gint rfl T.g_NO_SUCH) pa_nil)))))))
        (pss_cons (ps_expr (pe_bm PySem.F.plainAttrs_list PySem.F.slot_list_append PySem.F.type_list_append mt_append (pv 1) (pa_cons (pe_callB call_len_seq (by rfl) T.b_len PySem.boot_len (pa_cons (pv 5) pa_nil)) pa_nil)))
        (pss_one (ps_expr (pe_bm PySem.F.plainAttrs_list PySem.F.slot_list_extend PySem.F.type_list_extend mt_extend (pv 1) (pa_cons (pv 5) pa_nil)))))))))
      (pss_one (ps_ret (pv 1))))))), ?_⟩
    refine ⟨Nat.zero_le _, fun g hg => ?_⟩
    have s0 : Same H (upd H g (.lst [])) := Same.upd hg
    refine ⟨fun m σ H' => ∃ (s : Nat) (o : Option MW) (wv : V) (v4 v5 : Option V) (f : Nat) (cs : List (List (List Int))) (done : List Int), m = ns.length - s ∧ s ≤ ns.length ∧ σ = [some (.ref a), some (.ref g), some wv, some (.int (s : Int)), v4, v5] ∧ H' g = some (.lst (done.map V.int)) ∧
      Same H H' ∧ WorldV A H H' g wv s o ∧ PyFlat.calls PyAg02.shape f (ns.drop s) = some cs ∧ (∀ c ∈ cs, PyInside.call PyAg02.bound c = true) ∧ done ++ PyFlat.told (mrun o cs) = PyAg02.answers ns,
      ⟨_, 0, none, .non, none, none, ns.length, cs0, [], rfl, Nat.zero_le _, rfl, upd_same, s0, rfl, hcs0, hin0, by rw [hans]; rfl⟩, ?_⟩
    rintro m σ H1 ⟨s', o, wv, v4, v5, f, cs, done, rfl, hs', rfl, hg1, s1, hW, hcs, hin, heq⟩
    have hS1 : SqL K H1 a (ns.map V.int) := s1.seq hS
    refine ⟨_, rfl, _, rfl, a, _, rfl, .inl hS1, _, _, rfl, rfl, _, rfl, ?_⟩
    rw [List.length_map, gt_nat]
    by_cases hlt : s' < ns.length
    · rw [decide_eq_true hlt]
      refine iteT ?_
      have hne : ns.drop s' ≠ [] := fun z => by
        have := congrArg List.length z
        rw [List.length_drop] at this
        simp at this
        omega
      obtain ⟨c, t, f', cs', hcall, hcs', rfl⟩ := calls_cons hcs hne
      have hinc := hin c (List.mem_cons_self ..)
      -- one call: its numbers, the rest
      obtain ⟨cl, n, hn1, htake, htd, hn0⟩ : ∃ (cl : List Int) (n : Nat), n + t.length = (ns.drop s').length ∧ (ns.drop s').take n = cl ∧ t = ns.drop (s' + n) ∧ 0 < n := by
        rcases call_cases hcall with ⟨n, r, hd, hn, _, rfl⟩ | ⟨p, m, r, hd, hp, ha, hm, _, rfl⟩
        · refine ⟨_, 2 + n, ?_, rfl, ?_, by omega⟩
          · rw [hd, List.length_drop]; simp; omega
          · rw [← List.drop_drop, hd]
            have : 2 + n = n + 2 := by omega
            rw [this]
            rfl
        · refine ⟨_, 1 + m, ?_, rfl, ?_, by omega⟩
          · rw [hd, List.length_drop, List.length_cons]; omega
          · rw [← List.drop_drop, hd]
            have : 1 + m = m + 1 := by omega
            rw [this]
            rfl
      have hsn : s' + n ≤ ns.length := by
        rw [List.length_drop] at hn1
        omega
      have hcn : cl.length = n := by
        rw [← htake, List.length_take]
        omega
      refine ⟨_, fun _ _ z => z, ?_⟩
      refine ⟨_, rfl, _, rfl, _, rfl, _, rfl, _, rfl, _, rfl, a, ns, s', c, t, rfl, hS1, hcall, fun n' hn' => ?_⟩
      obtain rfl : n' = n := by omega
      refine ⟨_, _, rfl, rfl, _, rfl, a, _, rfl, hS1, fun l hl => ?_⟩
      rw [cut_mid hsn, htake]
      have s2 : Same H1 (upd H1 l (.lst (cl.map V.int))) := Same.upd hl
      have hl2 : upd H1 l (.lst (cl.map V.int)) l = some (.lst (cl.map V.int)) := upd_same
      generalize hH2 : upd H1 l (.lst (cl.map V.int)) = H2 at s2 hl2
      have hg2 := s2 _ _ hg1
      have s12 := s1.trans s2
      have hW2 := hW.same s2
      refine ⟨_, rfl, _, rfl, l, _, rfl, .inl (SqL.of hl2), _, _, rfl, rfl, ?_⟩
      have estart : (s' : Int) + (((cl.map V.int).length : Nat) : Int) = ((s' + n' : Nat) : Int) := by rw [List.length_map, hcn]; omega
      refine ⟨fun σ' H' => ∃ (r : Addr) (o' : Option MW) (wv' : V) (ans : List Int), σ' = [some (.ref a), some (.ref g), some wv', some (.int ((s' : Int) + (((cl.map V.int).length : Nat) : Int))), some (.ref l), some (.ref r)] ∧ H' g = some (.lst (done.map V.int)) ∧ Same H H' ∧ WorldV A H H' g wv' (s' + n') o' ∧ H' r = some (.lst (ans.map V.int)) ∧ r ≠ g ∧
        done ++ (((ans.length : Int) :: ans) ++ PyFlat.told (mrun o' cs')) = PyAg02.answers ns, ?_, ?_⟩
      · rcases call_cases hcall with ⟨nw, r, hd, hnw, hc, ht⟩ | ⟨p, m, r, hd, hp, ha, hm, hc, ht⟩
        · -- begin
          rw [hc] at hinc
          obtain ⟨ws, hws, hws10, hcof⟩ := weights_of hinc
          have ecl : cl = 0 :: (nw : Int) :: r.take nw := by
            have : n' = nw + 2 := by
              have e1 := hn1
              rw [ht, hd, List.length_drop] at e1
              simp at e1
              omega
            rw [← htake, hd, this]
            rfl
          have hcl2 : (cl.drop 2).map V.int = nsV ws := by
            rw [ecl]
            show (r.take nw).map V.int = _
            rw [hws, nsV_ints]
            rfl
          have emr : mrun o (c :: cs') = (mstep o (.begin_ ws)).2 :: mrun (mstep o (.begin_ ws)).1 cs' := by
            rw [hc]
            exact mrun_cons hcof
          rw [emr] at heq
          have h0 : (cl.map V.int)[0]? = some (V.int 0) := by rw [ecl]; rfl
          refine ⟨_, rfl, _, _, _, _, rfl, rfl, SqL.of hl2, at_of (show (0 : Int) = ((0 : Nat) : Int) from rfl) h0, rfl, _, rfl, iteF ?_⟩
          have hlen2 : 2 ≤ cl.length := by rw [ecl]; simp
          refine ⟨_, rfl, _, rfl, l, _, rfl, SqL.of hl2, fun q hq => ?_⟩
          have ecut : cutV (cl.map V.int) (some 2) none = nsV ws := (cut_from (n := 2) hlen2).trans hcl2
          rw [ecut]
          have s3 : Same H2 (upd H2 q (.lst (nsV ws))) := Same.upd hq
          refine ⟨q, ws, rfl, upd_same, _, rfl, ?_⟩
          cases hcb : canBegin ws with
          | true =>
            have est : mstep o (.begin_ ws) = (some (freshW ws), [0]) := if_pos hcb
            rw [est] at heq
            generalize hH3 : upd H2 q (.lst (nsV ws)) = H3 at s3
            have s13 := s12.trans s3
            refine iteT ⟨_, rfl, _, rfl, l, _, rfl, SqL.of (s3 _ _ hl2), fun q2 hq2 => ?_⟩
            rw [ecut]
            have s4 : Same H3 (upd H3 q2 (.lst (nsV ws))) := Same.upd hq2
            have hq24 : upd H3 q2 (.lst (nsV ws)) q2 = some (.lst (nsV ws)) := upd_same
            generalize hH4 : upd H3 q2 (.lst (nsV ws)) = H4 at s4 hq24
            refine fun x d nx nd ne => ⟨x, d, q2, ws, rfl, upd_same, ?_, by omega, fun L H5 hLp w5 kp => ⟨rfl, ?_⟩⟩
            · rw [upd_ne (ne_of_none hq24 nx), upd_ne (ne_of_none hq24 nd)]
              exact hq24
            have s5 : ∀ b u, H4 b = some u → H5 b = some u ∧ L.tg b = (0, 0) := fun b u hb => kp b u (by rw [upd_ne (ne_of_none hb nx), upd_ne (ne_of_none hb nd)]; exact hb) (ne_of_none hb nx)
            have s14 : Same H H5 := fun b u hb => (s5 b u (s4 _ _ (s13 _ _ hb))).1
            have hg4 := s5 _ _ (s4 _ _ (s3 _ _ hg2))
            refine ⟨(by show 1 ≤ sizeLine; decide), fun r5 hr5 => ?_⟩
            have w6 : WAt A L (upd H5 r5 (.lst [.int 0])) (freshW ws) := w5.same (Same.upd hr5)
            have hok : Ok (freshW ws) ∧ (freshW ws).ops.length ≤ s' + n' := by
              have := okN_step (n := 0) (o := none) (fun W h => by cases h) (.begin_ ws) (freshW ws) (by
                have e : mstep none (.begin_ ws) = (some (freshW ws), [0]) := if_pos hcb
                rw [e])
              exact ⟨this.1, Nat.zero_le _⟩
            refine ⟨r5, some (freshW ws), .ref L.p, [0], ?_, ?_, fun b u hb => ?_, ⟨L, rfl, w6, ⟨hok.1, fun _ z => nomatch z⟩, hok.2, hg4.2, fun b u hb => (s5 b u (s4 _ _ (s13 _ _ hb))).2⟩, upd_same, ?_, heq⟩
            · rw [← hLp]
              rfl
            · rw [upd_ne (ne_of_none hg4.1 hr5)]
              exact hg4.1
            · rw [upd_ne (ne_of_none (s14 _ _ hb) hr5)]
              exact s14 _ _ hb
            · exact (ne_of_none hg4.1 hr5).symm
          | false =>
            have est : mstep o (.begin_ ws) = (o, [-1]) := if_neg (by rw [hcb]; decide)
            rw [est] at heq
            refine iteF ⟨(by show 1 ≤ sizeLine; decide), fun r5 hr5 => ?_⟩
            have s4 := Same.upd2 (o := .lst [.int (-1)]) s3 hr5
            have hg4 := s3 _ _ hg2
            refine ⟨r5, o, wv, [-1], rfl, s4 _ _ hg2, s12.trans s4, ?_, upd_same, (ne_of_none hg4 hr5).symm, heq⟩
            have hW4 := hW2.same s4
            cases o with
            | none => exact hW4
            | some W =>
              obtain ⟨L, z1, z2, z3, z4, z5⟩ := hW4
              exact ⟨L, z1, z2, z3, by omega, z5⟩
        · -- any other call
          rw [hc] at hinc
          obtain ⟨x, hflat, hcof⟩ := flat_of ha hm hinc
          have ecl : cl = p :: r.take m := by
            have : n' = m + 1 := by
              have e1 := hn1
              rw [ht, hd, List.length_drop, List.length_cons] at e1
              omega
            rw [← htake, hd, this]
            rfl
          rw [← ecl] at hflat
          have emr : mrun o (c :: cs') = (mstep o x).2 :: mrun (mstep o x).1 cs' := by
            rw [hc]
            exact mrun_cons hcof
          rw [emr] at heq
          have h0 : (cl.map V.int)[0]? = some (V.int p) := by rw [ecl]; rfl
          have ep : (!decide (V.int p = V.int 0)) = true := by rw [decide_eq_false (fun z => hp (by injection z))]; rfl
          refine ⟨_, rfl, _, _, _, _, rfl, rfl, SqL.of hl2, at_of (show (0 : Int) = ((0 : Nat) : Int) from rfl) h0, rfl, _, rfl, ?_⟩
          rw [ep]
          refine iteT ⟨_, rfl, rfl, _, rfl, ?_⟩
          cases o with
          | none =>
            obtain rfl : wv = .non := hW
            have est : mstep none x = (none, [-9]) := by cases hflat <;> rfl
            rw [est] at heq
            refine iteT ⟨(by show 1 ≤ sizeLine; decide), fun r5 hr5 => ?_⟩
            have s4 : Same H2 (upd H2 r5 (.lst [.int (-9)])) := Same.upd hr5
            exact ⟨r5, none, .non, [-9], rfl, s4 _ _ hg2, s12.trans s4, rfl, upd_same, (ne_of_none hg2 hr5).symm, heq⟩
          | some W =>
            obtain ⟨L, rfl, wa, ok, hops, tg, told⟩ := hW2
            obtain ⟨W', hW'⟩ : ∃ W', (mstep (some W) x).1 = some W' := by cases hflat <;> exact ⟨_, rfl⟩
            have okW' := okN_step (n := s') (o := some W) (fun X e => by cases e; exact ⟨ok.1, hops⟩) x W' hW'
            have rcW' := rec_step (o := some W) (fun X e => by cases e; exact ok.2) x W' hW'
            refine iteF ⟨_, rfl, _, rfl, L, W, W', l, cl, x, rfl, wa, ok.1, ok.2, by omega, hl2, hflat, hW', fun L' H5 r5 hp5 w5 e5 nr5 hr5 tr5 => ?_⟩
            rw [hW'] at heq
            have hg5 := e5.keep hg2 tg
            refine ⟨r5, some W', .ref L.p, (mstep (some W) x).2, rfl, hg5.1, fun b u hb => (e5.keep (s12 _ _ hb) (told b u hb)).1, ⟨L', by rw [hp5], w5, ⟨okW'.1, rcW'⟩, by have := okW'.2; omega, hg5.2, fun b u hb => (e5.keep (s12 _ _ hb) (told b u hb)).2⟩, hr5, ?_, heq⟩
            exact fun z => by rw [z, hg2] at nr5; cases nr5
      · rintro σ' H3 ⟨r, o', wv', ans, rfl, hg3, s3, hW3, hr3, hrg, heq'⟩
        have elen : (done.map V.int).length + 1 + ans.length ≤ 10000000 := by
          have := congrArg List.length heq'
          rw [List.length_append, List.length_append, List.length_cons] at this
          rw [List.length_map]
          omega
        have hz : 10000000 < sizeLine := by decide
        refine ⟨_, rfl, .inl ⟨rfl, _, SqL.of hg3⟩, _, rfl, r, _, rfl, .inl (SqL.of hr3), g, _, _, rfl, rfl, hg3, by omega, ?_⟩
        refine ⟨_, rfl, .inl ⟨rfl, _, SqL.of upd_same⟩, _, rfl, g, r, _, _, rfl, rfl, upd_same, Eq.trans (upd_ne hrg) hr3, ?_, ?_⟩
        · rw [List.length_append, List.length_map, List.length_singleton, List.length_map]
          rw [List.length_map] at elen
          omega
        rw [upd_upd]
        have eg : done.map V.int ++ [V.int (((ans.map V.int).length : Nat) : Int)] ++ ans.map V.int = (done ++ ((ans.length : Int) :: ans)).map V.int := by
          rw [List.map_append, List.append_assoc, List.length_map]
          rfl
        rw [eg]
        refine ⟨ns.length - (s' + n'), by omega, s' + n', o', wv', some (.ref l), some (.ref r), f', cs', done ++ ((ans.length : Int) :: ans), rfl, hsn, by rw [← estart], upd_same, fun b u hb => ?_, ?_, by rw [← htd]; exact hcs', fun c' hc' => hin c' (List.mem_cons_of_mem _ hc'), ?_⟩
        · rw [upd_ne (ne_of_none hb hg)]
          exact s3 _ _ hb
        · cases o' with
          | none => exact hW3
          | some W =>
            obtain ⟨L, z1, z2, z3, z4, z5, z6⟩ := hW3
            exact ⟨L, z1, z2.foreign hg3 z5, z3, z4, z5, z6⟩
        · rw [List.append_assoc]
          exact heq'
    · rw [decide_eq_false hlt]
      refine iteF ⟨_, rfl, ?_⟩
      have e0 : ns.drop s' = [] := List.drop_of_length_le (by omega)
      rw [e0] at hcs
      have := calls_nil hcs
      subst this
      have e1 : done = PyAg02.answers ns := by
        rw [← heq]
        exact (List.append_nil done).symm
      rw [e1] at hg1
      exact k H1 g hg1
end
end Cb

open PySem PySem.W PyProof.Rows
set_option maxRecDepth 100000 in
set_option maxHeartbeats 0 in
theorem PySem.Challenge.cw_cellsbymost_s01_answers_holds : PySem.Challenge.rw_cellsbymost_s01_answers.Holds := by
  w_on; k_headS; (case hw => exact ⟨[.list [.int 13]], by decide +kernel, by decide +kernel⟩)
  k_fillS
  refine L2.walk_specK (r := PySem.Challenge.rw_cellsbymost_s01_answers) (k := 11) (CX := L2.CX0) (ps := ["calls"]) (sp := Cb.spAns) (by decide +kernel) rfl rfl ⟨rfl, by decide, by decide⟩ (fun w h Y => PySem.W.kIn_of Y) ?F ?S (fun _ _ _ _ z => z)
  case F =>
    intro w mg fa h Y KX G hmg
    refine' Cb.fin hmg (Cb.txt_mk KX G ?gC_Letter ?gC_Node ?gC_Operation ?gC_Client ?gC_World ?a1 ?l1 ?c1 ?k1 ?a2 ?l2 ?c2 ?k2 ?a3 ?l3 ?c3 ?k3 ?a4 ?l4 ?c4 ?k4 ?a5 ?i5 ?l5 ?c5 ?k5 ?a6 ?i6 ?l6 ?c6 ?k6 ?a7 ?l7 ?c7 ?k7 ?a8 ?i8 ?l8 ?c8 ?k8 ?a9 ?i9 ?l9 ?c9 ?k9 ?a10 ?i10 ?l10 ?c10 ?k10 ?a11 ?i11 ?l11 ?c11 ?k11 ?a12 ?i12 ?l12 ?c12 ?k12 ?a13 ?i13 ?l13 ?c13 ?k13 ?a14 ?i14 ?l14 ?c14 ?k14 ?a15 ?i15 ?l15 ?c15 ?k15 ?a16 ?i16 ?l16 ?c16 ?k16 ?a17 ?i17 ?l17 ?c17 ?k17 ?a18 ?i18 ?l18 ?c18 ?k18 ?a19 ?i19 ?l19 ?c19 ?k19 ?a20 ?i20 ?l20 ?c20 ?k20 ?a21 ?i21 ?l21 ?c21 ?k21 ?a22 ?i22 ?l22 ?c22 ?k22 ?a23 ?i23 ?l23 ?c23 ?k23 ?a24 ?i24 ?l24 ?c24 ?k24 ?a25 ?i25 ?l25 ?c25 ?k25 ?a26 ?i26 ?l26 ?c26 ?k26 ?a27 ?i27 ?l27 ?c27 ?k27 ?a28 ?i28 ?l28 ?c28 ?k28 ?a29 ?i29 ?l29 ?c29 ?k29 ?a30 ?i30 ?l30 ?c30 ?k30 ?a31 ?i31 ?l31 ?c31 ?k31 ?a32 ?i32 ?l32 ?c32 ?k32 ?a33 ?i33 ?l33 ?c33 ?k33 ?a34 ?i34 ?l34 ?c34 ?k34 ?a35 ?i35 ?l35 ?c35 ?k35 ?a36 ?i36 ?l36 ?c36 ?k36 ?a37 ?i37 ?l37 ?c37 ?k37 ?a38 ?i38 ?l38 ?c38 ?k38 ?a39 ?i39 ?l39 ?c39 ?k39 ?a40 ?i40 ?l40 ?c40 ?k40 ?a41 ?i41 ?l41 ?c41 ?k41 ?a42 ?i42 ?l42 ?c42 ?k42 ?a43 ?i43 ?l43 ?c43 ?k43 ?a44 ?i44 ?l44 ?c44 ?k44 ?a45 ?i45 ?l45 ?c45 ?k45 ?a46 ?i46 ?l46 ?c46 ?k46 ?a47 ?i47 ?l47 ?c47 ?k47 ?a48 ?l48 ?c48 ?k48 ?a49 ?l49 ?c49 ?k49 ?a50 ?l50 ?c50 ?k50 ?a51 ?l51 ?c51 ?k51 ?pg_Letter ?hd_Letter ?po_Letter ?sa_Letter ?mk_Letter ?kc_Letter ?n_Letter_kind ?n_Letter_to ?n_Letter_sender ?n_Letter_operation ?n_Letter_cell ?n_Letter_enclosed ?pg_Node ?hd_Node ?po_Node ?sa_Node ?mk_Node ?kc_Node ?n_Node_weight ?n_Node_runs ?n_Node_copies ?pg_Operation ?hd_Operation ?po_Operation ?sa_Operation ?mk_Operation ?kc_Operation ?n_Operation_client ?n_Operation_number ?n_Operation_cell ?n_Operation_writes ?n_Operation_value ?n_Operation_began ?n_Operation_ended ?n_Operation_result ?n_Operation_heard ?n_Operation_told ?n_Operation_wanted ?n_Operation_keepers ?pg_Client ?hd_Client ?po_Client ?sa_Client ?mk_Client ?kc_Client ?n_Client_begun ?n_Client_gone ?n_Client_under_way ?pg_World ?hd_World ?po_World ?sa_World ?mk_World ?kc_World ?n_World_nodes ?n_World_clients ?n_World_row ?n_World_record ?n_World_events ?g_CELLS ?g_ZERO_COPY ?l_ZERO_COPY ?lc_ZERO_COPY ?ld_ZERO_COPY ?lz_ZERO_COPY ?lv_ZERO_COPY ?g_ASKS ?g_TELLS ?g_KEEP ?g_KEPT ?g_CLIENTS ?g_MOST_NODES ?g_GREATEST_WEIGHT ?g_GREATEST_VALUE ?g_ROOM ?g_NO_USE ?g_ANSWERED ?g_COUNTED ?g_GOES_ON ?g_ENDED ?g_NO_SUCH ?g_NOT_NOW ?g_NO_WORLD ?g_BEGIN ?g_READ ?g_WRITE ?g_TAKE ?g_AGAIN ?g_LOSE ?g_NUDGE ?g_QUIT ?g_STOP ?g_START ?g_LETTERS ?g_NODE ?g_CLIENT ?g_NUMBERS_BEHIND ?l_NUMBERS_BEHIND ?lk_NUMBERS_BEHIND ?b_len ?b_sum ?b_max ?b_range ?b_zip ?b_list) (fun T F => Cb.top_answers T F)
    (case gC_Letter => k_is)
    (case gC_Node => k_is)
    (case gC_Operation => k_is)
    (case gC_Client => k_is)
    (case gC_World => k_is)
    (case a1 => k_is)
    (case l1 => k_is)
    (case c1 => k_is)
    (case k1 => k_is)
    (case a2 => k_is)
    (case l2 => k_is)
    (case c2 => k_is)
    (case k2 => k_is)
    (case a3 => k_is)
    (case l3 => k_is)
    (case c3 => k_is)
    (case k3 => k_is)
    (case a4 => k_is)
    (case l4 => k_is)
    (case c4 => k_is)
    (case k4 => k_is)
    (case a5 => k_is)
    (case i5 => k_is)
    (case l5 => k_is)
    (case c5 => k_is)
    (case k5 => k_is)
    (case a6 => k_is)
    (case i6 => k_is)
    (case l6 => k_is)
    (case c6 => k_is)
    (case k6 => k_is)
    (case a7 => k_is)
    (case l7 => k_is)
    (case c7 => k_is)
    (case k7 => k_is)
    (case a8 => k_is)
    (case i8 => k_is)
    (case l8 => k_is)
    (case c8 => k_is)
    (case k8 => k_is)
    (case a9 => k_is)
    (case i9 => k_is)
    (case l9 => k_is)
    (case c9 => k_is)
    (case k9 => k_is)
    (case a10 => k_is)
    (case i10 => k_is)
    (case l10 => k_is)
    (case c10 => k_is)
    (case k10 => k_is)
    (case a11 => k_is)
    (case i11 => k_is)
    (case l11 => k_is)
    (case c11 => k_is)
    (case k11 => k_is)
    (case a12 => k_is)
    (case i12 => k_is)
    (case l12 => k_is)
    (case c12 => k_is)
    (case k12 => k_is)
    (case a13 => k_is)
    (case i13 => k_is)
    (case l13 => k_is)
    (case c13 => k_is)
    (case k13 => k_is)
    (case a14 => k_is)
    (case i14 => k_is)
    (case l14 => k_is)
    (case c14 => k_is)
    (case k14 => k_is)
    (case a15 => k_is)
    (case i15 => k_is)
    (case l15 => k_is)
    (case c15 => k_is)
    (case k15 => k_is)
    (case a16 => k_is)
    (case i16 => k_is)
    (case l16 => k_is)
    (case c16 => k_is)
    (case k16 => k_is)
    (case a17 => k_is)
    (case i17 => k_is)
    (case l17 => k_is)
    (case c17 => k_is)
    (case k17 => k_is)
    (case a18 => k_is)
    (case i18 => k_is)
    (case l18 => k_is)
    (case c18 => k_is)
    (case k18 => k_is)
    (case a19 => k_is)
    (case i19 => k_is)
    (case l19 => k_is)
    (case c19 => k_is)
    (case k19 => k_is)
    (case a20 => k_is)
    (case i20 => k_is)
    (case l20 => k_is)
    (case c20 => k_is)
    (case k20 => k_is)
    (case a21 => k_is)
    (case i21 => k_is)
    (case l21 => k_is)
    (case c21 => k_is)
    (case k21 => k_is)
    (case a22 => k_is)
    (case i22 => k_is)
    (case l22 => k_is)
    (case c22 => k_is)
    (case k22 => k_is)
    (case a23 => k_is)
    (case i23 => k_is)
    (case l23 => k_is)
    (case c23 => k_is)
    (case k23 => k_is)
    (case a24 => k_is)
    (case i24 => k_is)
    (case l24 => k_is)
    (case c24 => k_is)
    (case k24 => k_is)
    (case a25 => k_is)
    (case i25 => k_is)
    (case l25 => k_is)
    (case c25 => k_is)
    (case k25 => k_is)
    (case a26 => k_is)
    (case i26 => k_is)
    (case l26 => k_is)
    (case c26 => k_is)
    (case k26 => k_is)
    (case a27 => k_is)
    (case i27 => k_is)
    (case l27 => k_is)
    (case c27 => k_is)
    (case k27 => k_is)
    (case a28 => k_is)
    (case i28 => k_is)
    (case l28 => k_is)
    (case c28 => k_is)
    (case k28 => k_is)
    (case a29 => k_is)
    (case i29 => k_is)
    (case l29 => k_is)
    (case c29 => k_is)
    (case k29 => k_is)
    (case a30 => k_is)
    (case i30 => k_is)
    (case l30 => k_is)
    (case c30 => k_is)
    (case k30 => k_is)
    (case a31 => k_is)
    (case i31 => k_is)
    (case l31 => k_is)
    (case c31 => k_is)
    (case k31 => k_is)
    (case a32 => k_is)
    (case i32 => k_is)
    (case l32 => k_is)
    (case c32 => k_is)
    (case k32 => k_is)
    (case a33 => k_is)
    (case i33 => k_is)
    (case l33 => k_is)
    (case c33 => k_is)
    (case k33 => k_is)
    (case a34 => k_is)
    (case i34 => k_is)
    (case l34 => k_is)
    (case c34 => k_is)
    (case k34 => k_is)
    (case a35 => k_is)
    (case i35 => k_is)
    (case l35 => k_is)
    (case c35 => k_is)
    (case k35 => k_is)
    (case a36 => k_is)
    (case i36 => k_is)
    (case l36 => k_is)
    (case c36 => k_is)
    (case k36 => k_is)
    (case a37 => k_is)
    (case i37 => k_is)
    (case l37 => k_is)
    (case c37 => k_is)
    (case k37 => k_is)
    (case a38 => k_is)
    (case i38 => k_is)
    (case l38 => k_is)
    (case c38 => k_is)
    (case k38 => k_is)
    (case a39 => k_is)
    (case i39 => k_is)
    (case l39 => k_is)
    (case c39 => k_is)
    (case k39 => k_is)
    (case a40 => k_is)
    (case i40 => k_is)
    (case l40 => k_is)
    (case c40 => k_is)
    (case k40 => k_is)
    (case a41 => k_is)
    (case i41 => k_is)
    (case l41 => k_is)
    (case c41 => k_is)
    (case k41 => k_is)
    (case a42 => k_is)
    (case i42 => k_is)
    (case l42 => k_is)
    (case c42 => k_is)
    (case k42 => k_is)
    (case a43 => k_is)
    (case i43 => k_is)
    (case l43 => k_is)
    (case c43 => k_is)
    (case k43 => k_is)
    (case a44 => k_is)
    (case i44 => k_is)
    (case l44 => k_is)
    (case c44 => k_is)
    (case k44 => k_is)
    (case a45 => k_is)
    (case i45 => k_is)
    (case l45 => k_is)
    (case c45 => k_is)
    (case k45 => k_is)
    (case a46 => k_is)
    (case i46 => k_is)
    (case l46 => k_is)
    (case c46 => k_is)
    (case k46 => k_is)
    (case a47 => k_is)
    (case i47 => k_is)
    (case l47 => k_is)
    (case c47 => k_is)
    (case k47 => k_is)
    (case a48 => k_is)
    (case l48 => k_is)
    (case c48 => k_is)
    (case k48 => k_is)
    (case a49 => k_is)
    (case l49 => k_is)
    (case c49 => k_is)
    (case k49 => k_is)
    (case a50 => k_is)
    (case l50 => k_is)
    (case c50 => k_is)
    (case k50 => k_is)
    (case a51 => k_is)
    (case l51 => k_is)
    (case c51 => k_is)
    (case k51 => k_is)
    (case pg_Letter => k_is)
    (case hd_Letter => k_is)
    (case po_Letter => k_is)
    (case sa_Letter => k_is)
    (case mk_Letter => k_is)
    (case kc_Letter => k_is)
    (case n_Letter_kind => k_is)
    (case n_Letter_to => k_is)
    (case n_Letter_sender => k_is)
    (case n_Letter_operation => k_is)
    (case n_Letter_cell => k_is)
    (case n_Letter_enclosed => k_is)
    (case pg_Node => k_is)
    (case hd_Node => k_is)
    (case po_Node => k_is)
    (case sa_Node => k_is)
    (case mk_Node => k_is)
    (case kc_Node => k_is)
    (case n_Node_weight => k_is)
    (case n_Node_runs => k_is)
    (case n_Node_copies => k_is)
    (case pg_Operation => k_is)
    (case hd_Operation => k_is)
    (case po_Operation => k_is)
    (case sa_Operation => k_is)
    (case mk_Operation => k_is)
    (case kc_Operation => k_is)
    (case n_Operation_client => k_is)
    (case n_Operation_number => k_is)
    (case n_Operation_cell => k_is)
    (case n_Operation_writes => k_is)
    (case n_Operation_value => k_is)
    (case n_Operation_began => k_is)
    (case n_Operation_ended => k_is)
    (case n_Operation_result => k_is)
    (case n_Operation_heard => k_is)
    (case n_Operation_told => k_is)
    (case n_Operation_wanted => k_is)
    (case n_Operation_keepers => k_is)
    (case pg_Client => k_is)
    (case hd_Client => k_is)
    (case po_Client => k_is)
    (case sa_Client => k_is)
    (case mk_Client => k_is)
    (case kc_Client => k_is)
    (case n_Client_begun => k_is)
    (case n_Client_gone => k_is)
    (case n_Client_under_way => k_is)
    (case pg_World => k_is)
    (case hd_World => k_is)
    (case po_World => k_is)
    (case sa_World => k_is)
    (case mk_World => k_is)
    (case kc_World => k_is)
    (case n_World_nodes => k_is)
    (case n_World_clients => k_is)
    (case n_World_row => k_is)
    (case n_World_record => k_is)
    (case n_World_events => k_is)
    (case g_CELLS => k_is)
    (case g_ZERO_COPY => k_is)
    (case l_ZERO_COPY => k_is)
    (case lc_ZERO_COPY => rfl)
    (case ld_ZERO_COPY => rfl)
    (case lz_ZERO_COPY => decide +kernel)
    (case lv_ZERO_COPY => exact (.cons ⟨_, rfl⟩ (.cons ⟨_, rfl⟩ (.cons ⟨_, rfl⟩ .nil))))
    (case g_ASKS => k_is)
    (case g_TELLS => k_is)
    (case g_KEEP => k_is)
    (case g_KEPT => k_is)
    (case g_CLIENTS => k_is)
    (case g_MOST_NODES => k_is)
    (case g_GREATEST_WEIGHT => k_is)
    (case g_GREATEST_VALUE => k_is)
    (case g_ROOM => k_is)
    (case g_NO_USE => k_is)
    (case g_ANSWERED => k_is)
    (case g_COUNTED => k_is)
    (case g_GOES_ON => k_is)
    (case g_ENDED => k_is)
    (case g_NO_SUCH => k_is)
    (case g_NOT_NOW => k_is)
    (case g_NO_WORLD => k_is)
    (case g_BEGIN => k_is)
    (case g_READ => k_is)
    (case g_WRITE => k_is)
    (case g_TAKE => k_is)
    (case g_AGAIN => k_is)
    (case g_LOSE => k_is)
    (case g_NUDGE => k_is)
    (case g_QUIT => k_is)
    (case g_STOP => k_is)
    (case g_START => k_is)
    (case g_LETTERS => k_is)
    (case g_NODE => k_is)
    (case g_CLIENT => k_is)
    (case g_NUMBERS_BEHIND => k_is)
    (case l_NUMBERS_BEHIND => k_is)
    (case lk_NUMBERS_BEHIND => exact ⟨⟨_, _, rfl, rfl, rfl⟩, ⟨_, _, rfl, rfl, rfl⟩, ⟨_, _, rfl, rfl, rfl⟩, ⟨_, _, rfl, rfl, rfl⟩, ⟨_, _, rfl, rfl, rfl⟩, ⟨_, _, rfl, rfl, rfl⟩, ⟨_, _, rfl, rfl, rfl⟩, ⟨_, _, rfl, rfl, rfl⟩, ⟨_, _, rfl, rfl, rfl⟩, ⟨_, _, rfl, rfl, rfl⟩, ⟨_, _, rfl, rfl, rfl⟩, ⟨_, _, rfl, rfl, rfl⟩, ⟨_, _, rfl, rfl, rfl⟩, trivial⟩)
    (case b_len => k_is)
    (case b_sum => k_is)
    (case b_max => k_is)
    (case b_range => k_is)
    (case b_zip => k_is)
    (case b_list => k_is)
  case S =>
    intro K H xs a hO hwi hask hx
    cases hx with
    | cons h1 h2 =>
      cases h2
      cases h1 with
      | lst hs ha =>
        have e := L2.ints_dw a.1 _ ha
        subst e
        have q : ((Codec.inLen 0 1300 a.1 && a.1.all (Codec.inInt 0 255)) && true) = true := hwi
        rw [Bool.and_eq_true, Bool.and_eq_true] at q
        exact ⟨_, a.1, rfl, hs, (Codec.inNat_iff.mp q.1.1).2, fun x hx => Codec.inInt_iff.mp (List.all_eq_true.mp q.1.2 x hx), hask, fun H' p hp => .lst (L2.SqL.of hp) (L2.dw_ints _)⟩
