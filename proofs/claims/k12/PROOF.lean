import PyProof.Rows.All
import Wide.All
import OpenK.AllK
import Wide.FinOn
import Lean
import PyProof.EqAt
import PyProof.EqKinds
import PyProof.TupleCall
import PySem.Challenge.RW_pinwall_k12_views_on_lines
set_option Elab.async false
set_option linter.all false
set_option maxRecDepth 100000
namespace L2
open PySem PySem.Spec PyProof.Rows
def HandAt (A : Around) (h : Heap) : Prop := A.handled = none ∨ ∃ (e : Addr) (o : Obj) (vs : Array Value), A.handled = some (.ref e) ∧ h.get? e = some o ∧ o.data = .fields vs ∧ vs[2]? = some .none
def F2 (a : Addr) (h : Heap) : Prop := ∃ o vs, h.get? a = some o ∧ o.data = .fields vs ∧ vs[2]? = some .none
def Safe (φ : Heap → Prop) {α : Type} : Sem α → Prop
 | .rule _ k => Safe φ (k ()) | .at _ k => Safe φ (k ()) | .load _ _ k => ∀ o, Safe φ (k o)
 | .update a _ f k => (∀ h : Heap, φ h → φ (h.update a f)) ∧ Safe φ (k ())
 | .alloc o k => (∀ h : Heap, φ h → φ (h.push o)) ∧ ∀ a, Safe φ (k a)
 | .loadIfAlive _ k => ∀ o, Safe φ (k o) | .point _ k => Safe φ (k ()) | .fresh k => ∀ t, Safe φ (k t) | .ask k => ∀ x, Safe φ (k x)
 | .handled _ k => ∀ x, Safe φ (k x) | .stack k => ∀ x, Safe φ (k x) | .thread k => ∀ x, Safe φ (k x)
 | .pure _ => True | .raise _ => True | .unsupported _ => True | .finish _ => True
 | _ => False
theorem safe_bind {φ : Heap → Prop} {α β : Type} {m : Sem α} {f : α → Sem β} (h : Safe φ m) (k : ∀ a, Safe φ (f a)) : Safe φ (m >>= f) := by
 show Safe φ (m.bind f)
 induction m with
 | pure a => exact k a
 | rule t g ih => exact ih () h
 | «at» p g ih => exact ih () h
 | load a p g ih => exact fun o => ih o (h o)
 | update a p g g2 ih => exact ⟨h.1, ih () h.2⟩
 | alloc o g ih => exact ⟨h.1, fun a => ih a (h.2 a)⟩
 | loadIfAlive a g ih => exact fun o => ih o (h o)
 | point l g ih => exact ih () h
 | fresh g ih => exact fun t => ih t (h t)
 | ask g ih => exact fun t => ih t (h t)
 | handled o g ih => exact fun t => ih t (h t)
 | stack g ih => exact fun t => ih t (h t)
 | thread g ih => exact fun t => ih t (h t)
 | raise e => trivial
 | unsupported e => trivial
 | finish e => trivial
 | _ => exact h.elim
theorem safe_wp {φ : Heap → Prop} {α : Type} {M : Model} {Γ : PySem.Ctx} {Q : α → Pos → Shared → Prop} {E : Value → Pos → Shared → Prop} (m : Sem α) : ∀ {p : Pos} {s : Shared}, Safe φ m → φ s.heap → Sem.wp M Γ m Q E p s →
 Sem.wp M Γ m (fun a p s => Q a p s ∧ φ s.heap) (fun e p s => E e p s ∧ φ s.heap) p s := by
 induction m with
 | pure a => exact fun _ hs h => ⟨h, hs⟩
 | raise e => exact fun _ hs h => ⟨h, hs⟩
 | rule t g ih => exact fun k hs h => ih () k hs h
 | «at» p g ih => exact fun k hs h => ih () k hs h
 | load a p g ih => exact fun k hs ⟨o, e, h⟩ => ⟨o, e, ih o (k o) hs h⟩
 | update a p g g2 ih => exact fun k hs ⟨e, h⟩ => ⟨e, ih () k.2 (k.1 _ hs) h⟩
 | alloc o g ih => exact fun k hs h => ih _ (k.2 _) (k.1 _ hs) h
 | loadIfAlive a g ih => exact fun k hs h => ih _ (k _) hs h
 | point l g ih => exact fun k hs h => ih () k hs h
 | fresh g ih => exact fun k hs h => ih _ (k _) hs h
 | ask g ih => exact fun k hs h => ih _ (k _) hs h
 | handled o g ih => exact fun k hs h => ih _ (k _) hs h
 | stack g ih => exact fun k hs h => ih _ (k _) hs h
 | thread g ih => exact fun k hs h => ih _ (k _) hs h
 | unsupported e => exact fun _ _ h => h.elim
 | finish e => exact fun _ _ h => h.elim
 | _ => exact fun k => k.elim
theorem safe_any {φ : Heap → Prop} {α : Type} {M : Model} {A : Around} {Q : α → Shared → Prop} {E : Value → Shared → Prop} {m : Sem α} {s : Shared} (k : Safe φ m) (hs : φ s.heap) (h : wpAny M A m Q E s) :
 wpAny M A m (fun a s' => Q a s' ∧ φ s'.heap) (fun e s' => E e s' ∧ φ s'.heap) s := fun Γ p i => safe_wp m k hs (h Γ p i)
theorem safe_anyC {φ : Heap → Prop} {c : Prop} {α : Type} {M : Model} {A : Around} {Q : α → Shared → Prop} {E : Value → Shared → Prop} {m : Sem α} {s : Shared} (k : Safe φ m) (hs : c → φ s.heap) (h : wpAny M A m Q E s) :
 wpAny M A m (fun a s' => Q a s' ∧ (c → φ s'.heap)) (fun e s' => E e s' ∧ (c → φ s'.heap)) s := by
 by_cases hc : c
 · exact wpAny_mono (safe_any k (hs hc) h) (fun _ _ z => ⟨z.1, fun _ => z.2⟩) fun _ _ z => ⟨z.1, fun _ => z.2⟩
 · exact wpAny_mono h (fun _ _ z => ⟨z, fun y => absurd y hc⟩) fun _ _ z => ⟨z, fun y => absurd y hc⟩
section
variable {a : Addr}
theorem f2_upd {b : Addr} {f : Obj → Obj} (hf : ∀ o vs, o.data = .fields vs → vs[2]? = some .none → ∃ ws, (f o).data = .fields ws ∧ ws[2]? = some .none) {h : Heap} (k : F2 a h) : F2 a (h.update b f) := by
 obtain ⟨o, vs, e, d, z⟩ := k
 by_cases hb : b = a
 · subst hb
   obtain ⟨ws, d2, z2⟩ := hf o vs d z
   exact ⟨_, ws, Heap.get?_update_self f e (Obj.isFreed_of_fields d2), d2, z2⟩
 · exact ⟨o, vs, (Heap.get?_update_other h f hb).trans e, d, z⟩
theorem f2_push {o : Obj} {h : Heap} (k : F2 a h) : F2 a (h.push o) := by
 obtain ⟨ob, vs, e, d, z⟩ := k
 exact ⟨ob, vs, Heap.get?_push_of_some o e, d, z⟩
theorem f2_field {b : Addr} {i : Nat} {x : Value} (hi : i ≠ 2) {h : Heap} (k : F2 a h) : F2 a (h.update b (Obj.mapFields (·.setIfInBounds i x))) :=
 f2_upd (fun o vs d z => ⟨_, Obj.data_mapFields d _, by rw [Array.getElem?_setIfInBounds_ne hi]; exact z⟩) k
variable {φ : Heap → Prop}
theorem safe_field {v : Value} {i : Nat} : Safe φ (field v i) := by
 unfold field fieldsOf
 refine safe_bind ?_ fun vs => ?_
 · cases v with
   | ref b => exact safe_bind (m := load b) (fun o => trivial) fun o => by split <;> trivial
   | _ => trivial
 · cases vs[i]? <;> trivial
theorem safe_set {v : Value} {i : Nat} {x : Value} (hi : i ≠ 2) : Safe (F2 a) (setField v i x) := by
 cases v with
 | ref b =>
  show Safe (F2 a) (updateField b i x)
  unfold updateField
  refine safe_bind (m := load b) (fun o => trivial) fun o => ?_
  cases o.data with
  | fields vs =>
   show Safe (F2 a) (if i < vs.size then _ else _)
   split
   · exact ⟨fun h k => f2_field hi k, trivial⟩
   · trivial
  | _ => trivial
 | _ => trivial
theorem safe_flight {e : Value} {f : Option Addr} : Safe (F2 a) (setFlight e f) := by
 unfold setFlight
 refine safe_bind safe_field fun tb => ?_
 split
 · exact safe_set (by decide)
 · trivial
theorem safe_ready : ∀ (l : List Env), Safe (F2 a) (readyFrames l)
 | [] => trivial
 | env :: outer => by
  unfold readyFrames
  cases env.frame with
  | none => trivial
  | some f =>
   refine safe_bind (m := load f) (fun o => trivial) fun o => ?_
   split
   · trivial
   · refine safe_bind ?_ fun b => safe_bind ?_ fun v => safe_bind (m := update f _) ⟨fun h k => by refine f2_upd ?_ k; exact fun o vs d z => ⟨vs, d, z⟩, trivial⟩ fun _ => safe_ready outer
     · unfold behindIsImport
       split
       · trivial
       · split
         · trivial
         · exact safe_bind safe_field fun _ => trivial
     · unfold keptBack
       cases outer with
       | nil =>
        dsimp only
        split
        · trivial
        · exact safe_bind (m := underTheClaimsCaller) (fun x => trivial) fun _ => trivial
       | cons c r => trivial
theorem safe_note {e : Value} {env : Env} : Safe (F2 a) (noteFrame e env) := by
 unfold noteFrame
 cases env.frame with
 | none => trivial
 | some f =>
  refine safe_bind safe_field fun hd => ?_
  have last : Safe (F2 a) (do setField e 1 (← EntryCells.newEntry hd (← PySem.frameOf env) .none (rawInt f) .none (← entryPlaceOf f (hd != .none)))) := by
   refine safe_bind ?_ fun fo => safe_bind ?_ fun pl => safe_bind ?_ fun b => safe_set (by decide)
   · unfold PySem.frameOf
     refine safe_bind (m := frameEnvs) (fun x => trivial) fun l => safe_bind ?_ fun r => by cases r <;> trivial
     cases List.dropWhile (fun x => x.frame != env.frame) l with
     | nil => trivial
     | cons en ou => exact safe_bind (safe_ready (en :: ou)) fun _ => trivial
   · unfold entryPlaceOf
     exact safe_bind (m := stack) (fun x => trivial) fun l => by split <;> trivial
   · show Safe (F2 a) (newObj (.type "traceback") (.fields _))
     generalize List.toArray _ = arr
     unfold newObj
     dsimp only
     split
     · trivial
     · exact ⟨fun h k => f2_push k, fun b => trivial⟩
  split
  · refine safe_bind safe_field fun x => ?_
    split
    · trivial
    · exact safe_bind (safe_set (by decide)) fun _ => last
  · exact last
theorem safe_leaving {e : Value} {env : Env} : Safe (F2 a) (leaving env e) := by
 unfold leaving
 exact safe_bind safe_note fun _ => safe_flight
end
theorem HandAt.keep {A : Around} {h h' : Heap} (d : HandAt A h) (k : ∀ e o, A.handled = some (.ref e) → h.get? e = some o → h'.get? e = some o) : HandAt A h' := by
 rcases d with d | ⟨e, o, vs, d1, d2, d3, d4⟩
 · exact .inl d
 · exact .inr ⟨e, o, vs, d1, k e o d1 d2, d3, d4⟩
theorem HandAt.new {A : Around} {h : Heap} {a : Addr} (d : HandAt A h) (n : h.get? a = none) : A.handled ≠ some (.ref a) := fun z => by
 rcases d with d | ⟨e, o, vs, d1, d2, _⟩
 · rw [d] at z; cases z
 · rw [d1] at z; injection z with z; injection z with z
   rw [z, n] at d2; cases d2
theorem HandAt.in1 {A : Around} {h : Heap} (d : HandAt A h) : HandAt A.in1 h := d
section
variable {prog : Program} {w : World} {A : Around} {E : Value → Shared → Prop} {s : Shared}
theorem entry_unchain : entryFor table "proto.unchain" = some Builtin.«proto.unchain» := entryFor_of_tree (by kernel_rfl)
theorem raise_new {α : Type} {a : Addr} {o : Obj} {vs : Array Value} {Q : α → Shared → Prop} (d : HandAt A s.heap) (ho : s.heap.get? a = some o) (hd : o.data = .fields vs) (hz : 2 < vs.size) (hn : A.handled ≠ some (.ref a))
 (h : ∀ h' o', Heap.SameBut a s.heap h' → h'.get? a = some o' → o'.cls = o.cls → (∃ ws, o'.data = .fields ws ∧ ∀ i, i ≠ 2 → ws[i]? = vs[i]?) → (A.handled = none → h' = s.heap) → E (.ref a) { s with heap := h' }) : wpAny (model prog w) A (raiseNew (.ref a) : Sem α) Q E s := by
 rcases d with d | ⟨e, oe, ws, d1, d2, d3, d4⟩
 · exact wpAny_raiseNew_none d (h s.heap o (Heap.SameBut.refl _ _) ho rfl ⟨vs, hd, fun _ _ => rfl⟩ fun _ => rfl)
 · unfold raiseNew
   refine wpAny_bind (wpAny_handled ?_); rw [d1]
   have ne : (Value.ref e != Value.ref a) = true := by
    rw [bne_iff_ne]; intro z; exact hn (d1.trans (congrArg some z))
   dsimp only
   rw [if_pos ne]
   refine wpAny_bind (wpAny_holding (wpAny_runValue (codeAny_builtin entry_unchain ?_)))
   unfold Builtin.«proto.unchain»
   refine wpAny_bind (wpAny_field d2 d3 d4 ?_)
   rw [if_pos (show (Value.none == Value.none) = true from rfl)]
   refine wpAny_bind (wpAny_pure ?_)
   refine wpAny_pure ?_
   refine wpAny_bind (show wpAny _ _ (setField (.ref a) 2 (.ref e)) _ _ _ from wpAny_setField ho hd hz ?_)
   refine wpAny_throw ?_
   have dd := Obj.data_mapFields hd (·.setIfInBounds 2 (Value.ref e))
   exact h _ _ (Heap.SameBut.update ..) (Heap.get?_update_self _ ho (Obj.isFreed_of_fields dd)) (Obj.cls_mapFields _ _) ⟨_, dd, fun i hi => Array.getElem?_setIfInBounds_ne (Ne.symm hi)⟩ fun z => by rw [d1] at z; cases z
theorem stop_new {α : Type} {Q : α → Shared → Prop} (d : HandAt A s.heap) (h : ∀ h' e, (∀ b o, s.heap.get? b = some o → h'.get? b = some o) → (∃ o, h'.get? e = some o ∧ o.cls = .type "StopIteration") → E (.ref e) { s with heap := h' }) :
 wpAny (model prog w) A (newExc (.type "StopIteration") [] >>= fun e => (raiseNew e : Sem α)) Q E s := by
 refine wpAny_bind ?_
 unfold newExc newTuple
 refine wpAny_bind (wpAny_newObj_type ?_ (by size_fits)); refine wpAny_bind (m := firstArgMember _ _) (wpAny_of_eq (a := Value.none) rfl ?_)
 refine wpAny_newObj_type ?_ (by size_fits); dsimp only
 have ext : ∀ {b : Addr} {o : Obj} {o1 o2 : Obj}, s.heap.get? b = some o → ((s.heap.push o1).push o2).get? b = some o := fun e => Heap.get?_push_of_some _ (Heap.get?_push_of_some _ e)
 refine raise_new (d.keep fun e o _ k => ext k) (Heap.get?_push_size _ rfl) rfl (Nat.lt_of_lt_of_le (by decide : 2 < 6) (by rw [Array.size_append]; exact Nat.le_add_right _ _)) (fun z => ?_) fun h' o' sb e c _ _ => h _ _ (fun b o k => (sb.2 b fun z => ?_).trans (ext k)) ⟨o', e, c⟩
 · rcases d with d | ⟨x, o, vs, d1, d2, d3, d4⟩
   · rw [d] at z; cases z
   · rw [d1] at z; injection z with z; injection z with z
     have l := Heap.lt_size d2
     rw [z, Heap.size_push] at l; exact absurd l (Nat.not_lt.mpr (Nat.le_succ _))
 · have l := Heap.lt_size k
   rw [z, Heap.size_push] at l; exact absurd l (Nat.not_lt.mpr (Nat.le_succ _))
variable {it : Addr}
theorem list_done {l : Addr} {i : Nat} {items : Array Value} {Q : Option Value → Shared → Prop} (d : HandAt A s.heap) (hit : s.heap.IsListIter it l i) (hl : s.heap.IsList l items) (hx : items[i]? = none) (nh : A.handled ≠ some (.ref it)) (hQ : ∀ h', Heap.ExtBut it s.heap h' → Q none { s with heap := h' }) : wpAny (model prog w) A (pyNext (.ref it)) Q E s := by
 have ty := hit.typeIs
 obtain ⟨o, ho, _, hd⟩ := hit; obtain ⟨ol, hol, _, nl, hdl⟩ := hl
 unfold pyNext; refine wpAny_bind (wpAny_attempt (wpAny_callSpecial?_slot (name := Str.ofString "__next__") ty slot_listiter_next (wpAny_call_entry slot_listiter_next ty entry_listiter_next ?_ (args_listiter_next _))))
 refine (show wpAny _ _ (field (.ref it) 0 >>= _) _ _ s from wpAny_bind (wpAny_field ho hd (x := .ref l) rfl ?_)); show wpAny _ _ (if (Value.ref l == Value.none) = true then _ else _) _ _ s; rw [if_neg (show ¬ ((Value.ref l == Value.none) = true) from Bool.false_ne_true)]
 refine (show wpAny _ _ (field (.ref it) 1 >>= _) _ _ s from wpAny_bind (wpAny_field ho hd (x := .int i 0) rfl ?_)); refine (show wpAny _ _ (seqItems? (.ref l) >>= _) _ _ s from wpAny_bind (wpAny_seqItems hol hdl ?_))
 simp only [Int.toNat_natCast, hx]; refine wpAny_bind (wpAny_rule (wpAny_bind (wpAny_setField ho hd (by simp) ?_)))
 have sb := Heap.SameBut.update s.heap it (Obj.mapFields (·.setIfInBounds 0 Value.none))
 refine stop_new (d.in1.keep fun e ob he k => (sb.2 e fun z => nh (by rw [← z]; exact he)).trans k) fun h' e ext te => ?_
 obtain ⟨oe, h1, h2⟩ := te
 refine wpAny_bind (wpAny_isInstance (T := "StopIteration") (b := true) ⟨_, h1, h2⟩ isSubtype_stop (wpAny_pure (hQ _ fun b ob hb k => ext b ob ((sb.2 b hb).trans k))))
theorem tuple_done {l : Addr} {i : Nat} {items : Array Value} {Q : Option Value → Shared → Prop} (d : HandAt A s.heap) (hit : s.heap.IsTupleIter it l i) (hl : s.heap.IsTuple l items) (hx : items[i]? = none) (nh : A.handled ≠ some (.ref it)) (hQ : ∀ h', Heap.ExtBut it s.heap h' → Q none { s with heap := h' }) : wpAny (model prog w) A (pyNext (.ref it)) Q E s := by
 have ty := hit.typeIs
 obtain ⟨o, ho, _, hd⟩ := hit; obtain ⟨ol, hol, _, nl, hdl⟩ := hl
 unfold pyNext; refine wpAny_bind (wpAny_attempt (wpAny_callSpecial?_slot (name := Str.ofString "__next__") ty F.slot_tuple_iterator_next (wpAny_call_entry F.slot_tuple_iterator_next ty F.entry_tuple_iterator_next ?_ (F.args_tuple_iterator_next_1 _))))
 refine (show wpAny _ _ (field (.ref it) 0 >>= _) _ _ s from wpAny_bind (wpAny_field ho hd (x := .ref l) rfl ?_)); show wpAny _ _ (if (Value.ref l == Value.none) = true then _ else _) _ _ s; rw [if_neg (show ¬ ((Value.ref l == Value.none) = true) from Bool.false_ne_true)]
 refine (show wpAny _ _ (field (.ref it) 1 >>= _) _ _ s from wpAny_bind (wpAny_field ho hd (x := .int i 0) rfl ?_)); refine (show wpAny _ _ (seqItems? (.ref l) >>= _) _ _ s from wpAny_bind (wpAny_seqItems hol hdl ?_))
 simp only [Int.toNat_natCast, hx]; refine wpAny_bind (wpAny_rule (wpAny_bind (wpAny_setField ho hd (by simp) ?_)))
 have sb := Heap.SameBut.update s.heap it (Obj.mapFields (·.setIfInBounds 0 Value.none))
 refine stop_new (d.in1.keep fun e ob he k => (sb.2 e fun z => nh (by rw [← z]; exact he)).trans k) fun h' e ext te => ?_
 obtain ⟨oe, h1, h2⟩ := te
 refine wpAny_bind (wpAny_isInstance (T := "StopIteration") (b := true) ⟨_, h1, h2⟩ isSubtype_stop (wpAny_pure (hQ _ fun b ob hb k => ext b ob ((sb.2 b hb).trans k))))
theorem range_done {x left step : Int} {Q : Option Value → Shared → Prop} (d : HandAt A s.heap) (hit : IsRangeIter s.heap it x left step) (hl : left ≤ 0) (hQ : ∀ h', Heap.ExtBut it s.heap h' → Q none { s with heap := h' }) : wpAny (model prog w) A (pyNext (.ref it)) Q E s := by
 have ty : s.TypeIs (.ref it) "range_iterator" := ⟨_, hit, rfl⟩
 unfold pyNext; refine wpAny_bind (wpAny_attempt (wpAny_callSpecial?_slot (name := Str.ofString "__next__") ty F.slot_range_iterator_next (wpAny_call_entry F.slot_range_iterator_next ty F.entry_range_iterator_next ?_ (F.args_range_iterator_next_1 _))))
 refine (show wpAny _ _ (field (.ref it) 0 >>= _) _ _ s from wpAny_bind (wpAny_field hit rfl (x := rawInt x) rfl ?_)); refine (show wpAny _ _ (field (.ref it) 1 >>= _) _ _ s from wpAny_bind (wpAny_field hit rfl (x := rawInt left) rfl ?_))
 refine (show wpAny _ _ (field (.ref it) 2 >>= _) _ _ s from wpAny_bind (wpAny_field hit rfl (x := rawInt step) rfl ?_))
 show wpAny _ _ (if left ≤ 0 then _ else _) _ _ s; rw [if_pos hl]
 refine wpAny_bind (wpAny_rule (wpAny_bind (stop_new d.in1 fun h' e ext te => ?_)))
 obtain ⟨oe, h1, h2⟩ := te
 refine wpAny_bind (wpAny_isInstance (T := "StopIteration") (b := true) ⟨_, h1, h2⟩ isSubtype_stop (wpAny_pure (hQ _ fun b ob hb k => ext b ob k)))
theorem text_done {x : Str} {t : Tok} {i : Nat} {Q : Option Value → Shared → Prop} (d : HandAt A s.heap) (hit : s.heap.IsStrIter it "str_ascii_iterator" x t i) (hx : x.cps[i]? = none) (nh : A.handled ≠ some (.ref it)) (hQ : ∀ h', Heap.ExtBut it s.heap h' → Q none { s with heap := h' }) : wpAny (model prog w) A (pyNext (.ref it)) Q E s := by
 have ty := hit.typeIs
 obtain ⟨o, ho, _, hd⟩ := hit
 unfold pyNext; refine wpAny_bind (wpAny_attempt (wpAny_callSpecial?_slot (name := Str.ofString "__next__") ty F.slot_str_ascii_iterator_next (wpAny_call_entry F.slot_str_ascii_iterator_next ty F.entry_str_ascii_iterator_next ?_ (F.args_str_ascii_iterator_next_1 _))))
 refine (show wpAny _ _ (field (.ref it) 0 >>= _) _ _ s from wpAny_bind (wpAny_field ho hd (x := .str x t) rfl ?_)); refine (show wpAny _ _ (field (.ref it) 1 >>= _) _ _ s from wpAny_bind (wpAny_field ho hd (x := .int i 0) rfl ?_))
 simp only [Int.toNat_natCast, hx]; refine wpAny_bind (wpAny_rule (wpAny_bind (wpAny_setField ho hd (by simp) (wpAny_bind (wpAny_letGo ?_)))))
 have sb := Heap.SameBut.update s.heap it (Obj.mapFields (·.setIfInBounds 0 Value.none))
 refine stop_new (d.in1.keep fun e ob he k => (sb.2 e fun z => nh (by rw [← z]; exact he)).trans k) fun h' e ext te => ?_
 obtain ⟨oe, h1, h2⟩ := te
 refine wpAny_bind (wpAny_isInstance (T := "StopIteration") (b := true) ⟨_, h1, h2⟩ isSubtype_stop (wpAny_pure (hQ _ fun b ob hb k => ext b ob ((sb.2 b hb).trans k))))
end
end L2
namespace L2
open PySem PySem.Spec PyProof.Rows
def hAddr (A : Around) : List Addr := match A.handled with | some (.ref e) => [e] | _ => []
theorem hAddr_mem {A : Around} {e : Addr} (h : A.handled = some (.ref e)) : e ∈ hAddr A := by unfold hAddr; rw [h]; exact List.mem_singleton.mpr rfl
theorem walks_list {prog : Program} {w : World} {A : Around} (I ax : Addr) (hne : ax ≠ I) (nh : A.handled ≠ some (.ref I)) (items : Array Value) :
 Walks prog w A I (I :: ax :: hAddr A) [I] items.size (fun i v => items[i]? = some v) (fun i h => (h.IsListIter I ax i ∧ h.IsList ax items) ∧ HandAt A h) where
 sub := fun b hb => List.mem_cons.mpr (.inl (List.mem_singleton.mp hb))
 frame := fun _ _ _ st k => ⟨⟨st.1.1.at fun o e => k I (by simp) o e, st.1.2.at fun o e => k ax (by simp) o e⟩, st.2.keep fun e o he q => k e (List.mem_cons_of_mem _ (List.mem_cons_of_mem _ (hAddr_mem he))) o q⟩
 item := fun j s Q E hj st hQ => by
  refine wpAny_pyNext_list_item st.1.1 st.1.2 (x := items[j]) (by simp [hj]) fun h' hit' sb => ?_
  exact hQ _ h' s.toks (by simp [hj]) ⟨⟨hit', st.1.2.extBut sb.extBut hne⟩, st.2.keep fun e o he q => (sb.2 e fun z => nh (by rw [← z]; exact he)).trans q⟩ fun b o hb e => sb.extBut b o (fun z => hb (by simp [z])) e
 done := fun s Q E st hQ => list_done st.2 st.1.1 st.1.2 (by simp) nh fun h' x => hQ h' s.toks fun b o hb e => x b o (fun z => hb (by simp [z])) e
 self := fun _ _ _ _ st hQ => wpAny_pyIter_listiter st.1.1 hQ
structure MadeX (A : Around) (h h' : Heap) (e : Addr) (cls : Value) : Prop where
 keeps : ∀ (b : Addr) (o : Obj), h.get? b = some o → h'.get? b = some o
 new : h.get? e = none
 there : ∃ o ws a0, h'.get? e = some o ∧ o.cls = cls ∧ o.data = .fields ws ∧ ws[0]? = some a0 ∧ ws[1]? = some .none
 f2 : A.handled = none → F2 e h'
section
variable {prog : Program} {w : World} {A : Around} {E : Value → Shared → Prop} {s : Shared} {env : Env} {nm q : Str} {C N : Addr} {bs bm bmB : List Value} {hdct : Bool} {sn : List Str} {sub : List Value} {ab : Bool} {col : Option Bool} {dd : Option Addr} {k0 k1 k2 k3 k5 : Option Value} {B newId initId : String}
theorem stmt_raise {x : Sem Value} {Q : Flow → Shared → Prop} (hbase : bm.contains (.type "BaseException") = true)
 (h : wpAny (model prog w) A x (fun v s₁ => ∃ e t, v = .ref e ∧ s₁.heap.get? C = some (excClassObj nm q C N bs bm hdct sn sub ab col dd k0 k1 k2 k3 k5 newId) ∧ s₁.heap.get? e = some { cls := .ref C, data := .fields #[.ref t, .none, .none, .none, .bool false, .none] } ∧ HandAt A s₁.heap ∧ A.handled ≠ some (.ref e) ∧
   ∀ h' o', Heap.SameBut e s₁.heap h' → h'.get? e = some o' → o'.cls = .ref C → (∃ ws, o'.data = .fields ws ∧ ∀ i, i ≠ 2 → ws[i]? = (#[.ref t, .none, .none, .none, .bool false, .none] : Array Value)[i]?) → (A.handled = none → h' = s₁.heap) → E (.ref e) { s₁ with heap := h' }) E s) :
 wpAny (model prog w) A (raiseStmt env (some x) none) Q E s := by
 have hB : (Value.ref C :: bm).contains (.type "BaseException") = true := by rw [List.contains_cons, hbase, Bool.or_true]
 unfold raiseStmt; refine wpAny_bind (wpAny_mono h (fun v s₁ z => ?_) fun _ _ z => z)
 obtain ⟨e, t, rfl, hC, he, hh, hn, hE⟩ := z; obtain ⟨hp, g, d, tk, os⟩ := s₁
 repeat (first | with_reducible refine wpAny_loadPart_at hC ?_ | with_reducible refine wpAny_loadPart_at he ?_ | (with_reducible refine wpAny_isSubtype_exc hC ?_; rw [hB]) | wp_step)
 exact raise_new hh he rfl (show 2 < 6 by decide) hn hE
theorem raise_sub (F : ExcBaseFacts B newId initId bmB) {mN : Str → Option Value} {x : Str} {np cpos pos : Pos} {args : List Expr} {Q : Flow → Shared → Prop} (hbase : bm.contains (.type "BaseException") = true) (hplain : (backTo cpos (starEach args env)).any (·.1) = false) (hni : mN "__init__" = none)
 (h : wpAny (model prog w) A (eval (.Name x np) env) (fun f s₁ => f = .ref C ∧ wpAny (model prog w) A (evalArgs (.ref C) true (backTo cpos (starEach args env)) []) (fun a s₂ => a.kw = [] ∧ a.pos.length ≤ sizeLine ∧ HandAt A s₂.heap ∧
   s₂.heap.get? C = some (excClassObj nm q C N bs bm hdct sn sub ab col dd k0 k1 k2 k3 k5 newId) ∧ s₂.heap.Ns N mN ∧ OwnTail s₂.heap bmB bm ∧ ∀ h' e, MadeX A s₂.heap h' e (.ref C) → E (.ref e) { s₂ with heap := h' }) E s₁) E s) : wpAny (model prog w) A (exec (.Raise (some (.Call (.Name x np) args [] cpos)) none pos) env) Q E s := by
 rw [arm_exec_Raise]
 refine wpAny_bind (wpAny_standAt (stmt_raise (C := C) (nm := nm) (q := q) (N := N) (bs := bs) (bm := bm) (hdct := hdct) (sn := sn) (sub := sub) (ab := ab) (col := col) (dd := dd) (k0 := k0) (k1 := k1) (k2 := k2) (k3 := k3) (k5 := k5) (newId := newId) hbase ?_))
 refine wpAny_bind (wpAny_mono (wpAny_Call_ofName (wpAny_mono h (fun f s₁ z => ?_) fun _ _ z => z)) (fun v s₃ h₃ => wpAny_bind (wpAny_standAt (wpAny_pure h₃))) fun _ _ z => z)
 obtain ⟨rfl, h₁⟩ := z; unfold callWith
 refine wpAny_bind (wpAny_holding (wpAny_mono h₁ (fun a s₂ h₂ => wpAny_bind (wpAny_standAt ?_)) fun _ _ z => z))
 obtain ⟨apos, akw⟩ := a; obtain ⟨hkw, hlen, hd, hC, hn, T, h₂⟩ := h₂; obtain rfl : akw = [] := hkw; obtain ⟨hp, g, d, tk, os⟩ := s₂
 simp only [hplain]; refine wpAny_bind (wpAny_keeperOf_exc hC (wpAny_bind (wpAny_call_exc_subT (hrest := hlen) F T hC hn hni fun h' e hm => wpAny_bind (wpAny_holding (wpAny_point (wpAny_pure ?_))))))
 have hd : HandAt A hp := hd; obtain ⟨t, ht, _⟩ := hm.there
 refine ⟨e, t, rfl, hm.keeps _ _ hC, ht, hd.keep fun e o _ k => hm.keeps e o k, fun z => ?_, fun h'' o' sb e1 e2 e3 e4 => h₂ h'' e ⟨fun b o k => (sb.2 b fun z => ?_).trans (hm.keeps b o k), hm.new, ?_, fun z => ?_⟩⟩
 · rcases hd with y | ⟨e', o, vs, y1, y2, _⟩
   · rw [y] at z; cases z
   · rw [y1] at z; injection z with z; injection z with z
     rw [z, show hp.get? e = none from hm.new] at y2; cases y2
 · rw [z, show hp.get? e = none from hm.new] at k; cases k
 · obtain ⟨ws, w1, w2⟩ := e3
   exact ⟨o', ws, .ref t, e1, e2, w1, w2 0 (by decide), w2 1 (by decide)⟩
 · rw [e4 z]; exact ⟨_, _, ht, rfl, rfl⟩
end
end L2
namespace L2
open PySem PySem.Spec PyProof.Rows
abbrev Key := Sum Int Str
def keyIs : Key → Value → Bool
 | .inl k, v => Value.isInt k v
 | .inr x, v => Value.isStrOf x v
def keyH (w : World) : Key → Int
 | .inl k => hashInt k
 | .inr x => hashStr w x
theorem keyIs_shape : ∀ {k : Key} {v : Value}, keyIs k v = true → (∃ i t, k = Sum.inl i ∧ v = Value.int i t) ∨ (∃ x t, k = Sum.inr x ∧ v = Value.str x t)
 | .inl i, v, h => by
  obtain ⟨t, e⟩ := Value.isInt_shape (k := i) (v := v) h
  exact .inl ⟨i, t, rfl, e⟩
 | .inr x, v, h => by
  obtain ⟨t, e⟩ := Value.isStrOf_shape (x := x) (v := v) h
  exact .inr ⟨x, t, rfl, e⟩
theorem keyIs_int (i : Int) (t : Tok) : keyIs (.inl i) (.int i t) = true := by simp [keyIs, Value.isInt]
theorem keyIs_str (x : Str) (t : Tok) : keyIs (.inr x) (.str x t) = true := by simp [keyIs, Value.isStrOf]
theorem key_ll (a b : Int) : decide ((Sum.inl a : Key) = Sum.inl b) = (a == b) := by
 by_cases e : a = b
 · subst e; simp
 · have h : ¬ (Sum.inl a : Key) = Sum.inl b := fun q => e (Sum.inl.inj q)
   rw [decide_eq_false h]
   exact (beq_eq_false_iff_ne.mpr e).symm
theorem key_rr (a b : Str) : decide ((Sum.inr a : Key) = Sum.inr b) = decide (a = b) := by
 by_cases e : a = b
 · subst e; simp
 · have h : ¬ (Sum.inr a : Key) = Sum.inr b := fun q => e (Sum.inr.inj q)
   rw [decide_eq_false h, decide_eq_false e]
theorem key_lr (a : Int) (b : Str) : decide ((Sum.inl a : Key) = Sum.inr b) = false := decide_eq_false (fun q => nomatch q)
theorem key_rl (a : Str) (b : Int) : decide ((Sum.inr a : Key) = Sum.inl b) = false := decide_eq_false (fun q => nomatch q)
def mixKind (prog : Program) (w : World) : PySem.KeyKind prog w Key where
 is := keyIs
 hash := keyH w
 inj := fun v a b ha hb => by
  rcases keyIs_shape ha with ⟨i, t, rfl, rfl⟩ | ⟨x, t, rfl, rfl⟩
  · rcases keyIs_shape hb with ⟨j, u, rfl, e⟩ | ⟨y, u, rfl, e⟩
    · injection e with e1 _; rw [e1]
    · exact nomatch e
  · rcases keyIs_shape hb with ⟨j, u, rfl, e⟩ | ⟨y, u, rfl, e⟩
    · exact nomatch e
    · injection e with e1 _; rw [e1]
 byValue := fun k v h => by
  rcases keyIs_shape h with ⟨i, t, rfl, rfl⟩ | ⟨x, t, rfl, rfl⟩ <;> rfl
 pyHash := fun hv h => by
  rcases keyIs_shape hv with ⟨i, t, rfl, rfl⟩ | ⟨x, t, rfl, rfl⟩
  · exact wpAny_pyHash_int h
  · exact wpAny_pyHash_str h
 eqBool := fun hu hv h => by
  rcases keyIs_shape hu with ⟨i, t, rfl, rfl⟩ | ⟨x, t, rfl, rfl⟩
  · rcases keyIs_shape hv with ⟨j, u, rfl, rfl⟩ | ⟨y, u, rfl, rfl⟩
    · rw [key_ll] at h; exact wpAny_eqBool_int h
    · rw [key_lr] at h; exact SeqAt.EqAt.int_str i t y u _ _ _ _ h
  · rcases keyIs_shape hv with ⟨j, u, rfl, rfl⟩ | ⟨y, u, rfl, rfl⟩
    · rw [key_rl] at h; exact SeqAt.EqAt.str_int x t j u _ _ _ _ h
    · rw [key_rr] at h; exact wpAny_eqBool_str h
 «strs» := fun k x t v h => by
  rcases keyIs_shape h with ⟨i, u, rfl, e⟩ | ⟨y, u, rfl, e⟩
  · exact nomatch e
  · injection e with e1 _
    subst e1
    cases v <;> rfl
theorem mixKind_int (prog : Program) (w : World) (i : Int) (t : Tok) : (mixKind prog w).is (.inl i) (.int i t) = true := keyIs_int i t
theorem mixKind_str (prog : Program) (w : World) (x : Str) (t : Tok) : (mixKind prog w).is (.inr x) (.str x t) = true := keyIs_str x t
end L2
namespace L2
open PySem PySem.Spec PyProof.Rows
inductive V where
 | non | bl (b : Bool) | int (i : Int) | str (x : Str) | byt (b : Array UInt8) | flt (b : UInt64) | ref (a : Addr) | ty (n : String)
 deriving DecidableEq
def RelV : V → Value → Prop
 | .non, u => u = Value.none
 | .bl b, u => u = Value.bool b
 | .int i, u => ∃ t, u = Value.int i t
 | .str x, u => ∃ t, u = Value.str x t
 | .byt b, u => ∃ t, u = Value.bytes b t
 | .flt b, u => ∃ t, u = Value.float b t
 | .ref a, u => u = Value.ref a
 | .ty n, u => u = Value.type n
abbrev Vals : List V → List Value → Prop := Paired RelV
theorem Vals.length {xs : List V} {us : List Value} (r : Vals xs us) : xs.length = us.length := Paired.length r
theorem Vals.get : ∀ {xs : List V} {us : List Value} {i : Nat} {x : V}, Vals xs us → xs[i]? = some x → ∃ u, us[i]? = some u ∧ RelV x u
 | _, _, _, _, .nil, e => by simp at e
 | _, _, 0, _, .cons r _, e => by simp at e; subst e; exact ⟨_, rfl, r⟩
 | _, _, i + 1, x, .cons _ t, e => by
  obtain ⟨u, h1, h2⟩ := Vals.get (i := i) (x := x) t (by simpa using e)
  exact ⟨u, by simpa using h1, h2⟩
theorem Vals.set {x : V} {u : Value} (r : RelV x u) : ∀ {xs : List V} {us : List Value} (i : Nat), Vals xs us → Vals (xs.set i x) (us.set i u)
 | _, _, _, .nil => .nil
 | _, _, 0, .cons _ t => .cons r t
 | _, _, i + 1, .cons q t => .cons q (Vals.set r i t)
theorem Vals.append : ∀ {xs ys : List V} {us ws : List Value}, Vals xs us → Vals ys ws → Vals (xs ++ ys) (us ++ ws)
 | _, _, _, _, .nil, s => s
 | _, _, _, _, .cons r t, s => .cons r (Vals.append t s)
theorem Vals.take : ∀ {xs : List V} {us : List Value} (n : Nat), Vals xs us → Vals (xs.take n) (us.take n)
 | _, _, 0, _ => .nil
 | _, _, _ + 1, .nil => .nil
 | _, _, n + 1, .cons r t => .cons r (Vals.take n t)
theorem Vals.drop : ∀ {xs : List V} {us : List Value} (n : Nat), Vals xs us → Vals (xs.drop n) (us.drop n)
 | _, _, 0, r => r
 | _, _, _ + 1, .nil => .nil
 | _, _, n + 1, .cons _ t => Vals.drop n t
def RelO : Option V → Option Value → Prop
 | some v, some u => RelV v u
 | none, none => True
 | _, _ => False
def KV {κ : Type} : List (κ × V) → List (κ × Value) → Prop := Paired fun (p : κ × V) (q : κ × Value) => p.1 = q.1 ∧ RelV p.2 q.2
def kV : Key → V
 | .inl i => .int i
 | .inr x => .str x
inductive HO where
 /-- a list -/
 | lst (xs : List V)
 /-- a tuple (never changes) -/
 | tup (xs : List V)
 /-- a dict whose keys are ints and texts; one whose keys are tuples of ints and texts (the empty one is both) -/
 | dK (kvs : List (Key × V)) | dT (kvs : List (List Key × V))
 /-- a set of ints: its members, its size -/
 | set (S : Int → Bool) (n : Nat)
 /-- an instance of the class at C, its dict at dx, its attributes -/
 | ins (C dx : Addr) (fs : List (Str × V))
 /-- the dict of the instance at x -/
 | own (x : Addr)
 /-- the dict of an exception -/
 | xd (fs : List (Str × V))
 /-- a bound method, f of x -/
 | met (f x : Addr)
 /-- a range object lo, lo + 1, .. below hi -/
 | rng (lo hi : Int)
 /-- a thing that is known to the object (the script; a dict while a loop walks it): read, never written while it is so -/
 | frz (o : Obj) (u : HO)
 /-- a code object's table -/
 | tbl (ps : Array Value)
 /-- any other thing, by what is true of its one object (a def of one's own: SetO a S n := HO.ext fun h => ..) -/
 | ext (φ : Heap → Prop)
abbrev Hp := Addr → Option HO
def upd (H : Hp) (a : Addr) (o : HO) : Hp := fun b => if b = a then some o else H b
theorem upd_same {H : Hp} {a : Addr} {o : HO} : upd H a o a = some o := by unfold upd; rw [if_pos rfl]
theorem upd_ne {H : Hp} {a b : Addr} {o : HO} (h : b ≠ a) : upd H a o b = H b := by unfold upd; rw [if_neg h]
theorem ne_of {H : Hp} {a b : Addr} {o u : HO} (h : H a = some o) (h' : H b = some u) (d : o ≠ u) : a ≠ b := by
 intro e; subst e; rw [h] at h'; exact d (Option.some.inj h')
theorem ne_of_none {H : Hp} {a b : Addr} {o : HO} (h : H a = some o) (h' : H b = none) : a ≠ b := by
 intro e; subst e; rw [h] at h'; cases h'
section
variable (P : Program) (w : World)
def ObjOk (H : Hp) (h : Heap) (a : Addr) : HO → Prop
 | .lst xs => xs.length ≤ sizeLine ∧ ∃ (its : List Value) (n : Nat), Vals xs its ∧ h.get? a = some { cls := .type "list", data := .seq its.toArray n }
 | .tup xs => xs.length ≤ sizeLine ∧ ∃ its : List Value, Vals xs its ∧ IsTup h a its.toArray
 | .dK kvs => kvs.length ≤ sizeLine ∧ (a == sysModules) = false ∧ ∃ vs, KV kvs vs ∧ h.DictOf (mixKind P w) a vs
 | .dT kvs => kvs.length ≤ sizeLine ∧ (a == sysModules) = false ∧ ∃ xs : List (List Key × Addr × Value),
  Paired (fun (p : List Key × V) (q : List Key × Addr × Value) => p.1 = q.1 ∧ H q.2.1 = some (.tup (p.1.map kV)) ∧ RelV p.2 q.2.2) kvs xs ∧
  ∃ o es ep, h.get? a = some o ∧ o.ExactDict ∧ o.data = .dict es ep ∧ es.toList = xs.map (entryOfKey (tupleKind (mixKind P w))) ∧ (xs.map (·.1)).Nodup
 | .set S n => h.SetOf (intKind P w) a S n
 | .ins C dx fs => H dx = some (.own a) ∧ fs.length ≤ 1000 ∧ dx ≠ a ∧ h.get? a = some (PySem.W.instObj C dx) ∧
  ∃ mA, h.Ns1 dx mA ∧ (∀ f, RelO (fs.lookup f) (mA f)) ∧ PySem.Within mA (fs.map (·.1))
 | .own _ => ∃ o, h.get? a = some o
 | .xd fs => ∃ mA, h.Ns1 a mA ∧ ∀ f, RelO (fs.lookup f) (mA f)
 | .rng lo hi => ∃ t u v, h.get? a = some { cls := .type "range", data := .fields #[.int lo t, .int hi u, .int 1 v] }
 | .frz o u => h.get? a = some o ∧ ObjOk H h a u
 | .tbl ps => h.get? a = some { cls := .none, data := .fields ps }
 | .met f x => h.get? a = some (PySem.W.methodObj (.ref f) (.ref x))
 | .ext φ => φ h ∧ (∃ o, h.get? a = some o) ∧ ∀ h1 h2 : Heap, φ h1 → (∀ o, h1.get? a = some o → h2.get? a = some o) → φ h2
def HOk (H : Hp) (h : Heap) : Prop := ∀ a o, H a = some o → ObjOk P w H h a o
end
section
variable {P : Program} {w : World} {H H' : Hp} {h h' : Heap} {a : Addr} {o : HO}
theorem ObjOk.lt (x : ObjOk P w H h a o) : a < h.objs.size := by
 cases o with
 | lst xs => obtain ⟨_, _, _, _, e⟩ := x; exact Heap.lt_size e
 | tup xs => obtain ⟨_, _, _, p⟩ := x; exact p.lt
 | dK kvs => obtain ⟨_, _, _, _, o, _, _, e, _⟩ := x; exact Heap.lt_size e
 | dT kvs => obtain ⟨_, _, _, _, o, _, _, e, _⟩ := x; exact Heap.lt_size e
 | set S n => obtain ⟨o, _, _, _, e, _⟩ := x; exact Heap.lt_size e
 | ins C dx fs => obtain ⟨_, _, _, e, _⟩ := x; exact Heap.lt_size e
 | own y => obtain ⟨_, e⟩ := x; exact Heap.lt_size e
 | xd fs => obtain ⟨_, ⟨_, _, _, e, _⟩, _⟩ := x; exact Heap.lt_size e
 | rng lo hi => obtain ⟨_, _, _, e⟩ := x; exact Heap.lt_size e
 | frz ob u => obtain ⟨e, _⟩ := x; exact Heap.lt_size e
 | tbl ps => exact Heap.lt_size (show h.get? a = some _ from x)
 | met f y => exact Heap.lt_size (show h.get? a = some _ from x)
 | ext φ => obtain ⟨_, ⟨_, e⟩, _⟩ := x; exact Heap.lt_size e
theorem Paired.mapP {α β : Type} {F G : α → β → Prop} : ∀ {l₁ : List α} {l₂ : List β}, Paired F l₁ l₂ → (∀ a b, F a b → G a b) → Paired G l₁ l₂
 | _, _, .nil, _ => .nil
 | _, _, .cons r t, f => .cons (f _ _ r) (Paired.mapP t f)
theorem ObjOk.stay (x : ObjOk P w H h a o) (k : ∀ b u, (b = a ∨ H b = some (.own a)) → h.get? b = some u → h'.get? b = some u)
 (ho : ∀ b, H b = some (.own a) → H' b = some (.own a)) (ht : ∀ b xs, H b = some (.tup xs) → H' b = some (.tup xs)) : ObjOk P w H' h' a o := by
 induction o with
 | lst xs => obtain ⟨z, its, n, r, e⟩ := x; exact ⟨z, its, n, r, k _ _ (.inl rfl) e⟩
 | tup xs => obtain ⟨z, its, r, ob, e, c⟩ := x; exact ⟨z, its, r, ob, k _ _ (.inl rfl) e, c⟩
 | dK kvs => obtain ⟨z, y, vs, r, ob, es, ep, e, c⟩ := x; exact ⟨z, y, vs, r, ob, es, ep, k _ _ (.inl rfl) e, c⟩
 | dT kvs =>
  obtain ⟨z, y, xs, r, ob, es, ep, e, c⟩ := x
  exact ⟨z, y, xs, Paired.mapP r fun p q z => ⟨z.1, ht _ _ z.2.1, z.2.2⟩, ob, es, ep, k _ _ (.inl rfl) e, c⟩
 | set S n => obtain ⟨ob, es, ep, t, e, c⟩ := x; exact ⟨ob, es, ep, t, k _ _ (.inl rfl) e, c⟩
 | ins C dx fs =>
  obtain ⟨d, z, ne, e, mA, ⟨od, es, ep, e2, c⟩, r⟩ := x
  exact ⟨ho _ d, z, ne, k _ _ (.inl rfl) e, mA, ⟨od, es, ep, k _ _ (.inr d) e2, c⟩, r⟩
 | own y => obtain ⟨ob, e⟩ := x; exact ⟨ob, k _ _ (.inl rfl) e⟩
 | xd fs => obtain ⟨mA, ⟨od, es, ep, e, c⟩, r⟩ := x; exact ⟨mA, ⟨od, es, ep, k _ _ (.inl rfl) e, c⟩, r⟩
 | rng lo hi => obtain ⟨t, u, v, e⟩ := x; exact ⟨t, u, v, k _ _ (.inl rfl) e⟩
 | frz ob u ih => obtain ⟨e, q⟩ := x; exact ⟨k _ _ (.inl rfl) e, ih q⟩
 | tbl ps =>
  have e : h.get? a = some { cls := .none, data := .fields ps } := x
  show h'.get? a = some { cls := .none, data := .fields ps }
  exact k a _ (.inl rfl) e
 | met f y =>
  have e : h.get? a = some (PySem.W.methodObj (.ref f) (.ref y)) := x
  show h'.get? a = some (PySem.W.methodObj (.ref f) (.ref y))
  exact k a _ (.inl rfl) e
 | ext φ => obtain ⟨p, ⟨o, e⟩, st⟩ := x; exact ⟨st _ _ p fun o q => k _ _ (.inl rfl) q, ⟨o, k _ _ (.inl rfl) e⟩, st⟩
theorem HOk.lt (x : HOk P w H h) (e : H a = some o) : a < h.objs.size := (x a o e).lt
theorem HOk.fresh (x : HOk P w H h) (e : h.objs.size ≤ a) : H a = none := by
 cases q : H a with
 | none => rfl
 | some u => exact absurd (Nat.lt_of_lt_of_le (x.lt q) e) (Nat.lt_irrefl _)
theorem HOk.kept (x : HOk P w H h) (k : ∀ b u, h.get? b = some u → h'.get? b = some u) : HOk P w H h' := fun a o e =>
 (x a o e).stay (fun b u _ q => k b u q) (fun _ q => q) fun _ _ q => q
theorem HOk.laid (x : HOk P w H h) (k : ∀ b u, h.get? b = some u → h'.get? b = some u) (hp : h.objs.size ≤ a) (new : ObjOk P w (upd H a o) h' a o) : HOk P w (upd H a o) h' := fun b u e => by
 have hn := x.fresh hp
 by_cases hb : b = a
 · subst hb; rw [upd_same] at e; cases e; exact new
 · rw [upd_ne hb] at e
   exact (x b u e).stay (fun c v _ q => k c v q) (fun c q => by rw [upd_ne (ne_of_none q hn)]; exact q) fun c xs q => by rw [upd_ne (ne_of_none q hn)]; exact q
end
def Rd (H : Hp) (a : Addr) (u : HO) : Prop := H a = some u ∨ ∃ o, H a = some (.frz o u)
theorem Rd.of {H : Hp} {a : Addr} {u : HO} (h : H a = some u) : Rd H a u := .inl h
theorem Rd.ok {P : Program} {w : World} {H : Hp} {h : Heap} {a : Addr} {u : HO} (r : Rd H a u) (x : HOk P w H h) : ObjOk P w H h a u := by
 rcases r with r | ⟨o, r⟩
 · exact x a u r
 · obtain ⟨_, q⟩ := x a _ r
   exact q
def Mut : Option HO → Prop
 | some (.lst _) => True
 | some (.dK _) => True
 | some (.dT _) => True
 | some (.set _ _) => True
 | some (.ins _ _ _) => True
 | some (.ext _) => True
 | _ => False
section
variable {P : Program} {w : World} {H : Hp} {h h' : Heap} {x e : Addr} {o' : HO}
theorem HOk.write (ok : HOk P w H h) (mu : Mut (H x)) (he : e = x ∨ H e = some (.own x)) (k : ∀ b u, b ≠ e → h.get? b = some u → h'.get? b = some u) (heo : ∃ u, h'.get? e = some u)
 (new : ObjOk P w (upd H x o') h' x o') : HOk P w (upd H x o') h' := fun b u q => by
 have nown : ∀ c y, H c = some (.own y) → c ≠ x := fun c y r z => by subst z; rw [r] at mu; exact mu
 have ntup : ∀ c xs, H c = some (.tup xs) → c ≠ x := fun c xs r z => by subst z; rw [r] at mu; exact mu
 by_cases hb : b = x
 · subst hb; rw [upd_same] at q; cases q; exact new
 · rw [upd_ne hb] at q
   by_cases hbe : b = e
   · have q' : H b = some (.own x) := by
      rcases he with z | z
      · exact absurd (hbe.trans z) hb
      · rw [hbe]; exact z
     rw [q] at q'; cases q'
     obtain ⟨v, hv⟩ := heo
     exact ⟨v, by rw [hbe]; exact hv⟩
   · refine (ok b u q).stay (fun c v hc r => k c v ?_ r) (fun c r => by rw [upd_ne (nown c b r)]; exact r) fun c xs r => by rw [upd_ne (ntup c xs r)]; exact r
     rcases hc with rfl | hc
     · exact hbe
     · rintro rfl
       rcases he with z | z
       · exact nown c b hc z
       · rw [hc] at z; cases z; exact hb rfl
end
structure Un (fs ex : List Addr) (H H' : Hp) (h h' : Heap) : Prop where
 keep : ∀ b o, h.get? b = some o → H b = none → b ∉ fs → b ∉ ex → h'.get? b = some o
 slot : ∀ b o, h.get? b = some o → H b = none → b ∈ fs → b ∉ ex → ∃ sl, h'.get? b = some { o with slots := sl }
 free : ∀ b o, h.get? b = some o → H b = none → b ∉ ex → H' b = none
 there : ∀ b o, h.get? b = some o → b ∉ ex → ∃ o', h'.get? b = some o'
 tups : ∀ b xs, H b = some (.tup xs) → H' b = some (.tup xs)
 frzs : ∀ b o u, H b = some (.frz o u) → H' b = some (.frz o u)
 tbls : ∀ b ps, H b = some (.tbl ps) → ∃ more, H' b = some (.tbl (ps ++ more))
section
variable {fs fs' ex ex' : List Addr} {H H1 H2 : Hp} {h h1 h2 h' : Heap} {a x e : Addr} {o : HO}
theorem Un.any (u : Un fs ex H H1 h h1) {b : Addr} {ob : Obj} (q : h.get? b = some ob) (n : H b = none) (hx : b ∉ ex) : ∃ sl, h1.get? b = some { ob with slots := sl } := by
 by_cases hb : b ∈ fs
 · exact u.slot b ob q n hb hx
 · exact ⟨ob.slots, u.keep b ob q n hb hx⟩
theorem Un.trans (a : Un fs ex H H1 h h1) (b : Un fs ex H1 H2 h1 h2) : Un fs ex H H2 h h2 where
 keep := fun c ob q n hc hx => b.keep c ob (a.keep c ob q n hc hx) (a.free c ob q n hx) hc hx
 slot := fun c ob q n hc hx => by
  obtain ⟨sl, e1⟩ := a.slot c ob q n hc hx
  obtain ⟨sl', e2⟩ := b.slot c _ e1 (a.free c ob q n hx) hc hx
  exact ⟨sl', e2⟩
 free := fun c ob q n hx => by
  obtain ⟨o', e1⟩ := a.there c ob q hx
  exact b.free c o' e1 (a.free c ob q n hx) hx
 there := fun c ob q hx => by
  obtain ⟨o', e1⟩ := a.there c ob q hx
  exact b.there c o' e1 hx
 tups := fun c xs q => b.tups c xs (a.tups c xs q)
 frzs := fun c ob xs q => b.frzs c ob xs (a.frzs c ob xs q)
 tbls := fun c ps q => by
  obtain ⟨m1, e1⟩ := a.tbls c ps q
  obtain ⟨m2, e2⟩ := b.tbls c _ e1
  exact ⟨m1 ++ m2, by rw [e2, Array.append_assoc]⟩
theorem Un.kept (k : ∀ b u, h.get? b = some u → h'.get? b = some u) : Un fs ex H H h h' :=
 ⟨fun b ob q _ _ _ => k b ob q, fun b ob q _ _ _ => ⟨ob.slots, k b ob q⟩, fun _ _ _ n _ => n, fun b ob q _ => ⟨ob, k b ob q⟩, fun _ _ q => q, fun _ _ _ q => q, fun _ ps q => ⟨#[], by rw [q]; simp⟩⟩
theorem Un.refl : Un fs ex H H h h := Un.kept fun _ _ q => q
theorem Un.laid (k : ∀ b u, h.get? b = some u → h'.get? b = some u) (hp : h.objs.size ≤ a) (hn : H a = none) : Un fs ex H (upd H a o) h h' where
 keep := fun b u q _ _ _ => k b u q
 slot := fun b u q _ _ _ => ⟨u.slots, k b u q⟩
 free := fun b u q n _ => by rw [upd_ne (Nat.ne_of_lt (Nat.lt_of_lt_of_le (Heap.lt_size q) hp))]; exact n
 there := fun b u q _ => ⟨u, k b u q⟩
 tups := fun b xs q => by rw [upd_ne (ne_of_none q hn)]; exact q
 frzs := fun b u xs q => by rw [upd_ne (ne_of_none q hn)]; exact q
 tbls := fun b ps q => ⟨#[], by rw [upd_ne (ne_of_none q hn), q]; simp⟩
theorem Un.write (mu : Mut (H x)) (he : e = x ∨ H e = some (.own x)) (k : ∀ b u, b ≠ e → h.get? b = some u → h'.get? b = some u) (heo : ∃ u, h'.get? e = some u) : Un fs ex H (upd H x o) h h' := by
 have hx : ∀ b, H b = none → b ≠ x := fun b n z => by subst z; rw [n] at mu; exact mu
 have hb : ∀ b, H b = none → b ≠ e := fun b n z => by
  subst z
  rcases he with r | r
  · exact hx b n r
  · rw [n] at r; cases r
 have hm : ∀ b u, H b = some u → ¬ Mut (some u) → b ≠ x := fun b u q nm z => by subst z; rw [q] at mu; exact nm mu
 refine ⟨fun b u q n _ _ => k b u (hb b n) q, fun b u q n _ _ => ⟨u.slots, k b u (hb b n) q⟩, fun b u q n _ => by rw [upd_ne (hx b n)]; exact n, fun b u q _ => ?_,
  fun b xs q => by rw [upd_ne (hm b _ q fun z => z)]; exact q, fun b u xs q => by rw [upd_ne (hm b _ q fun z => z)]; exact q, fun b ps q => ⟨#[], by rw [upd_ne (hm b _ q fun z => z), q]; simp⟩⟩
 by_cases hbe : b = e
 · subst hbe; exact heo
 · exact ⟨u, k b u hbe q⟩
theorem Un.mono (u : Un fs ex H H1 h h1) (hs : ∀ b ∈ fs, b ∈ fs') (hx : ∀ b ∈ ex, b ∈ ex') : Un fs' ex' H H1 h h1 :=
 ⟨fun b ob q n hb he => u.keep b ob q n (fun z => hb (hs b z)) fun z => he (hx b z), fun _ _ q n _ he => u.any q n fun z => he (hx _ z), fun b ob q n he => u.free b ob q n fun z => he (hx b z), fun b ob q he => u.there b ob q fun z => he (hx b z), u.tups, u.frzs, u.tbls⟩
end
def trk (h : Heap) (H : Hp) : List Addr := (List.range h.objs.size).filter fun a => (H a).isSome
def hidT (h : Heap) (H : Hp) : Heap := PySem.W.hideAll h (trk h H)
theorem hidT_size (h : Heap) (H : Hp) : (hidT h H).objs.size = h.objs.size := PySem.W.hideAll_size _ _
theorem hidT_get {h : Heap} {H : Hp} {b : Addr} {o : Obj} (e : h.get? b = some o) (n : H b = none) : (hidT h H).get? b = some o :=
 PySem.W.hideAll_get _ e fun hm => by
  have q : (H b).isSome = true := (List.mem_filter.mp hm).2
  rw [n] at q; simp at q
theorem of_hidT {h : Heap} {H : Hp} {b : Addr} {o : Obj} (e : (hidT h H).get? b = some o) : h.get? b = some o ∧ H b = none := by
 have e' : h.get? b = some o := PySem.W.of_hideAll (trk h H) e
 refine ⟨e', ?_⟩
 cases q : H b with
 | none => rfl
 | some x =>
  have hm : b ∈ trk h H := List.mem_filter.mpr ⟨List.mem_range.mpr (Heap.lt_size e'), by simp [q]⟩
  have z : (hidT h H).get? b = none := PySem.W.hideAll_none (trk h H) hm
  rw [z] at e; cases e
def allNews (g h : Heap) (L : Addr) : List (Addr × Obj) := (List.range h.objs.size).filterMap fun a => if a = L ∨ (g.get? a).isSome = true then none else (h.get? a).map fun o => (a, o)
def rest (g h : Heap) (L d : Addr) : List (Addr × Obj) := (allNews g h L).filter fun p => decide (p.1 ≠ d)
end L2
namespace L2
open PySem PySem.Spec PyProof.Rows
structure Mod (K : PySem.W.Frag) (mg : Str → Option Value) (base : Heap) : Prop where
 kin : K.In base
 glob : base.Ns mainGlobals mg
 blt : ∃ mb, base.Ns builtinsNs mb ∧ ∀ x : Str, x ≠ "__name__" → mb x = bootBuiltins x
 nolimit : base.NoLimit
structure Cx where
 prog : Program
 w : World
 K : PySem.W.Frag
 mg : Str → Option Value
 base : Heap
 A : Around
 N : List Str
 s₀ : Shared
 H₀ : Hp
 env : Env
 outer : List Env
 stack : List Env
 ex : List Addr
 fn : Str → Bool
 calm : Bool
 pn : List (Addr × Obj)
 xe : Value → Shared → Prop
def frs (l : List Env) : List Addr := l.filterMap (·.frame)
abbrev Cx.fs (X : Cx) : List Addr := frs X.outer
def Vis (sc : Scope) (x : Str) : Prop := sc.names.lookup x = some .local ∨ sc.names.lookup x = some .cell ∨ sc.names.lookup x = some .free
def Loc (sc : Scope) (x : Str) : Prop := sc.names.lookup x = some .local ∨ sc.names.lookup x = some .cell
def Look (env : Env) (h : Heap) (m : Str → Option Value) (x : Str) (u : Value) : Prop :=
 (env.kindOf x = some .local ∧ m x = some u) ∨ ((env.kindOf x = some .cell ∨ env.kindOf x = some .free) ∧ ∃ c, env.cells.lookup x = some c ∧ h.IsCell c (some u))
structure Cx.Ok (X : Cx) : Prop where
 mod : Mod X.K X.mg X.base
 kind : X.env.scope.kind = .function
 glob : X.env.globals = mainGlobals
 blt : X.env.builtins = builtinsNs
 above : X.s₀.heap.objs.size ≤ X.env.locals
 inj : ∀ x y c, X.env.cells.lookup x = some c → X.env.cells.lookup y = some c → x = y
 has : ∀ x, (X.env.kindOf x = some .cell ∨ X.env.kindOf x = some .free) → ∃ c, X.env.cells.lookup x = some c
 cab : ∀ x c, X.fn x = true → X.env.cells.lookup x = some c → X.s₀.heap.objs.size ≤ c
 hd : X.calm = true → (X.A.handled = none ∨ ∃ (e : Addr) (o : Obj) (vs : Array Value), X.A.handled = some (.ref e) ∧ o.data = .fields vs ∧ vs[2]? = some .none ∧ ((X.s₀.heap.get? e = some o ∧ X.H₀ e = none ∧ e ∉ X.fs ∧ e ∉ X.ex) ∨ (e, o) ∈ X.pn))
 frames : X.A.frames = some X.stack
 stk : X.stack = X.outer ∨ (X.stack = X.env :: X.outer ∧ X.env.frame = some X.env.locals)
 exf : ∀ b ∈ X.ex, b ≠ X.env.locals ∧ ∀ x c, X.env.cells.lookup x = some c → c ≠ b
 bs : ∀ b o, X.base.get? b = some o → X.s₀.heap.get? b = some o ∧ X.H₀ b = none
 bsz : X.base.objs.size ≤ X.s₀.heap.objs.size
 noex : ∀ b o, X.base.get? b = some o → b ∉ X.ex
 exfs : ∀ b ∈ X.ex, b ∉ X.fs
 funs : X.s₀.heap.FunFrames X.base X.outer
 frf : ∀ b ∈ X.fs, X.H₀ b = none
structure Inv (X : Cx) (pins : List (Addr × Obj)) (σ : List (Option V)) (H : Hp) (s : Shared) : Prop where
 ok : X.Ok
 os : s.os = X.s₀.os
 bare : AllBare s.gens
 base : Un X.fs X.ex X.H₀ H X.s₀.heap s.heap
 loc : ∃ m, s.heap.Ns X.env.locals m ∧ ∀ (i : Nat) (x : Str) (v : V), X.N[i]? = some x → σ[i]? = some (some v) → Vis X.env.scope x → ∃ u, RelV v u ∧ Look X.env s.heap m x u
 cell : ∀ x c, X.env.cells.lookup x = some c → ∃ v, s.heap.IsCell c v
 free : H X.env.locals = none
 freeC : ∀ x c, X.env.cells.lookup x = some c → H c = none
 pin : ∀ p ∈ X.pn ++ pins, s.heap.get? p.1 = some p.2 ∧ H p.1 = none ∧ p.1 ≠ X.env.locals ∧ p.1 ∉ X.fs ∧ ∀ v, p.2.data ≠ .cell v
 hok : HOk X.prog X.w H s.heap
 len : σ.length = X.N.length
section
variable {X : Cx} {pins : List (Addr × Obj)} {σ : List (Option V)} {H H' : Hp} {s : Shared} {h' : Heap}
theorem Cx.Ok.nofr (ok : X.Ok) {b : Addr} {o : Obj} (e : X.base.get? b = some o) : b ∉ X.fs := fun hb => by
 have := (ok.funs.mem hb).1
 rw [e] at this; cases this
theorem Inv.bs (I : Inv X pins σ H s) : ∀ b o, X.base.get? b = some o → s.heap.get? b = some o ∧ H b = none := fun b o e =>
 ⟨I.base.keep b o (I.ok.bs b o e).1 (I.ok.bs b o e).2 (I.ok.nofr e) (I.ok.noex b o e), I.base.free b o (I.ok.bs b o e).1 (I.ok.bs b o e).2 (I.ok.noex b o e)⟩
theorem Inv.bk (I : Inv X pins σ H s) : ∀ b o, X.base.get? b = some o → s.heap.get? b = some o := fun b o e => (I.bs b o e).1
theorem Inv.mod (I : Inv X pins σ H s) : Mod X.K X.mg X.base := I.ok.mod
theorem Inv.kIn (I : Inv X pins σ H s) : X.K.In s.heap := I.ok.mod.kin.keeps I.bk
theorem Inv.nolimit (I : Inv X pins σ H s) : s.heap.NoLimit := I.ok.mod.nolimit.keeps I.bk
theorem Inv.fr (I : Inv X pins σ H s) : ∃ m, Fr X.base X.env.locals s.heap m :=
 let ⟨m, hn, _⟩ := I.loc
 ⟨m, hn, I.bk, Nat.le_trans I.ok.bsz I.ok.above⟩
theorem Inv.lt (I : Inv X pins σ H s) : X.env.locals < s.heap.objs.size := let ⟨_, hn, _⟩ := I.loc; hn.lt
theorem Inv.sz (I : Inv X pins σ H s) : X.s₀.heap.objs.size ≤ s.heap.objs.size := Nat.le_trans I.ok.above (Nat.le_of_lt I.lt)
theorem Inv.nofs (I : Inv X pins σ H s) {a : Addr} (h : s.heap.objs.size ≤ a) : a ∉ X.fs := fun hb => by
 obtain ⟨_, o, ho, _⟩ := I.ok.funs.mem hb
 exact absurd (Nat.lt_of_lt_of_le (Heap.lt_size ho) (Nat.le_trans I.sz h)) (Nat.lt_irrefl _)
theorem Inv.cne (I : Inv X pins σ H s) : ∀ x c, X.env.cells.lookup x = some c → c ≠ X.env.locals := fun x c e z => by
 obtain ⟨v, o, ho, hd⟩ := I.cell x c e
 obtain ⟨m, ⟨o', es, ep, ho', hd', _⟩, _⟩ := I.loc
 rw [z, ho'] at ho; cases ho; rw [hd'] at hd; cases hd
theorem Inv.funs (I : Inv X pins σ H s) : s.heap.FunFrames X.base X.outer := by
 have all : ∀ (l : List Env), (∀ b ∈ frs l, b ∈ X.fs) → X.s₀.heap.FunFrames X.base l → s.heap.FunFrames X.base l := by
  intro l
  induction l with
  | nil => intro _ _; trivial
  | cons env r ih =>
   intro hs hl
   obtain ⟨hk, ⟨L, o, hf, hn, ho, hd⟩, hr⟩ := hl
   have hL : L ∈ X.fs := hs L (by unfold frs; rw [List.filterMap_cons, hf]; exact List.mem_cons_self)
   obtain ⟨sl, e⟩ := I.base.slot L o ho (I.ok.frf L hL) hL fun z => I.ok.exfs L z hL
   exact ⟨hk, ⟨L, _, hf, hn, e, hd⟩, ih (fun b hb => hs b (by unfold frs; rw [List.filterMap_cons, hf]; exact List.mem_cons_of_mem _ hb)) hr⟩
 exact all X.outer (fun _ hb => hb) I.ok.funs
theorem Inv.stack (I : Inv X pins σ H s) : s.heap.FunFrames X.base X.stack := by
 rcases I.ok.stk with e | ⟨e, hf⟩
 · rw [e]; exact I.funs
 · rw [e]
   obtain ⟨m, hn, _⟩ := I.loc
   refine .cons (by rw [I.ok.kind]; decide) hf hn ?_ I.funs
   exact Heap.get?_none_of_le (Nat.le_trans I.ok.bsz I.ok.above)
theorem Inv.stkSub (I : Inv X pins σ H s) : ∀ b ∈ frs X.stack, b ∈ X.env.locals :: X.fs := fun b hb => by
 rcases I.ok.stk with e | ⟨e, hf⟩
 · rw [e] at hb; exact List.mem_cons_of_mem _ hb
 · rw [e] at hb
   unfold frs at hb
   rw [List.filterMap_cons, hf] at hb
   exact hb
theorem Inv.stkFree (I : Inv X pins σ H s) : ∀ b ∈ frs X.stack, H b = none := fun b hb => by
 rcases List.mem_cons.mp (I.stkSub b hb) with e | hb
 · rw [e]; exact I.free
 · obtain ⟨_, o, ho, _⟩ := I.ok.funs.mem hb
   exact I.base.free b o ho (I.ok.frf b hb) fun z => I.ok.exfs b z hb
theorem Inv.step {g' : Array GenState} {t' : Nat} {d' : Drawn} {ch : List Addr} (I : Inv X pins σ H s)
 (hch : ∀ b ∈ ch, (b ∈ X.ex ∨ X.s₀.heap.objs.size ≤ b) ∧ b ≠ X.env.locals ∧ (∀ x c, X.env.cells.lookup x = some c → c ≠ b) ∧ ∀ p ∈ X.pn ++ pins, p.1 ≠ b)
 (keep : ∀ b o, b ≠ X.env.locals → b ∉ X.fs → b ∉ ch → s.heap.get? b = some o → H b = none → h'.get? b = some o)
 (slot : ∀ b o, b ≠ X.env.locals → b ∈ X.fs → b ∉ ch → s.heap.get? b = some o → H b = none → ∃ sl, h'.get? b = some { o with slots := sl }) (free : ∀ b o, b ∉ ch → s.heap.get? b = some o → H b = none → H' b = none)
 (there : ∀ b o, b ∉ ch → s.heap.get? b = some o → ∃ o', h'.get? b = some o')
 (tups : ∀ b xs, H b = some (.tup xs) → H' b = some (.tup xs)) (frzs : ∀ b o u, H b = some (.frz o u) → H' b = some (.frz o u)) (tbls : ∀ b ps, H b = some (.tbl ps) → ∃ more, H' b = some (.tbl (ps ++ more)))
 (ns : ∀ m, s.heap.Ns X.env.locals m → h'.Ns X.env.locals m) (hok : HOk X.prog X.w H' h') (hg : AllBare g') :
 Inv X pins σ H' { s with heap := h', gens := g', drawn := d', toks := t' } := by
 have neL : ∀ b o, X.s₀.heap.get? b = some o → b ≠ X.env.locals := fun b o e => Nat.ne_of_lt (Nat.lt_of_lt_of_le (Heap.lt_size e) I.ok.above)
 have neC : ∀ b o, X.s₀.heap.get? b = some o → b ∉ X.ex → b ∉ ch := fun b o e hx hb => by
  rcases (hch b hb).1 with z | z
  · exact hx z
  · exact absurd (Nat.lt_of_lt_of_le (Heap.lt_size e) z) (Nat.lt_irrefl _)
 have cellK : ∀ x c, X.env.cells.lookup x = some c → ∀ v, s.heap.IsCell c v → h'.IsCell c v := fun x c e v ⟨o, ho, hd⟩ => by
  have nch : c ∉ ch := fun z => (hch c z).2.2.1 x c e rfl
  by_cases hc : c ∈ X.fs
  · obtain ⟨sl, q⟩ := slot c o (I.cne x c e) hc nch ho (I.freeC x c e)
    exact ⟨_, q, hd⟩
  · exact ⟨o, keep c o (I.cne x c e) hc nch ho (I.freeC x c e), hd⟩
 refine ⟨I.ok, I.os, hg, ⟨fun b o e n hb hx => ?_, fun b o e n hb hx => ?_, fun b o e n hx => ?_, fun b o e hx => ?_, fun b xs e => tups b xs (I.base.tups b xs e), fun b o xs e => frzs b o xs (I.base.frzs b o xs e), fun b ps e => ?_⟩, ?_, fun x c e => ?_, ?_, fun x c e => ?_, fun p hp => ?_, hok, I.len⟩
 · exact keep b o (neL b o e) hb (neC b o e hx) (I.base.keep b o e n hb hx) (I.base.free b o e n hx)
 · obtain ⟨sl, e1⟩ := I.base.slot b o e n hb hx
   obtain ⟨sl', e2⟩ := slot b _ (neL b o e) hb (neC b o e hx) e1 (I.base.free b o e n hx)
   exact ⟨sl', e2⟩
 · obtain ⟨o', e1⟩ := I.base.there b o e hx
   exact free b o' (neC b o e hx) e1 (I.base.free b o e n hx)
 · obtain ⟨o', e1⟩ := I.base.there b o e hx
   exact there b o' (neC b o e hx) e1
 · obtain ⟨m1, e1⟩ := I.base.tbls b ps e
   obtain ⟨m2, e2⟩ := tbls b _ e1
   exact ⟨m1 ++ m2, by rw [e2, Array.append_assoc]⟩
 · obtain ⟨m, hn, hl⟩ := I.loc
   refine ⟨m, ns m hn, fun i x v e1 e2 e3 => ?_⟩
   obtain ⟨u, r, l⟩ := hl i x v e1 e2 e3
   refine ⟨u, r, ?_⟩
   rcases l with l | ⟨k, c, e, z⟩
   · exact .inl l
   · exact .inr ⟨k, c, e, cellK x c e _ z⟩
 · obtain ⟨v, z⟩ := I.cell x c e
   exact ⟨v, cellK x c e v z⟩
 · obtain ⟨m, ⟨o, _, _, ho, _⟩, _⟩ := I.loc
   exact free _ o (fun z => (hch _ z).2.1 rfl) ho I.free
 · obtain ⟨v, o, ho, hd⟩ := I.cell x c e
   exact free c o (fun z => (hch c z).2.2.1 x c e rfl) ho (I.freeC x c e)
 · obtain ⟨e, n, ne, nf, d⟩ := I.pin p hp
   have nch : p.1 ∉ ch := fun z => (hch p.1 z).2.2.2 p hp rfl
   exact ⟨keep p.1 p.2 ne nf nch e n, free p.1 p.2 nch e n, ne, nf, d⟩
theorem Inv.un {t' : Nat} (I : Inv X pins σ H s) (u : Un X.fs [] H H' s.heap h') (hok : HOk X.prog X.w H' h') : Inv X pins σ H' { s with heap := h', toks := t' } := by
 obtain ⟨m, ⟨o, es, ep, ho, r⟩, _⟩ := id I.loc
 obtain ⟨sl, hL⟩ := u.any ho I.free (by simp)
 exact I.step (g' := s.gens) (d' := s.drawn) (ch := []) (fun _ z => nomatch z) (fun b o _ hb _ e n => u.keep b o e n hb (by simp)) (fun b o _ hb _ e n => u.slot b o e n hb (by simp)) (fun b o _ e n => u.free b o e n (by simp)) (fun b o _ e => u.there b o e (by simp)) u.tups u.frzs u.tbls (fun m' hm => by
  obtain ⟨o', es', ep', ho', r'⟩ := hm
  rw [ho] at ho'; cases ho'
  exact ⟨_, es', ep', hL, r'⟩) hok I.bare
theorem Inv.call {g' : Array GenState} {t' : Nat} {d' : Drawn} {ch : List Addr} (I : Inv X pins σ H s) (u : Un (frs X.stack) ch H H' s.heap h') (hok : HOk X.prog X.w H' h') (hg : AllBare g')
 (hch : ∀ b ∈ ch, (b ∈ X.ex ∨ X.s₀.heap.objs.size ≤ b) ∧ b ≠ X.env.locals ∧ (∀ x c, X.env.cells.lookup x = some c → c ≠ b) ∧ ∀ p ∈ X.pn ++ pins, p.1 ≠ b) :
 Inv X pins σ H' { s with heap := h', gens := g', drawn := d', toks := t' } := by
 obtain ⟨m, ⟨o, es, ep, ho, r⟩, _⟩ := id I.loc
 obtain ⟨sl, hL⟩ := u.any ho I.free fun z => (hch _ z).2.1 rfl
 exact I.step (ch := ch) hch (fun b o hL hb hc e n => u.keep b o e n (fun z => (List.mem_cons.mp (I.stkSub b z)).elim hL hb) hc) (fun b o _ _ hc e n => u.any e n hc) (fun b o hc e n => u.free b o e n hc) (fun b o hc e => u.there b o e hc) u.tups u.frzs u.tbls (fun m' hm => by
  obtain ⟨o', es', ep', ho', r'⟩ := hm
  rw [ho] at ho'; cases ho'
  exact ⟨_, es', ep', hL, r'⟩) hok hg
theorem Inv.turned {t' : Nat} {it : Addr} (I : Inv X pins σ H s) (k : ∀ b o, b ≠ it → s.heap.get? b = some o → h'.get? b = some o) (hn : H it = none) (hL : it ≠ X.env.locals)
 (h1 : it ∈ X.ex ∨ X.s₀.heap.objs.size ≤ it) (h2 : ∀ x c, X.env.cells.lookup x = some c → c ≠ it) (h3 : ∀ p ∈ X.pn ++ pins, p.1 ≠ it) : Inv X pins σ H { s with heap := h', toks := t' } := by
 have nit : ∀ b u, H b = some u → b ≠ it := fun b u e z => by rw [z, hn] at e; cases e
 refine I.step (g' := s.gens) (d' := s.drawn) (ch := [it]) (fun b hb => ?_) (fun b o _ _ hc e _ => k b o (fun z => hc (by simp [z])) e) (fun b o _ _ hc e _ => ⟨o.slots, k b o (fun z => hc (by simp [z])) e⟩) (fun _ _ _ _ n => n)
  (fun b o hc e => ⟨o, k b o (fun z => hc (by simp [z])) e⟩) (fun _ _ e => e) (fun _ _ _ e => e) (fun b ps e => ⟨#[], by rw [e]; simp⟩) (fun m hm => ?_) (fun b u e => ?_) I.bare
 · have e : b = it := by simpa using hb
   subst e
   exact ⟨h1, hL, h2, h3⟩
 · obtain ⟨o, es, ep, ho, r⟩ := hm
   exact ⟨o, es, ep, k _ o (Ne.symm hL) ho, r⟩
 · refine (I.hok b u e).stay (fun c v hc q => k c v ?_ q) (fun _ q => q) fun _ _ q => q
   rcases hc with z | z
   · rw [z]; exact nit b u e
   · exact nit c _ z
theorem Inv.tok (I : Inv X pins σ H s) (t : Nat) : Inv X pins σ H { s with toks := t } := I.un (h' := s.heap) (t' := t) Un.refl I.hok
theorem Inv.kept {t' : Nat} (I : Inv X pins σ H s) (k : ∀ b u, s.heap.get? b = some u → h'.get? b = some u) : Inv X pins σ H { s with heap := h', toks := t' } := I.un (Un.kept k) (I.hok.kept k)
theorem Inv.laid {a : Addr} {o : HO} {t' : Nat} (I : Inv X pins σ H s) (k : ∀ b u, s.heap.get? b = some u → h'.get? b = some u) (hp : s.heap.objs.size ≤ a) (new : ObjOk X.prog X.w (upd H a o) h' a o) :
 Inv X pins σ (upd H a o) { s with heap := h', toks := t' } := I.un (Un.laid k hp (I.hok.fresh hp)) (I.hok.laid k hp new)
theorem Inv.write {x e : Addr} {o : HO} {t' : Nat} (I : Inv X pins σ H s) (mu : Mut (H x)) (he : e = x ∨ H e = some (.own x)) (k : ∀ b u, b ≠ e → s.heap.get? b = some u → h'.get? b = some u) (heo : ∃ u, h'.get? e = some u)
 (new : ObjOk X.prog X.w (upd H x o) h' x o) : Inv X pins σ (upd H x o) { s with heap := h', toks := t' } := I.un (Un.write mu he k heo) (I.hok.write mu he k heo new)
theorem Inv.pins_of {pins' : List (Addr × Obj)} (I : Inv X pins σ H s) (h : ∀ p ∈ pins', s.heap.get? p.1 = some p.2 ∧ H p.1 = none ∧ p.1 ≠ X.env.locals ∧ p.1 ∉ X.fs ∧ ∀ v, p.2.data ≠ .cell v) : Inv X pins' σ H s :=
 ⟨I.ok, I.os, I.bare, I.base, I.loc, I.cell, I.free, I.freeC, fun p hp => (List.mem_append.mp hp).elim (fun z => I.pin p (List.mem_append_left _ z)) (h p), I.hok, I.len⟩
theorem nodup_ix {N : List Str} (hN : N.Nodup) {i j : Nat} {x : Str} (a : N[i]? = some x) (b : N[j]? = some x) : i = j := by
 obtain ⟨h1, e1⟩ := List.getElem?_eq_some_iff.mp a
 obtain ⟨h2, e2⟩ := List.getElem?_eq_some_iff.mp b
 exact (List.getElem_inj hN).mp (e1.trans e2.symm)
theorem store_ok2 {M : Model} {A : Around} {E : Value → Shared → Prop} {i : Nat} {x : Str} {v : V} {u : Value} {Q : Unit → Shared → Prop} (I : Inv X pins σ H s) (hN : X.N.Nodup) (hi : X.N[i]? = some x) (hx : Loc X.env.scope x) (r : RelV v u)
 (h : ∀ s', Inv X pins (σ.set i (some v)) H s' → (∃ a, Heap.SameBut a s.heap s'.heap ∧ (a = X.env.locals ∨ X.env.cells.lookup x = some a)) → Q () s') (hf : X.fn x = true ∨ X.env.scope.names.lookup x = some .local := by first | exact .inl rfl | exact .inr rfl | assumption) : wpAny M A (storeName X.env x u) Q E s := by
 obtain ⟨m, hn, hl⟩ := id I.loc
 have hcls : (X.env.scope.kind == .class || (X.env.scope.kind == .module && X.env.locals != X.env.globals)) = false := by rw [I.ok.kind]; rfl
 have hiσ : i < σ.length := by rw [I.len]; exact (List.getElem?_eq_some_iff.mp hi).1
 have cne := I.cne
 have tracked : ∀ {a : Addr} {h' : Heap}, (∃ o, s.heap.get? a = some o ∧ H a = none) → Heap.SameBut a s.heap h' → HOk X.prog X.w H h' := fun {a h'} ha hs b ob e => by
  obtain ⟨_, _, hfree⟩ := ha
  refine (I.hok b ob e).stay (fun c w' hc q => (hs.2 c ?_).trans q) (fun _ q => q) fun _ _ q => q
  rintro rfl
  rcases hc with rfl | hc
  · rw [hfree] at e; cases e
  · rw [hfree] at hc; cases hc
 rcases hx with hk | hk
 · refine wpAny_storeName_local hk hn (fun h' hn' hs => ?_) hcls
   obtain ⟨oL, _, _, hoL, _⟩ := id hn
   refine h _ ⟨I.ok, I.os, I.bare, ⟨fun b o e n hb hx => ?_, fun b o e n hb hx => ?_, I.base.free, fun b o e hx => ?_, I.base.tups, I.base.frzs, I.base.tbls⟩, ⟨_, hn', fun j y v' e1 e2 e3 => ?_⟩, fun y c e => ?_, I.free, I.freeC, fun p hp => ?_, tracked ⟨oL, hoL, I.free⟩ hs, by simpa using I.len⟩ ⟨_, hs, .inl rfl⟩
   · exact (hs.2 b (Nat.ne_of_lt (Nat.lt_of_lt_of_le (Heap.lt_size e) I.ok.above))).trans (I.base.keep b o e n hb hx)
   · obtain ⟨sl, e1⟩ := I.base.slot b o e n hb hx
     exact ⟨sl, (hs.2 b (Nat.ne_of_lt (Nat.lt_of_lt_of_le (Heap.lt_size e) I.ok.above))).trans e1⟩
   · obtain ⟨o', e1⟩ := I.base.there b o e hx
     exact ⟨o', (hs.2 b (Nat.ne_of_lt (Nat.lt_of_lt_of_le (Heap.lt_size e) I.ok.above))).trans e1⟩
   · by_cases hj : j = i
     · subst hj
       rw [hi] at e1; cases e1
       rw [List.getElem?_set_self hiσ] at e2
       cases e2
       exact ⟨u, r, .inl ⟨hk, by simp⟩⟩
     · rw [List.getElem?_set_ne (Ne.symm hj)] at e2
       obtain ⟨u', r', q⟩ := hl j y v' e1 e2 e3
       refine ⟨u', r', ?_⟩
       rcases q with ⟨k, e⟩ | ⟨k, c, e, z⟩
       · refine .inl ⟨k, ?_⟩
         have : y ≠ x := fun e => hj (nodup_ix hN e1 (e ▸ hi))
         simp [this, e]
       · exact .inr ⟨k, c, e, z.sameBut hs (cne y c e)⟩
   · obtain ⟨w', z⟩ := I.cell y c e
     exact ⟨w', z.sameBut hs (cne y c e)⟩
   · obtain ⟨e, n, ne, nf, d⟩ := I.pin p hp
     exact ⟨(hs.2 p.1 ne).trans e, n, ne, nf, d⟩
 · have hfn : X.fn x = true := by
    rcases hf with z | z
    · exact z
    · rw [z] at hk; cases hk
   obtain ⟨c, hc⟩ := I.ok.has x (.inl hk)
   obtain ⟨w', z⟩ := I.cell x c hc
   refine wpAny_storeName_cell I.ok.kind hk hc z (fun h' hc' hs => ?_)
   obtain ⟨oc, hoc, hocd⟩ := id z
   refine h { s with heap := h' } ⟨I.ok, I.os, I.bare, ⟨fun b o e n hb hx => ?_, fun b o e n hb hx => ?_, I.base.free, fun b o e hx => ?_, I.base.tups, I.base.frzs, I.base.tbls⟩, ⟨m, hn.sameBut hs (Ne.symm (cne x c hc)), fun j y v' e1 e2 e3 => ?_⟩, fun y c' e => ?_, I.free, I.freeC, fun p hp => ?_, tracked ⟨oc, hoc, I.freeC x c hc⟩ hs, by simpa using I.len⟩ ⟨c, hs, .inr hc⟩
   · exact (hs.2 b (Nat.ne_of_lt (Nat.lt_of_lt_of_le (Heap.lt_size e) (I.ok.cab x c hfn hc)))).trans (I.base.keep b o e n hb hx)
   · obtain ⟨sl, e1⟩ := I.base.slot b o e n hb hx
     exact ⟨sl, (hs.2 b (Nat.ne_of_lt (Nat.lt_of_lt_of_le (Heap.lt_size e) (I.ok.cab x c hfn hc)))).trans e1⟩
   · obtain ⟨o', e1⟩ := I.base.there b o e hx
     exact ⟨o', (hs.2 b (Nat.ne_of_lt (Nat.lt_of_lt_of_le (Heap.lt_size e) (I.ok.cab x c hfn hc)))).trans e1⟩
   · by_cases hj : j = i
     · subst hj
       rw [hi] at e1; cases e1
       rw [List.getElem?_set_self hiσ] at e2
       cases e2
       exact ⟨u, r, .inr ⟨.inl hk, c, hc, hc'⟩⟩
     · rw [List.getElem?_set_ne (Ne.symm hj)] at e2
       obtain ⟨u', r', q⟩ := hl j y v' e1 e2 e3
       refine ⟨u', r', ?_⟩
       rcases q with q | ⟨k, c', e, z'⟩
       · exact .inl q
       · refine .inr ⟨k, c', e, z'.sameBut hs ?_⟩
         rintro rfl
         exact hj (nodup_ix hN e1 (I.ok.inj _ _ _ e hc ▸ hi))
   · by_cases hcc : c' = c
     · subst hcc; exact ⟨_, hc'⟩
     · obtain ⟨w2, z2⟩ := I.cell y c' e
       exact ⟨w2, z2.sameBut hs hcc⟩
   · obtain ⟨e, n, ne, nf, d⟩ := I.pin p hp
     refine ⟨(hs.2 p.1 ?_).trans e, n, ne, nf, d⟩
     intro q
     rw [q, hoc] at e
     have q' : oc = p.2 := Option.some.inj e
     exact d w' (by rw [← q']; exact hocd)
theorem store_ok {M : Model} {A : Around} {E : Value → Shared → Prop} {i : Nat} {x : Str} {v : V} {u : Value} {Q : Unit → Shared → Prop} (I : Inv X pins σ H s) (hN : X.N.Nodup) (hi : X.N[i]? = some x) (hx : Loc X.env.scope x) (r : RelV v u)
 (h : ∀ s', Inv X pins (σ.set i (some v)) H s' → Q () s') (hf : X.fn x = true ∨ X.env.scope.names.lookup x = some .local := by first | exact .inl rfl | exact .inr rfl | assumption) : wpAny M A (storeName X.env x u) Q E s :=
 store_ok2 I hN hi hx r (fun s' I' _ => h s' I') hf
theorem Inv.call' {s' : Shared} {ch : List Addr} (I : Inv X pins σ H s) (ho : s'.os = s.os) (u : Un (frs X.stack) ch H H' s.heap s'.heap) (hok : HOk X.prog X.w H' s'.heap) (hg : AllBare s'.gens)
 (hch : ∀ b ∈ ch, (b ∈ X.ex ∨ X.s₀.heap.objs.size ≤ b) ∧ b ≠ X.env.locals ∧ (∀ x c, X.env.cells.lookup x = some c → c ≠ b) ∧ ∀ p ∈ X.pn ++ pins, p.1 ≠ b) : Inv X pins σ H' s' := by
 obtain ⟨h', g', d', t', o'⟩ := s'
 have e : o' = s.os := ho
 subst e
 exact I.call (g' := g') (t' := t') (d' := d') u hok hg hch
end
abbrev XK := Value → Option Addr → Hp → Prop
abbrev St := List (Option V)
abbrev VK := V → Hp → Prop
abbrev TE := St → Hp → VK → Prop
abbrev TT := St → Hp → (Bool → Hp → Prop) → Prop
abbrev TA := St → Hp → (List V → Hp → Prop) → Prop
structure Ends where
 nx : St → Hp → Prop
 rt : VK
 bk : St → Hp → Prop := fun _ _ => False
 ct : St → Hp → Prop := fun _ _ => False
abbrev TS := Ends → St → Hp → Prop
def EP (X : Cx) (pins : List (Addr × Obj)) (σ : St) (Q : VK) (u : Value) (s' : Shared) : Prop := ∃ v H', Inv X pins σ H' s' ∧ RelV v u ∧ Q v H'
def TP (X : Cx) (pins : List (Addr × Obj)) (σ : St) (Q : Bool → Hp → Prop) (b : Bool) (s' : Shared) : Prop := ∃ H', Inv X pins σ H' s' ∧ Q b H'
def AP (X : Cx) (pins : List (Addr × Obj)) (σ : St) (Q : List V → Hp → Prop) (us : List Value) (s' : Shared) : Prop := ∃ vs H', Inv X pins σ H' s' ∧ Vals vs us ∧ Q vs H'
def SP (X : Cx) (pins : List (Addr × Obj)) (D : Ends) (f : Flow) (s' : Shared) : Prop :=
 match f with
 | .next => ∃ σ' H', Inv X pins σ' H' s' ∧ D.nx σ' H'
 | .brk => ∃ σ' H', Inv X pins σ' H' s' ∧ D.bk σ' H'
 | .cont => ∃ σ' H', Inv X pins σ' H' s' ∧ D.ct σ' H'
 | .ret u => ∃ v σ' H', Inv X pins σ' H' s' ∧ RelV v u ∧ D.rt v H'
def PE (X : Cx) (e : Expr) (t : TE) : Prop :=
 ∀ (pins : List (Addr × Obj)) (s : Shared) (σ : St) (H : Hp) (Q : VK), Inv X pins σ H s → t σ H Q → wpAny (model X.prog X.w) X.A (eval e X.env) (EP X pins σ Q) X.xe s
def PT (X : Cx) (e : Expr) (t : TT) : Prop :=
 ∀ (pins : List (Addr × Obj)) (s : Shared) (σ : St) (H : Hp) (Q : Bool → Hp → Prop), Inv X pins σ H s → t σ H Q → wpAny (model X.prog X.w) X.A (isTrue e X.env (eval e X.env)) (TP X pins σ Q) X.xe s
def PW (X : Cx) (e : Expr) (t : TT) : Prop :=
 ∀ (whole : Sem Value) (pins : List (Addr × Obj)) (s : Shared) (σ : St) (H : Hp) (Q : Bool → Hp → Prop), Inv X pins σ H s → t σ H Q → wpAny (model X.prog X.w) X.A (isTrue e X.env whole) (TP X pins σ Q) X.xe s
theorem PW.pt {X : Cx} {e : Expr} {t : TT} (h : PW X e t) : PT X e t := h _
def PA (X : Cx) (es : List Expr) (t : TA) : Prop :=
 ∀ (pos : Pos) (pins : List (Addr × Obj)) (s : Shared) (σ : St) (H : Hp) (Q : List V → Hp → Prop), Inv X pins σ H s → t σ H Q → wpAny (model X.prog X.w) X.A (spliced (backTo pos (starEach es X.env))) (AP X pins σ Q) X.xe s
def PS (X : Cx) (st : Stmt) (t : TS) : Prop :=
 ∀ (pins : List (Addr × Obj)) (s : Shared) (σ : St) (H : Hp) (D : Ends), Inv X pins σ H s → t D σ H → wpAny (model X.prog X.w) X.A (exec st X.env) (SP X pins D) X.xe s
def PSs (X : Cx) (st : List Stmt) (t : TS) : Prop :=
 ∀ (pins : List (Addr × Obj)) (s : Shared) (σ : St) (H : Hp) (D : Ends), Inv X pins σ H s → t D σ H → wpAny (model X.prog X.w) X.A (execs st X.env) (SP X pins D) X.xe s
theorem thn {α : Type} {t : Sem α} {Q Q' : α → Shared → Prop} {M : Model} {A : Around} {E : Value → Shared → Prop} {s : Shared} (h : wpAny M A t Q E s) (hQ : ∀ a s, Q a s → Q' a s) : wpAny M A t Q' E s := wpAny_mono h hQ fun _ _ x => x
end L2
namespace L2
open PySem PySem.Spec PyProof.Rows
section
variable {X : Cx}
def tVar (i : Nat) : TE := fun σ H Q => ∃ v, σ[i]? = some (some v) ∧ Q v H
def tC (v : V) : TE := fun _ H Q => Q v H
theorem pe_var {i : Nat} {x : Str} {pos : Pos} (hN : X.N[i]? = some x) (hv : Vis X.env.scope x) (hd : (x == ("__debug__" : Str)) = false := by decide) (hcd : (x == ("__classdict__" : Str)) = false := by decide) : PE X (.Name x pos) (tVar i) := by
 intro pins s σ H Q I h
 obtain ⟨v, e, h⟩ := h
 obtain ⟨m, hn, hl⟩ := I.loc
 obtain ⟨u, r, l⟩ := hl i x v hN e hv
 have fin : EP X pins σ Q u s := ⟨v, H, I, r, h⟩
 rcases l with ⟨hk, hm⟩ | ⟨hk, c, hc, hcell⟩
 · exact wpAny_Name (wpAny_loadName_local I.ok.kind hk hn hm fin) hd
 · rcases hk with hk | hk
   · exact wpAny_Name (wpAny_loadName_cell I.ok.kind hk hc hcell fin) hd
   · exact wpAny_Name (wpAny_loadName_free I.ok.kind hk hc hcell fin hcd) hd
theorem pe_int {i j pos} : PE X (.Constant (.int i) j pos) (tC (.int i)) := fun _ _ _ H _ I h => wpAny_Constant_int ⟨.int i, H, I.tok _, ⟨_, rfl⟩, h⟩
theorem pe_bl {b j pos} : PE X (.Constant (.bool b) j pos) (tC (.bl b)) := fun _ _ _ H _ I h => Constant_bool ⟨.bl b, H, I, rfl, h⟩
theorem pe_non {j pos} : PE X (.Constant .none j pos) (tC .non) := fun _ _ _ H _ I h => Constant_none ⟨.non, H, I, rfl, h⟩
theorem pe_str {x j pos} : PE X (.Constant (.str x) j pos) (tC (.str x)) := fun _ _ _ H _ I h => Calls.Constant_str ⟨.str x, H, I.tok _, ⟨_, rfl⟩, h⟩
def Gl (X : Cx) (x : Str) : Prop := X.env.kindOf x = some .globalImplicit
theorem ld_glob {E : Value → Shared → Prop} {pins : List (Addr × Obj)} {s : Shared} {σ : St} {H : Hp} {x : Str} {u : Value} {pos : Pos} {Q : Value → Shared → Prop} (I : Inv X pins σ H s) (hg : Gl X x) (hm : X.mg x = some u) (h : Q u s)
 (hd : (x == ("__debug__" : Str)) = false := by decide) : wpAny (model X.prog X.w) X.A (eval (.Name x pos) X.env) Q E s :=
 Calls.Name_function_global I.ok.kind hg (Calls.loadGlobal_global (by rw [I.ok.glob]; exact I.mod.glob.keeps I.bk) hm h) hd
theorem ld_blt {E : Value → Shared → Prop} {pins : List (Addr × Obj)} {s : Shared} {σ : St} {H : Hp} {x : Str} {u : Value} {pos : Pos} {Q : Value → Shared → Prop} (I : Inv X pins σ H s) (hg : Gl X x) (hm : X.mg x = none) (hv : bootBuiltins x = some u) (h : Q u s)
 (hn : x ≠ "__name__" := by decide) (hd : (x == ("__debug__" : Str)) = false := by decide) : wpAny (model X.prog X.w) X.A (eval (.Name x pos) X.env) Q E s := by
 obtain ⟨mb, h1, h2⟩ := I.mod.blt
 exact Calls.Name_function_global I.ok.kind hg (Calls.loadGlobal_builtin (by rw [I.ok.glob]; exact I.mod.glob.keeps I.bk) hm (by rw [I.ok.blt]; exact h1.keeps I.bk) ((h2 x hn).trans hv) h) hd
theorem pe_glob {x : Str} {v : V} {u : Value} {pos : Pos} (hg : Gl X x) (hm : X.mg x = some u) (r : RelV v u) (hd : (x == ("__debug__" : Str)) = false := by decide) : PE X (.Name x pos) (tC v) :=
 fun _ _ _ H _ I h => ld_glob I hg hm ⟨v, H, I, r, h⟩ hd
theorem pe_bltn {x : Str} {v : V} {u : Value} {pos : Pos} (hg : Gl X x) (hm : X.mg x = none) (hv : bootBuiltins x = some u) (r : RelV v u) (hn : x ≠ "__name__" := by decide) (hd : (x == ("__debug__" : Str)) = false := by decide) : PE X (.Name x pos) (tC v) :=
 fun _ _ _ H _ I h => ld_blt I hg hm hv ⟨v, H, I, r, h⟩ hn hd
variable {a b : Expr} {ta tb : TE} {pos : Pos}
def PC (X : Cx) (op : CmpOp) (a b : Expr) (t : TE) : Prop :=
 ∀ (pins : List (Addr × Obj)) (s : Shared) (σ : St) (H : Hp) (Q : VK), Inv X pins σ H s → t σ H Q →
  wpAny (model X.prog X.w) X.A (eval a X.env) (fun v s₁ => wpAny (model X.prog X.w) X.A (eval b X.env) (fun u s₂ => wpAny (model X.prog X.w) X.A (compareOp op v u) (EP X pins σ Q) X.xe s₂) X.xe s₁) X.xe s
theorem RelV.none_iff {x : V} {v : Value} (r : RelV x v) : (v == Value.none) = decide (x = .non) := by
 cases x with
 | non => cases r; rfl
 | bl _ => cases r; rfl
 | int _ => obtain ⟨t, rfl⟩ := r; rfl
 | str _ => obtain ⟨t, rfl⟩ := r; rfl
 | byt _ => obtain ⟨t, rfl⟩ := r; rfl
 | flt _ => obtain ⟨t, rfl⟩ := r; rfl
 | ref _ => cases r; rfl
 | ty _ => cases r; rfl
def tB (t : TE) : TT := fun σ H Q => t σ H fun x H1 => ∃ c, x = .bl c ∧ Q c H1
theorem pt_val {e : Expr} {t : TE} (h : PE X e t) (he : ∀ whole, isTrue e X.env whole = (do let v ← whole; standAt e.pos; holding [v] (truthy v)) := by intro _; rfl) : PT X e (tB t) := by
 intro pins s σ H Q I hw
 refine isTrue_plain (thn (h pins s σ H _ I hw) fun v s1 ⟨x, H1, I1, r1, q1⟩ => ?_) (he _)
 obtain ⟨d, rfl, q⟩ := q1
 cases r1
 exact wpAny_truthy_bool ⟨H1, I1, q⟩
variable {tA tB' : TT} {rest : List Expr}
def tAnd (t u : TT) : TT := fun σ H Q => t σ H fun c H1 => if c = true then u σ H1 Q else Q false H1
def tOr (t u : TT) : TT := fun σ H Q => t σ H fun c H1 => if c = true then Q true H1 else u σ H1 Q
def tNot (t : TT) : TT := fun σ H Q => t σ H fun c H1 => Q (!c) H1
theorem pw_or1 (ha : PT X a tA) : PW X (.BoolOp .Or [a] pos) tA := by
 intro wh pins s σ H Q I h
 refine isTrue_or (thn (ha pins s σ H Q I h) fun c s1 e => ?_)
 cases c with
 | false => exact isTrue_or_nil e
 | true => exact e
theorem pw_or (ha : PT X a tA) (hb : PW X (.BoolOp .Or (b :: rest) pos) tB') : PW X (.BoolOp .Or (a :: b :: rest) pos) (tOr tA tB') := by
 intro wh pins s σ H Q I h
 refine isTrue_or (thn (ha pins s σ H _ I h) fun c s1 ⟨H1, I1, q1⟩ => ?_)
 cases c with
 | true => exact ⟨H1, I1, q1⟩
 | false => exact hb wh pins s1 σ H1 Q I1 q1
theorem pt_not (ha : PT X a tA) : PT X (.UnaryOp .Not a pos) (tNot tA) := by
 intro pins s σ H Q I h
 exact isTrue_not (ha pins s σ H (fun c H1 => Q (!c) H1) I h)
def tAndV (ta tb : TE) : TE := fun σ H Q => ta σ H fun x H1 => ∃ c, x = .bl c ∧ if c = true then tb σ H1 Q else Q (.bl false) H1
def tOrV (ta tb : TE) : TE := fun σ H Q => ta σ H fun x H1 => ∃ c, x = .bl c ∧ if c = true then Q (.bl true) H1 else tb σ H1 Q
def tNotV (ta : TE) : TE := fun σ H Q => ta σ H fun x H1 => ∃ c, x = .bl c ∧ Q (.bl (!c)) H1
theorem pe_one {op} {t : TE} (h : PE X a t) : PE X (.BoolOp op [a] pos) t := fun pins s σ H Q I hw => BoolOp_one (h pins s σ H Q I hw)
theorem pe_and (ha : PE X a ta) (hb : PE X (.BoolOp .And (b :: rest) pos) tb) : PE X (.BoolOp .And (a :: b :: rest) pos) (tAndV ta tb) := by
 intro pins s σ H Q I h
 refine BoolOp_and (thn (ha pins s σ H _ I h) fun v s1 ⟨x, H1, I1, r1, q1⟩ => ?_)
 obtain ⟨c, rfl, q1⟩ := q1
 cases r1
 refine wpAny_truthy_bool ?_
 cases c with
 | true => exact hb pins s1 σ H1 Q I1 q1
 | false => exact ⟨.bl false, H1, I1, rfl, q1⟩
theorem pe_not (ha : PE X a ta) : PE X (.UnaryOp .Not a pos) (tNotV ta) := by
 intro pins s σ H Q I h
 refine UnaryOp_ (thn (ha pins s σ H _ I h) fun v s1 ⟨x, H1, I1, r1, q1⟩ => ?_)
 obtain ⟨c, rfl, q1⟩ := q1
 cases r1
 exact not_of (wpAny_truthy_bool ⟨.bl (!c), H1, I1, rfl, q1⟩)
def tIf (t : TT) (ta tb : TE) : TE := fun σ H Q => t σ H fun c H1 => if c = true then ta σ H1 Q else tb σ H1 Q
end
end L2
namespace L2
open PySem PySem.Spec PyProof.Rows
def SqL (K : PySem.W.Frag) (H : Hp) (a : Addr) (xs : List V) : Prop :=
 Rd H a (.lst xs) ∨
  ∃ (o : Obj) (its : Array Value) (n : Nat), K.lookup a = some o ∧ o.cls = .type "list" ∧ o.dict = none ∧ o.data = .seq its n ∧ its.size ≤ sizeLine ∧ Vals xs its.toList
def SqT (K : PySem.W.Frag) (H : Hp) (a : Addr) (xs : List V) : Prop :=
 Rd H a (.tup xs) ∨
  ∃ (o : Obj) (its : Array Value) (n : Nat), K.lookup a = some o ∧ o.cls = .type "tuple" ∧ o.data = .seq its n ∧ its.size ≤ sizeLine ∧ Vals xs its.toList
def absV : Value → Option V
 | .none => some .non
 | .bool b => some (.bl b)
 | .int i _ => some (.int i)
 | .str x _ => some (.str x)
 | .bytes b _ => some (.byt b)
 | .float b _ => some (.flt b)
 | .ref a => some (.ref a)
 | .type n => some (.ty n)
 | _ => none
theorem RelV.abs {x : V} {u : Value} (r : RelV x u) : absV u = some x := by
 cases x with
 | non => cases r; rfl
 | bl _ => cases r; rfl
 | int _ => obtain ⟨t, rfl⟩ := r; rfl
 | str _ => obtain ⟨t, rfl⟩ := r; rfl
 | byt _ => obtain ⟨t, rfl⟩ := r; rfl
 | flt _ => obtain ⟨t, rfl⟩ := r; rfl
 | ref _ => cases r; rfl
 | ty _ => cases r; rfl
theorem RelV.inj {x y : V} {u : Value} (r : RelV x u) (q : RelV y u) : x = y := Option.some.inj (r.abs.symm.trans q.abs)
theorem Vals.inj : ∀ {xs ys : List V} {us : List Value}, Vals xs us → Vals ys us → xs = ys
 | _, _, _, .nil, .nil => rfl
 | _, _, _, .cons r t, .cons r' t' => by rw [r.inj r', Vals.inj t t']
section
variable {X : Cx} {pins : List (Addr × Obj)} {σ : St} {H : Hp} {s : Shared} {a : Addr} {xs ys : List V}
theorem SqL.of {K : PySem.W.Frag} (h : H a = some (.lst xs)) : SqL K H a xs := .inl (.inl h)
theorem SqT.of {K : PySem.W.Frag} (h : H a = some (.tup xs)) : SqT K H a xs := .inl (.inl h)
theorem Inv.list (I : Inv X pins σ H s) (h : SqL X.K H a xs) : ∃ its : List Value, Vals xs its ∧ PlainL s.heap a its.toArray ∧ xs.length ≤ sizeLine := by
 rcases h with h | ⟨o, its, n, hk, hc, hd, hs, hz, r⟩
 · obtain ⟨z, its, n, r, e⟩ := h.ok I.hok
   exact ⟨its, r, ⟨_, n, e, rfl, rfl, rfl⟩, z⟩
 · refine ⟨its.toList, r, ⟨o, n, I.kIn a o hk, hc, hd, by simpa using hs⟩, ?_⟩
   have e := r.length
   simp only [Array.length_toList] at e
   omega
theorem Inv.tuple (I : Inv X pins σ H s) (h : SqT X.K H a xs) : ∃ its : List Value, Vals xs its ∧ IsTup s.heap a its.toArray ∧ xs.length ≤ sizeLine := by
 rcases h with h | ⟨o, its, n, hk, hc, hs, hz, r⟩
 · obtain ⟨z, its, r, p⟩ := h.ok I.hok
   exact ⟨its, r, p, z⟩
 · refine ⟨its.toList, r, ⟨o, I.kIn a o hk, hc, n, by simpa using hs⟩, ?_⟩
   have e := r.length
   simp only [Array.length_toList] at e
   omega
theorem Inv.list_inj (I : Inv X pins σ H s) (h : SqL X.K H a xs) (h' : SqL X.K H a ys) : xs = ys := by
 obtain ⟨its, r, ⟨o, n, e, _, _, d⟩, _⟩ := I.list h
 obtain ⟨its', r', ⟨o', n', e', _, _, d'⟩, _⟩ := I.list h'
 rw [e] at e'; cases e'
 rw [d] at d'
 injection d' with d1 _
 have : its = its' := by simpa using congrArg Array.toList d1
 subst this
 exact r.inj r'
theorem Inv.tuple_inj (I : Inv X pins σ H s) (h : SqT X.K H a xs) (h' : SqT X.K H a ys) : xs = ys := by
 obtain ⟨its, r, ⟨o, e, _, n, d⟩, _⟩ := I.tuple h
 obtain ⟨its', r', ⟨o', e', _, n', d'⟩, _⟩ := I.tuple h'
 rw [e] at e'; cases e'
 rw [d] at d'
 injection d' with d1 _
 have : its = its' := by simpa using congrArg Array.toList d1
 subst this
 exact r.inj r'
end
abbrev Cx.wish (X : Cx) (E : Value → Shared → Prop) : Cx := { X with xe := E }
abbrev Cx.nox (X : Cx) : Cx := X.wish fun _ _ => False
theorem Cx.Ok.wish {X : Cx} (ok : X.Ok) (E : Value → Shared → Prop) : (X.wish E).Ok :=
 ⟨ok.mod, ok.kind, ok.glob, ok.blt, ok.above, ok.inj, ok.has, ok.cab, ok.hd, ok.frames, ok.stk, ok.exf, ok.bs, ok.bsz, ok.noex, ok.exfs, ok.funs, ok.frf⟩
theorem Cx.Ok.unwish {X : Cx} {E : Value → Shared → Prop} (ok : (X.wish E).Ok) : X.Ok :=
 ⟨ok.mod, ok.kind, ok.glob, ok.blt, ok.above, ok.inj, ok.has, ok.cab, ok.hd, ok.frames, ok.stk, ok.exf, ok.bs, ok.bsz, ok.noex, ok.exfs, ok.funs, ok.frf⟩
section
variable {X : Cx} {pins : List (Addr × Obj)} {σ : St} {H : Hp} {s : Shared} {E : Value → Shared → Prop}
theorem Inv.wish (I : Inv X pins σ H s) (E : Value → Shared → Prop) : Inv (X.wish E) pins σ H s := ⟨I.ok.wish E, I.os, I.bare, I.base, I.loc, I.cell, I.free, I.freeC, I.pin, I.hok, I.len⟩
theorem Inv.unwish (I : Inv (X.wish E) pins σ H s) : Inv X pins σ H s := ⟨I.ok.unwish, I.os, I.bare, I.base, I.loc, I.cell, I.free, I.freeC, I.pin, I.hok, I.len⟩
theorem SP.unwish {D : Ends} {f : Flow} {s' : Shared} (h : SP (X.wish E) pins D f s') : SP X pins D f s' := by
 cases f with
 | next => obtain ⟨σ', H', I, q⟩ := h; exact ⟨σ', H', I.unwish, q⟩
 | brk => obtain ⟨σ', H', I, q⟩ := h; exact ⟨σ', H', I.unwish, q⟩
 | cont => obtain ⟨σ', H', I, q⟩ := h; exact ⟨σ', H', I.unwish, q⟩
 | ret u => obtain ⟨v, σ', H', I, r, q⟩ := h; exact ⟨v, σ', H', I.unwish, r, q⟩
theorem PE.nox {e : Expr} {t : TE} (h : PE X.nox e t) : PE X e t := fun pins s σ H Q I hw =>
 wpAny_mono (h pins s σ H Q (I.wish _) hw) (fun _ _ ⟨v, H', I', r, q⟩ => ⟨v, H', I'.unwish, r, q⟩) fun _ _ z => False.elim z
theorem PT.nox {e : Expr} {t : TT} (h : PT X.nox e t) : PT X e t := fun pins s σ H Q I hw =>
 wpAny_mono (h pins s σ H Q (I.wish _) hw) (fun _ _ ⟨H', I', q⟩ => ⟨H', I'.unwish, q⟩) fun _ _ z => False.elim z
theorem PSs.nox {st : List Stmt} {t : TS} (h : PSs X.nox st t) : PSs X st t := fun pins s σ H D I hw =>
 wpAny_mono (h pins s σ H D (I.wish _) hw) (fun _ _ q => q.unwish) fun _ _ z => False.elim z
end
section
variable {X : Cx} {st : Stmt} {rest : List Stmt} {t u : TS} {e : Expr} {te : TE} {pos : Pos}
def tNext : TS := fun D σ H => D.nx σ H
def tSeq (t u : TS) : TS := fun D σ H => t { D with nx := u D } σ H
theorem pss_nil : PSs X [] tNext := fun _ _ σ H _ I h => wpAny_execs_nil ⟨σ, H, I, h⟩
theorem pss_cons (h1 : PS X st t) (h2 : PSs X rest u) : PSs X (st :: rest) (tSeq t u) := by
 intro pins s σ H D I h
 refine wpAny_execs_cons (thn (h1 pins s σ H { D with nx := u D } I h) fun f s1 q => ?_)
 cases f with
 | next =>
  obtain ⟨σ', H', I', q⟩ := q
  exact h2 pins s1 σ' H' D I' q
 | ret v => exact q
 | brk => exact q
 | cont => exact q
theorem pss_one (h1 : PS X st t) : PSs X [st] t := by
 intro pins s σ H D I h
 refine wpAny_execs_cons (thn (h1 pins s σ H D I h) fun f s1 q => ?_)
 cases f with
 | next => exact wpAny_execs_nil q
 | ret v => exact q
 | brk => exact q
 | cont => exact q
def tBreak : TS := fun D σ H => D.bk σ H
def tCont : TS := fun D σ H => D.ct σ H
theorem Inv.quiet {pins : List (Addr × Obj)} {σ : St} {H : Hp} {s : Shared} (I : Inv X pins σ H s) : interactive X.env = false := by simp [interactive, I.ok.kind]
def tDrop (te : TE) : TS := fun D σ H => te σ H fun _ H1 => D.nx σ H1
theorem ps_expr (he : PE X e te) (hs : swapsWith e none pos.line X.env = pure false := by rfl) : PS X (.Expr e pos) (tDrop te) := by
 intro pins s σ H D I h
 exact wpAny_Expr_any (thn (he pins s σ H _ I h) fun v s1 ⟨x, H1, I1, r1, q1⟩ => ⟨σ, H1, I1, q1⟩) I.quiet hs
def tRet (te : TE) : TS := fun D σ H => te σ H D.rt
theorem ps_ret (he : PE X e te) : PS X (.Return (some e) pos) (tRet te) := by
 intro pins s σ H D I h
 exact wpAny_Return_some (thn (he pins s σ H _ I h) fun v s1 ⟨x, H1, I1, r1, q1⟩ => ⟨x, σ, H1, I1, r1, q1⟩)
def tRetN : TS := fun D _ H => D.rt .non H
def tIfS (c : TT) (t u : TS) : TS := fun D σ H => c σ H fun b H1 => if b = true then t D σ H1 else u D σ H1
theorem ps_if {c : Expr} {a b : List Stmt} {tc : TT} (hc : PT X c tc) (ha : PSs X a t) (hb : PSs X b u) : PS X (.If c a b pos) (tIfS tc t u) := by
 intro pins s σ H D I h
 refine wpAny_If (thn (hc pins s σ H _ I h) fun d s1 ⟨H1, I1, q1⟩ => ?_)
 cases d with
 | true => exact ha pins s1 σ H1 D I1 q1
 | false => exact hb pins s1 σ H1 D I1 q1
end
abbrev TG := V → St → Hp → (St → Hp → Prop) → Prop
abbrev TGs := List V → St → Hp → (St → Hp → Prop) → Prop
def PG (X : Cx) (target : Expr) (t : TG) : Prop :=
 ∀ (pins : List (Addr × Obj)) (s : Shared) (σ : St) (H : Hp) (v : V) (u : Value) (Q : St → Hp → Prop), Inv X pins σ H s → RelV v u → t v σ H Q →
  wpAny (model X.prog X.w) X.A (assign target X.env u) (fun _ s' => ∃ σ' H', Inv X pins σ' H' s' ∧ Q σ' H') X.xe s
def PGs (X : Cx) (ts : List Expr) (t : TGs) : Prop :=
 ∀ (pins : List (Addr × Obj)) (s : Shared) (σ : St) (H : Hp) (vs : List V) (us : List Value) (Q : St → Hp → Prop), Inv X pins σ H s → Vals vs us → t vs σ H Q →
  wpAny (model X.prog X.w) X.A (assignInOrder ((assignEach ts X.env).map (·.2)) us) (fun _ s' => ∃ σ' H', Inv X pins σ' H' s' ∧ Q σ' H') X.xe s
abbrev TSet := V → V → V → Hp → (Hp → Prop) → Prop
def PSet (X : Cx) (t : TSet) : Prop :=
 ∀ (pins : List (Addr × Obj)) (s : Shared) (σ : St) (H : Hp) (o i v : V) (ov iv u : Value) (Q : Hp → Prop), Inv X pins σ H s → RelV o ov → RelV i iv → RelV v u → t o i v H Q →
  wpAny (model X.prog X.w) X.A (setItem ov iv u) (fun _ s' => ∃ H', Inv X pins σ H' s' ∧ Q H') X.xe s
abbrev TIp := V → V → Hp → VK → Prop
def PIp (X : Cx) (op : Operator) (t : TIp) : Prop :=
 ∀ (pins : List (Addr × Obj)) (s : Shared) (σ : St) (H : Hp) (x y : V) (v u : Value) (Q : VK), Inv X pins σ H s → RelV x v → RelV y u → t x y H Q →
  wpAny (model X.prog X.w) X.A (inplaceOp op v u) (EP X pins σ Q) X.xe s
section
variable {X : Cx} {pos : Pos}
def gName (i : Nat) : TG := fun v σ H Q => Q (σ.set i (some v)) H
theorem pg_name {i : Nat} {x : Str} (hN : X.N.Nodup) (hi : X.N[i]? = some x) (hx : Loc X.env.scope x) (hf : X.fn x = true ∨ X.env.scope.names.lookup x = some .local := by first | exact .inl rfl | exact .inr rfl | assumption) : PG X (.Name x pos) (gName i) := by
 intro pins s σ H v u Q I r h
 exact wpAny_assign_Name (store_ok I hN hi hx r (fun s' I' => ⟨_, H, I', h⟩) hf)
def gNil : TGs := fun vs σ H Q => vs = [] ∧ Q σ H
def gCons (t : TG) (u : TGs) : TGs := fun vs σ H Q => ∃ v r, vs = v :: r ∧ t v σ H fun σ' H' => u r σ' H' Q
def gSub (to ti : TE) (t : TSet) : TG := fun v σ H Q => to σ H fun o H1 => ti σ H1 fun i H2 => t o i v H2 fun H3 => Q σ H3
theorem pg_sub {o i : Expr} {to ti : TE} {t : TSet} (ho : PE X o to) (hi : PE X i ti) (hs : PSet X t)
 (ha : ∀ v, assign (.Subscript o i pos) X.env v = (do
   let ov ← holding [v] (eval o X.env)
   let iv ← holding [v, ov] (eval i X.env)
   standAt pos
   holding [v, ov, iv] (setItem ov iv v)
   release [v, ov, iv] []) := by intro _; rfl) : PG X (.Subscript o i pos) (gSub to ti t) := by
 intro pins s σ H v u Q I r h
 rw [ha]
 refine wpAny_bind (wpAny_holding (thn (ho pins s σ H _ I h) fun ov s1 ⟨x, H1, I1, r1, q1⟩ => ?_))
 refine wpAny_bind (wpAny_holding (thn (hi pins s1 σ H1 _ I1 q1) fun iv s2 ⟨y, H2, I2, r2, q2⟩ => ?_))
 refine wpAny_bind (wpAny_standAt (wpAny_bind (wpAny_holding (thn (hs pins s2 σ H2 x y v ov iv u _ I2 r1 r2 r q2) fun _ s3 ⟨H3, I3, q3⟩ => ?_))))
 exact wpAny_release ⟨σ, H3, I3, q3⟩
def tAsg (te : TE) (g : TG) : TS := fun D σ H => te σ H fun x H1 => g x σ H1 D.nx
theorem ps_asg {tg e : Expr} {te : TE} {g : TG} (he : PE X e te) (hg : PG X tg g) (hs : swapsWithSole [tg] e pos.line X.env = pure false := by rfl) (hw : swappedStores [tg] e X.env = pure none := by rfl)
 (h1 : (assignEach [tg] X.env).map (·.2) = [assign tg X.env] := by rfl) : PS X (.Assign [tg] e pos) (tAsg te g) := by
 intro pins s σ H D I h
 refine wpAny_Assign_stores (thn (he pins s σ H _ I h) fun v s1 ⟨x, H1, I1, r1, q1⟩ => ?_) hs hw
 rw [h1]
 exact thn (hg pins s1 σ H1 x v _ I1 r1 q1) fun _ s2 q => q
theorem ps_set {i : Nat} {x : Str} {e : Expr} {te : TE} {pos' : Pos} (hN : X.N.Nodup) (hi : X.N[i]? = some x) (hx : Loc X.env.scope x) (he : PE X e te) (hs : swapsWith e (some (.Name x pos')) pos.line X.env = pure false := by rfl) (hf : X.fn x = true ∨ X.env.scope.names.lookup x = some .local := by first | exact .inl rfl | exact .inr rfl | assumption) :
 PS X (.Assign [.Name x pos'] e pos) (tAsg te (gName i)) := by
 intro pins s σ H D I h
 refine wpAny_Assign_Name (thn (he pins s σ H _ I h) fun v s1 ⟨y, H1, I1, r1, q1⟩ => ?_) hs
 exact store_ok I1 hN hi hx r1 (fun s2 I2 => ⟨_, H1, I2, q1⟩) hf
def tAug (i : Nat) (te : TE) (ti : TIp) : TS := fun D σ H => ∃ x, σ[i]? = some (some x) ∧ te σ H fun y H1 => ti x y H1 fun z H2 => D.nx (σ.set i (some z)) H2
def PGet (X : Cx) (t : V → V → Hp → VK → Prop) : Prop :=
 ∀ (pins : List (Addr × Obj)) (s : Shared) (σ : St) (H : Hp) (o i : V) (ov iv : Value) (Q : VK), Inv X pins σ H s → RelV o ov → RelV i iv → t o i H Q →
  wpAny (model X.prog X.w) X.A (getItem ov iv) (EP X pins σ Q) X.xe s
def ipI (f : Int → Int → Int) : TIp := fun x y H Q => ∃ i j, x = .int i ∧ y = .int j ∧ Q (.int (f i j)) H
end
section
variable {X : Cx} {pos : Pos}
end
structure It where
 go : Nat → Hp → Prop
 yld : Nat → Hp → V → Hp → Prop
 stop : Nat → Hp → Prop
def FpOk (X : Cx) (pins : List (Addr × Obj)) (H : Hp) (b : Addr) : Prop :=
 H b = none ∧ b ≠ X.env.locals ∧ b ∉ X.fs ∧ (b ∈ X.ex ∨ X.s₀.heap.objs.size ≤ b) ∧ (∀ x c, X.env.cells.lookup x = some c → c ≠ b) ∧ ∀ p ∈ X.pn ++ pins, p.1 ≠ b
theorem Inv.fpOk {X : Cx} {pins : List (Addr × Obj)} {σ : St} {H H' : Hp} {s : Shared} {b : Addr} (I : Inv X pins σ H s) (hb : s.heap.objs.size ≤ b) (hn : H' b = none) : FpOk X pins H' b := by
 refine ⟨hn, Nat.ne_of_gt (Nat.lt_of_lt_of_le I.lt hb), I.nofs hb, .inr (Nat.le_trans I.sz hb), fun x c e z => ?_, fun p hp z => ?_⟩
 · obtain ⟨v, q⟩ := I.cell x c e
   exact absurd (Nat.lt_of_lt_of_le q.lt (by rw [z]; exact hb)) (Nat.lt_irrefl _)
 · exact absurd (Nat.lt_of_lt_of_le (Heap.lt_size (I.pin p hp).1) (by rw [z]; exact hb)) (Nat.lt_irrefl _)
theorem Inv.hand {X : Cx} {pins : List (Addr × Obj)} {σ : St} {H : Hp} {s : Shared} (I : Inv X pins σ H s) (hc : X.calm = true) : X.A.handled = none ∨ ∃ (e : Addr) (o : Obj) (vs : Array Value), X.A.handled = some (.ref e) ∧ s.heap.get? e = some o ∧ H e = none ∧ o.data = .fields vs ∧ vs[2]? = some .none := by
 rcases I.ok.hd hc with d | ⟨e, o, vs, d1, d2, d3, ⟨z1, z2, z3, z4⟩ | z⟩
 · exact .inl d
 · exact .inr ⟨e, o, vs, d1, I.base.keep e o z1 z2 z3 z4, I.base.free e o z1 z2 z4, d2, d3⟩
 · obtain ⟨y1, y2, _⟩ := I.pin _ (List.mem_append_left _ z)
   exact .inr ⟨e, o, vs, d1, y1, y2, d2, d3⟩
theorem Inv.handAt {X : Cx} {pins : List (Addr × Obj)} {σ : St} {H : Hp} {s : Shared} (I : Inv X pins σ H s) (hc : X.calm = true) : HandAt X.A s.heap := by
 rcases I.hand hc with d | ⟨e, o, vs, d1, d2, _, d3, d4⟩
 · exact .inl d
 · exact .inr ⟨e, o, vs, d1, d2, d3, d4⟩
theorem Inv.handFp {X : Cx} {pins : List (Addr × Obj)} {σ : St} {H : Hp} {s : Shared} {b : Addr} (I : Inv X pins σ H s) (hc : X.calm = true) (hf : FpOk X pins H b) : X.A.handled ≠ some (.ref b) := fun z => by
 obtain ⟨f0, f1, f2, f3, f4, f5⟩ := hf
 rcases I.ok.hd hc with d | ⟨e, o, vs, d1, d2, d3, ⟨z1, z2, z3, z4⟩ | y⟩
 · rw [d] at z; cases z
 · rw [d1] at z; injection z with z; injection z with z
   rcases f3 with f3 | f3
   · rw [← z] at f3; exact z4 f3
   · rw [← z] at f3; exact absurd (Heap.lt_size z1) (Nat.not_lt.mpr f3)
 · rw [d1] at z; injection z with z; injection z with z
   exact f5 _ (List.mem_append_left _ y) z
structure Turn (P : Program) (w : World) (K : PySem.W.Frag) (tg : Expr) (J : It) (fp : List Addr) (it : Addr) (tn : Nat → Heap → Prop) : Prop where
 mem : it ∈ fp
 obj : ∀ i h, tn i h → ∀ b ∈ fp, ∃ o, h.get? b = some o ∧ ∀ v, o.data ≠ .cell v
 keep : ∀ i h h', tn i h → (∀ b ∈ fp, ∀ o, h.get? b = some o → h'.get? b = some o) → tn i h'
 item : ∀ (X : Cx), X.prog = P → X.w = w → X.K = K → X.calm = true → ∀ (i : Nat) (pins : List (Addr × Obj)) (s : Shared) (σ : St) (H : Hp) (E : Value → Shared → Prop), Inv X pins σ H s → (∀ b ∈ fp, FpOk X pins H b) → tn i s.heap → J.go i H →
  wpAny (model P w) X.A (pyNext (.ref it)) (fun r s1 => ∃ u, r = some u ∧
   wpAny (model P w) X.A (letOwnedTupleGo tg (.ref it) u) (fun _ s2 => ∃ x H', Inv X pins σ H' s2 ∧ RelV x u ∧ J.yld i H x H' ∧ tn (i + 1) s2.heap ∧ ∀ b ∈ fp, H' b = none) E s1) E s
 done : ∀ (X : Cx), X.prog = P → X.w = w → X.K = K → X.calm = true → ∀ (i : Nat) (pins : List (Addr × Obj)) (s : Shared) (σ : St) (H : Hp) (E : Value → Shared → Prop), Inv X pins σ H s → (∀ b ∈ fp, FpOk X pins H b) → tn i s.heap → J.stop i H →
  wpAny (model P w) X.A (pyNext (.ref it)) (fun r s1 => r = none ∧ Inv X pins σ H s1) E s
 self : ∀ (A : Around) (i : Nat) (s : Shared) (Q : Value → Shared → Prop) (E : Value → Shared → Prop), tn i s.heap → Q (.ref it) s → wpAny (model P w) A (pyIter (.ref it)) Q E s
abbrev TI := St → Hp → (It → Hp → Prop) → Prop
def PIE (X : Cx) (pins : List (Addr × Obj)) (σ : St) (tg : Expr) (R : It → Hp → Prop) (itv : Value) (s2 : Shared) : Prop :=
 ∃ (it : Addr) (fp : List Addr) (tn : Nat → Heap → Prop) (J : It) (H' : Hp), itv = .ref it ∧ Inv X pins σ H' s2 ∧ Turn X.prog X.w X.K tg J fp it tn ∧ tn 0 s2.heap ∧ (∀ b ∈ fp, FpOk X pins H' b) ∧ R J H'
def PI (X : Cx) (tg iter : Expr) (wi : TI) : Prop :=
 ∀ (pins : List (Addr × Obj)) (s : Shared) (σ : St) (H : Hp) (R : It → Hp → Prop), Inv X pins σ H s → wi σ H R →
  wpAny (model X.prog X.w) X.A (eval iter X.env) (fun v s1 => wpAny (model X.prog X.w) X.A (pyIter v) (PIE X pins σ tg R) X.xe s1) X.xe s
theorem go_of {M : Model} {A : Around} {E : Value → Shared → Prop} {s : Shared} {tg : Expr} {it : Addr} {u : Value} {o : Obj} {n : String} {vs : Array Value} {Q : Unit → Shared → Prop} (ho : s.heap.get? it = some o) (hc : o.cls = .type n) (hd : o.data = .fields vs)
 (hn : ["enumerate", "zip", "dict_itemiterator", "dict_reverseitemiterator", "odict_iterator", "itertools.zip_longest", "itertools.pairwise"].contains n = false) (hQ : Q () s) : wpAny M A (letOwnedTupleGo tg (.ref it) u) Q E s := by
 unfold letOwnedTupleGo
 cases tg <;> first
  | exact wpAny_pure hQ
  | (cases u <;> first
      | exact wpAny_pure hQ
      | (refine wpAny_bind (wpAny_load ho ?_)
         rw [hc, hd]
         show wpAny M A (if (["enumerate", "zip", "dict_itemiterator", "dict_reverseitemiterator", "odict_iterator", "itertools.zip_longest", "itertools.pairwise"].contains n && vs[0]? == some (rawInt _)) = true then _ else _) Q E s
         rw [if_neg (by intro h; rw [hn, Bool.false_and] at h; cases h)]
         exact wpAny_pure hQ))
def Itl (K : PySem.W.Frag) (a : Addr) : It :=
 ⟨fun i H => ∃ xs x, SqL K H a xs ∧ xs[i]? = some x, fun i H x H' => H' = H ∧ ∀ xs, SqL K H a xs → xs[i]? = some x, fun i H => ∃ xs, SqL K H a xs ∧ xs.length ≤ i⟩
def Itt (K : PySem.W.Frag) (a : Addr) : It :=
 ⟨fun i H => ∃ xs x, SqT K H a xs ∧ xs[i]? = some x, fun i H x H' => H' = H ∧ ∀ xs, SqT K H a xs → xs[i]? = some x, fun i H => ∃ xs, SqT K H a xs ∧ xs.length ≤ i⟩
def Itr (lo : Int) (n : Nat) : It := ⟨fun i _ => i < n, fun i H x H' => H' = H ∧ x = .int (lo + i), fun i _ => n ≤ i⟩
theorem turn_list {P : Program} {w : World} {K : PySem.W.Frag} {tg : Expr} (a it : Addr) : Turn P w K tg (Itl K a) [it] it (fun i h => h.IsListIter it a i) where
 mem := by simp
 obj := fun i h st b hb => by
  have e : b = it := by simpa using hb
  subst e
  obtain ⟨o, e, c, d⟩ := st
  exact ⟨o, e, fun v z => by rw [d] at z; cases z⟩
 keep := fun i h h' st k => st.at fun o e => k it (by simp) o e
 item := by
  intro X hP hw hK hc i pins s σ H E I hf st hg
  subst hP hw hK
  obtain ⟨xs, x, hq, hx⟩ := hg
  obtain ⟨its, rv, p, hz⟩ := I.list hq
  obtain ⟨u, hu, ru⟩ := rv.get hx
  obtain ⟨f0, f1, f2, f3, f4, f5⟩ := hf it (by simp)
  refine wpAny_pyNext_list_item st p.isList (x := u) (by simpa using hu) fun h' st' sb => ?_
  have I1 : Inv X pins σ H { s with heap := h' } := I.turned (t' := s.toks) (fun b o hb e => (sb.2 b hb).trans e) f0 f1 f3 f4 f5
  obtain ⟨o, e, c, d⟩ := id st'
  exact ⟨u, rfl, go_of (s := { s with heap := h' }) e c d (by decide) ⟨x, H, I1, ru, ⟨rfl, fun ys hy => by rw [I.list_inj hy hq]; exact hx⟩, st', fun b hb => (hf b hb).1⟩⟩
 done := by
  intro X hP hw hK hc i pins s σ H E I hf st hg
  subst hP hw hK
  obtain ⟨xs, hq, hx⟩ := hg
  obtain ⟨its, rv, p, hz⟩ := I.list hq
  obtain ⟨f0, f1, f2, f3, f4, f5⟩ := hf it (by simp)
  have hl := rv.length
  exact list_done (I.handAt hc) st p.isList (by simp; omega) (I.handFp hc (hf it (by simp))) fun h' eb => ⟨rfl, I.turned (t' := s.toks) (fun b o hb e => eb b o hb e) f0 f1 f3 f4 f5⟩
 self := fun _ _ _ _ _ st h => wpAny_pyIter_listiter st h
theorem turn_tuple {P : Program} {w : World} {K : PySem.W.Frag} {tg : Expr} (a it : Addr) : Turn P w K tg (Itt K a) [it] it (fun i h => h.IsTupleIter it a i) where
 mem := by simp
 obj := fun i h st b hb => by
  have e : b = it := by simpa using hb
  subst e
  obtain ⟨o, e, c, d⟩ := st
  exact ⟨o, e, fun v z => by rw [d] at z; cases z⟩
 keep := fun i h h' st k => st.at fun o e => k it (by simp) o e
 item := by
  intro X hP hw hK hc i pins s σ H E I hf st hg
  subst hP hw hK
  obtain ⟨xs, x, hq, hx⟩ := hg
  obtain ⟨its, rv, p, hz⟩ := I.tuple hq
  obtain ⟨u, hu, ru⟩ := rv.get hx
  obtain ⟨f0, f1, f2, f3, f4, f5⟩ := hf it (by simp)
  refine wpAny_pyNext_tuple_item st (show s.heap.IsTuple a its.toArray from p) (x := u) (by simpa using hu) fun h' st' sb => ?_
  have I1 : Inv X pins σ H { s with heap := h' } := I.turned (t' := s.toks) (fun b o hb e => (sb.2 b hb).trans e) f0 f1 f3 f4 f5
  obtain ⟨o, e, c, d⟩ := id st'
  exact ⟨u, rfl, go_of (s := { s with heap := h' }) e c d (by decide) ⟨x, H, I1, ru, ⟨rfl, fun ys hy => by rw [I.tuple_inj hy hq]; exact hx⟩, st', fun b hb => (hf b hb).1⟩⟩
 done := by
  intro X hP hw hK hc i pins s σ H E I hf st hg
  subst hP hw hK
  obtain ⟨xs, hq, hx⟩ := hg
  obtain ⟨its, rv, p, hz⟩ := I.tuple hq
  obtain ⟨f0, f1, f2, f3, f4, f5⟩ := hf it (by simp)
  have hl := rv.length
  exact tuple_done (I.handAt hc) st (show s.heap.IsTuple a its.toArray from p) (by simp; omega) (I.handFp hc (hf it (by simp))) fun h' eb => ⟨rfl, I.turned (t' := s.toks) (fun b o hb e => eb b o hb e) f0 f1 f3 f4 f5⟩
 self := fun _ _ _ _ _ st h => wpAny_pyIter_tupleiter st h
theorem turn_range {P : Program} {w : World} {K : PySem.W.Frag} {tg : Expr} (it : Addr) (lo : Int) (n : Nat) : Turn P w K tg (Itr lo n) [it] it (fun i h => IsRangeIter h it (lo + (i : Nat) * 1) ((n : Int) - (i : Nat)) 1) where
 mem := by simp
 obj := fun i h st b hb => by
  have e : b = it := by simpa using hb
  subst e
  exact ⟨_, st, fun v z => by
   have z' : Data.fields _ = Data.cell v := z
   cases z'⟩
 keep := fun i h h' st k => k it (by simp) _ st
 item := by
  intro X hP hw hK hc i pins s σ H E I hf st hg
  subst hP hw hK
  obtain ⟨f0, f1, f2, f3, f4, f5⟩ := hf it (by simp)
  refine wpAny_pyNext_range_item st (by have : i < n := hg; omega) fun h' hit' sb => ?_
  have st' : IsRangeIter h' it (lo + ((i + 1 : Nat) : Int) * 1) ((n : Int) - ((i + 1 : Nat) : Int)) 1 := by
   have e1 : lo + ((i + 1 : Nat) : Int) * 1 = lo + (i : Int) * 1 + 1 := by omega
   have e2 : (n : Int) - ((i + 1 : Nat) : Int) = (n : Int) - (i : Int) - 1 := by omega
   rw [e1, e2]; exact hit'
  have I1 : Inv X pins σ H { s with heap := h', toks := s.toks + 1 } := I.turned (t' := s.toks + 1) (fun b o hb e => (sb.2 b hb).trans e) f0 f1 f3 f4 f5
  refine ⟨_, rfl, go_of (s := { s with heap := h', toks := s.toks + 1 }) (n := "range_iterator") st' rfl rfl (by decide) ⟨.int (lo + i), H, I1, ⟨s.toks, ?_⟩, ⟨rfl, rfl⟩, st', fun b hb => (hf b hb).1⟩⟩
  rw [Int.mul_one]
 done := by
  intro X hP hw hK hc i pins s σ H E I hf st hg
  subst hP hw hK
  obtain ⟨f0, f1, f2, f3, f4, f5⟩ := hf it (by simp)
  exact range_done (I.handAt hc) st (by have : n ≤ i := hg; omega) fun h' eb => ⟨rfl, I.turned (t' := s.toks) (fun b o hb e => eb b o hb e) f0 f1 f3 f4 f5⟩
 self := fun _ _ _ _ _ st h => wpAny_pyIter_rangeiter st h
end L2
namespace L2
open PySem PySem.Spec PyProof.Rows
section
variable {X : Cx} {tg : Expr}
theorem range_it {pins : List (Addr × Obj)} {σ : St} {H : Hp} {s : Shared} {R : It → Hp → Prop} {E : Value → Shared → Prop} {lo hi : Int} {t u v : Tok} {tk : Nat} (I : Inv X pins σ H s) (h1 : -(2 ^ 62) ≤ lo) (h2 : lo < 2 ^ 62) (h3 : -(2 ^ 62) ≤ hi) (h4 : hi < 2 ^ 62)
 (q : R (Itr lo (hi - lo).toNat) H) : wpAny (model X.prog X.w) X.A (pyIter (.ref s.heap.objs.size)) (PIE X pins σ tg R) E { s with heap := s.heap.push { cls := .type "range", data := .fields #[.int lo t, .int hi u, .int 1 v] }, toks := tk } := by
 refine wpAny_pyIter_range (IsRange.new ..) (small_one h1 h2 h3 h4) ?_
 have I1 : Inv X pins σ H { s with heap := s.heap.push { cls := .type "range", data := .fields #[.int lo t, .int hi u, .int 1 v] }, toks := tk } := I.kept fun b o e => Heap.get?_push_of_some _ e
 refine ⟨(s.heap.push { cls := .type "range", data := .fields #[.int lo t, .int hi u, .int 1 v] }).objs.size, [(s.heap.push { cls := .type "range", data := .fields #[.int lo t, .int hi u, .int 1 v] }).objs.size], _, _, H, rfl,
  I1.kept (t' := tk) fun b o e => Heap.get?_push_of_some _ e, turn_range _ lo (hi - lo).toNat, ?_, fun b hb => ?_, q⟩
 · have e1 : lo + ((0 : Nat) : Int) * 1 = lo := by simp
   have e2 : (((hi - lo).toNat : Nat) : Int) - ((0 : Nat) : Int) = Builtin.Range.rangeSize lo hi 1 := by rw [rangeSize_one]; split <;> omega
   show IsRangeIter _ _ (lo + ((0 : Nat) : Int) * 1) ((((hi - lo).toNat : Nat) : Int) - ((0 : Nat) : Int)) 1
   rw [e1, e2]
   exact Heap.get?_push_size _ rfl
 · have e : b = (s.heap.push { cls := .type "range", data := .fields #[.int lo t, .int hi u, .int 1 v] }).objs.size := by simpa using hb
   subst e
   exact I1.fpOk (Nat.le_refl _) (I1.hok.fresh (Nat.le_refl _))
def iRng1 (ta : TA) : TI := fun σ H R => ta σ H fun vs H1 => ∃ j : Int, vs = [.int j] ∧ -(2 ^ 62) ≤ j ∧ j < 2 ^ 62 ∧ R (Itr 0 j.toNat) H1
def iRng2 (ta : TA) : TI := fun σ H R => ta σ H fun vs H1 => ∃ i j : Int, vs = [.int i, .int j] ∧ (-(2 ^ 62) ≤ i ∧ i < 2 ^ 62 ∧ -(2 ^ 62) ≤ j ∧ j < 2 ^ 62) ∧ R (Itr i (j - i).toNat) H1
theorem pi_range1 {a : Expr} {ta : TA} {p pos : Pos} (hg : Gl X "range") (hm : X.mg "range" = none) (ha : PA X [a] ta) (hs : starEach [a] X.env = [(false, eval a X.env)] := by rfl) : PI X tg (.Call (.Name "range" p) [a] [] pos) (iRng1 ta) := by
 intro pins s σ H R I h
 refine Call_ (ld_blt I hg hm boot_range (PyProof.Rows.callWith_type1 (thn (ha pos pins s σ H _ I h) fun us s1 ⟨vs, H1, I1, r1, q1⟩ => ?_) hs rfl))
 obtain ⟨j, e, q1, q2, q⟩ := q1
 subst e
 cases r1 with
 | cons r rr =>
  cases rr
  obtain ⟨t, rfl⟩ := r
  exact call_range_1 (range_it I1 (by omega) (by omega) q1 q2 (by simpa using q))
def tFor (wi : TI) (g : TG) (tb : TS) : TS := fun D σ H => wi σ H fun J H1 => ∃ W : Nat → Nat → St → Hp → Prop, (∃ m, W 0 m σ H1) ∧ ∀ i m σ H, W i m σ H →
 (J.stop i H ∧ D.nx σ H) ∨ (J.go i H ∧ ∃ N : St → Hp → Prop, (∀ σ' H', N σ' H' → ∃ m', m' < m ∧ W (i + 1) m' σ' H') ∧ ∀ x H', J.yld i H x H' → g x σ H' fun σ2 H2 => tb { D with nx := N, ct := N, bk := D.nx } σ2 H2)
def pinsAt (fp : List Addr) (h : Heap) : List (Addr × Obj) := fp.filterMap fun b => (h.get? b).map fun o => (b, o)
theorem mem_pinsAt {fp : List Addr} {h : Heap} {b : Addr} {o : Obj} (hb : b ∈ fp) (e : h.get? b = some o) : (b, o) ∈ pinsAt fp h := List.mem_filterMap.mpr ⟨b, hb, by rw [e]; rfl⟩
theorem of_pinsAt {fp : List Addr} {h : Heap} {p : Addr × Obj} (hp : p ∈ pinsAt fp h) : p.1 ∈ fp ∧ h.get? p.1 = some p.2 := by
 obtain ⟨b, hb, e⟩ := List.mem_filterMap.mp hp
 cases q : h.get? b with
 | none => rw [q] at e; cases e
 | some o =>
  rw [q] at e
  have e' : (b, o) = p := Option.some.inj e
  subst e'
  exact ⟨hb, q⟩
theorem Inv.pinned {pins : List (Addr × Obj)} {σ : St} {H : Hp} {s : Shared} {fp : List Addr} (I : Inv X pins σ H s) (hf : ∀ b ∈ fp, FpOk X pins H b) (ho : ∀ b ∈ fp, ∃ o, s.heap.get? b = some o ∧ ∀ v, o.data ≠ .cell v) : Inv X (pins ++ pinsAt fp s.heap) σ H s :=
 I.pins_of fun p hp => (List.mem_append.mp hp).elim (fun z => I.pin p (List.mem_append_right _ z)) fun z => by
  obtain ⟨hb, e⟩ := of_pinsAt z
  obtain ⟨f0, f1, f2, _⟩ := hf p.1 hb
  obtain ⟨o, e', d⟩ := ho p.1 hb
  rw [e] at e'; cases e'
  exact ⟨e, f0, f1, f2, d⟩
theorem Inv.unpinned {pins pl : List (Addr × Obj)} {σ : St} {H : Hp} {s : Shared} (I : Inv X (pins ++ pl) σ H s) : Inv X pins σ H s := I.pins_of fun p hp => I.pin p (List.mem_append_right _ (List.mem_append_left _ hp))
theorem ps_for {iter : Expr} {body : List Stmt} {wi : TI} {g : TG} {tb : TS} {pos : Pos} (hp : PassesOwn (model X.prog X.w) X.A X.env X.xe) (hc : X.calm = true) (hi : PI X tg iter wi) (hg : PG X tg g) (hb : PSs X body tb)
 (hs : ∀ x, foldedSetIterable iter X.env x = pure x := by intro _; rfl) : PS X (.For tg iter body [] pos) (tFor wi g tb) := by
 intro pins s σ H D I h
 refine wpAny_For (thn (hi pins s σ H _ I h) fun v s1 h1 => thn h1 fun itv s2 h2 => ?_) hs
 obtain ⟨it, fp, tn, J, H2, e, I2, T, st2, f2, W, ⟨m0, w0⟩, turn⟩ := h2
 subst e
 -- what stays true of the iterator's objects through the loop
 have stat : ∀ {H' : Hp}, (∀ b ∈ fp, H' b = none) → ∀ b ∈ fp, FpOk X pins H' b := fun hn b hb => ⟨hn b hb, (f2 b hb).2⟩
 refine codeAny_forLoop_any (fun n s' => ∃ i σ' H', Inv X pins σ' H' s' ∧ tn i s'.heap ∧ (∀ b ∈ fp, H' b = none) ∧ W i n σ' H') ?_ m0 ⟨0, σ, H2, I2, st2, fun b hb => (f2 b hb).1, w0⟩
 rintro n s3 ⟨i, σ3, H3, I3, st3, fr3, w3⟩
 rcases turn i n σ3 H3 w3 with ⟨stop, qn⟩ | ⟨go, N, hN, step⟩
 · refine wpAny_passesOwn hp (thn (T.done X rfl rfl rfl hc i pins s3 σ3 H3 X.xe I3 (stat fr3) st3 stop) fun r s4 ⟨hr, I4⟩ => ?_)
   subst hr
   exact wpAny_execs_nil ⟨σ3, H3, I4, qn⟩
 · refine wpAny_passesOwn hp (thn (T.item X rfl rfl rfl hc i pins s3 σ3 H3 X.xe I3 (stat fr3) st3 go) fun r s4 ⟨u, hr, h4⟩ => ?_)
   subst hr
   refine wpAny_passesOwn hp (thn h4 fun _ s5 ⟨x, H5, I5, r5, y5, st5, fr5⟩ => ?_)
   have I5' := I5.pinned (stat fr5) (T.obj _ _ st5)
   refine wpAny_passesOwn hp (thn (hg _ s5 σ3 H5 x u _ I5' r5 (step x H5 y5)) fun _ s6 ⟨σ6, H6, I6, q6⟩ => ?_)
   refine wpAny_passesOwn hp (thn (hb _ s6 σ6 H6 _ I6 q6) fun f s7 q7 => ?_)
   have again : ∀ {σ7 : St} {H7 : Hp}, Inv X (pins ++ pinsAt fp s5.heap) σ7 H7 s7 → N σ7 H7 → ∃ m, m < n ∧ ∃ i σ' H', Inv X pins σ' H' s7 ∧ tn i s7.heap ∧ (∀ b ∈ fp, H' b = none) ∧ W i m σ' H' := fun {σ7 H7} I7 n7 => by
    obtain ⟨m', hm, w7⟩ := hN σ7 H7 n7
    refine ⟨m', hm, i + 1, σ7, H7, I7.unpinned, T.keep _ _ _ st5 fun b hb o e => (I7.pin (b, o) (List.mem_append_right _ (List.mem_append_right _ (mem_pinsAt hb e)))).1, fun b hb => ?_, w7⟩
    obtain ⟨o, e, d⟩ := T.obj _ _ st5 b hb
    exact (I7.pin (b, o) (List.mem_append_right _ (List.mem_append_right _ (mem_pinsAt hb e)))).2.1
   cases f with
   | next => obtain ⟨σ7, H7, I7, n7⟩ := q7; exact again I7 n7
   | cont => obtain ⟨σ7, H7, I7, n7⟩ := q7; exact again I7 n7
   | brk => obtain ⟨σ7, H7, I7, q7⟩ := q7; exact ⟨σ7, H7, I7.unpinned, q7⟩
   | ret v => obtain ⟨x7, σ7, H7, I7, r7, q7⟩ := q7; exact ⟨x7, σ7, H7, I7.unpinned, r7, q7⟩
end
theorem for_list {K : PySem.W.Frag} {a : Addr} {xs : List V} {g : TG} {tb : TS} {D : Ends} {σ : St} {H : Hp} (Pv : Nat → St → Hp → Prop) (h0 : Pv 0 σ H) (hl : ∀ i σ H, i ≤ xs.length → Pv i σ H → SqL K H a xs)
 (hs : ∀ i x σ H, xs[i]? = some x → Pv i σ H → g x σ H fun σ2 H2 => tb { D with nx := Pv (i + 1), ct := Pv (i + 1), bk := D.nx } σ2 H2) (hd : ∀ σ H, Pv xs.length σ H → D.nx σ H) :
 ∃ W : Nat → Nat → St → Hp → Prop, (∃ m, W 0 m σ H) ∧ ∀ i m σ H, W i m σ H →
  ((Itl K a).stop i H ∧ D.nx σ H) ∨ ((Itl K a).go i H ∧ ∃ N : St → Hp → Prop, (∀ σ' H', N σ' H' → ∃ m', m' < m ∧ W (i + 1) m' σ' H') ∧ ∀ x H', (Itl K a).yld i H x H' → g x σ H' fun σ2 H2 => tb { D with nx := N, ct := N, bk := D.nx } σ2 H2) := by
 refine ⟨fun i m σ H => m = xs.length - i ∧ i ≤ xs.length ∧ Pv i σ H, ⟨xs.length, by simp, Nat.zero_le _, h0⟩, ?_⟩
 rintro i m σ H ⟨rfl, hi, p⟩
 have q := hl i σ H hi p
 by_cases hlt : i < xs.length
 · refine .inr ⟨⟨xs, xs[i], q, by simp [hlt]⟩, Pv (i + 1), fun σ' H' p' => ⟨xs.length - (i + 1), by omega, rfl, hlt, p'⟩, fun x H' y => ?_⟩
   obtain ⟨e, y⟩ := y
   subst e
   exact hs i x σ _ (y xs q) p
 · have e : i = xs.length := by omega
   subst e
   exact .inl ⟨⟨xs, q, Nat.le_refl _⟩, hd σ H p⟩
theorem for_tup {K : PySem.W.Frag} {a : Addr} {xs : List V} {g : TG} {tb : TS} {D : Ends} {σ : St} {H : Hp} (Pv : Nat → St → Hp → Prop) (h0 : Pv 0 σ H) (hl : ∀ i σ H, i ≤ xs.length → Pv i σ H → SqT K H a xs)
 (hs : ∀ i x σ H, xs[i]? = some x → Pv i σ H → g x σ H fun σ2 H2 => tb { D with nx := Pv (i + 1), ct := Pv (i + 1), bk := D.nx } σ2 H2) (hd : ∀ σ H, Pv xs.length σ H → D.nx σ H) :
 ∃ W : Nat → Nat → St → Hp → Prop, (∃ m, W 0 m σ H) ∧ ∀ i m σ H, W i m σ H →
  ((Itt K a).stop i H ∧ D.nx σ H) ∨ ((Itt K a).go i H ∧ ∃ N : St → Hp → Prop, (∀ σ' H', N σ' H' → ∃ m', m' < m ∧ W (i + 1) m' σ' H') ∧ ∀ x H', (Itt K a).yld i H x H' → g x σ H' fun σ2 H2 => tb { D with nx := N, ct := N, bk := D.nx } σ2 H2) := by
 refine ⟨fun i m σ H => m = xs.length - i ∧ i ≤ xs.length ∧ Pv i σ H, ⟨xs.length, by simp, Nat.zero_le _, h0⟩, ?_⟩
 rintro i m σ H ⟨rfl, hi, p⟩
 have q := hl i σ H hi p
 by_cases hlt : i < xs.length
 · refine .inr ⟨⟨xs, xs[i], q, by simp [hlt]⟩, Pv (i + 1), fun σ' H' p' => ⟨xs.length - (i + 1), by omega, rfl, hlt, p'⟩, fun x H' y => ?_⟩
   obtain ⟨e, y⟩ := y
   subst e
   exact hs i x σ _ (y xs q) p
 · have e : i = xs.length := by omega
   subst e
   exact .inl ⟨⟨xs, q, Nat.le_refl _⟩, hd σ H p⟩
theorem for_range {lo : Int} {n : Nat} {g : TG} {tb : TS} {D : Ends} {σ : St} {H : Hp} (Pv : Nat → St → Hp → Prop) (h0 : Pv 0 σ H)
 (hs : ∀ i σ H, i < n → Pv i σ H → g (.int (lo + i)) σ H fun σ2 H2 => tb { D with nx := Pv (i + 1), ct := Pv (i + 1), bk := D.nx } σ2 H2) (hd : ∀ σ H, Pv n σ H → D.nx σ H) :
 ∃ W : Nat → Nat → St → Hp → Prop, (∃ m, W 0 m σ H) ∧ ∀ i m σ H, W i m σ H →
  ((Itr lo n).stop i H ∧ D.nx σ H) ∨ ((Itr lo n).go i H ∧ ∃ N : St → Hp → Prop, (∀ σ' H', N σ' H' → ∃ m', m' < m ∧ W (i + 1) m' σ' H') ∧ ∀ x H', (Itr lo n).yld i H x H' → g x σ H' fun σ2 H2 => tb { D with nx := N, ct := N, bk := D.nx } σ2 H2) := by
 refine ⟨fun i m σ H => m = n - i ∧ i ≤ n ∧ Pv i σ H, ⟨n, by simp, Nat.zero_le _, h0⟩, ?_⟩
 rintro i m σ H ⟨rfl, hi, p⟩
 by_cases hlt : i < n
 · refine .inr ⟨hlt, Pv (i + 1), fun σ' H' p' => ⟨n - (i + 1), by omega, rfl, hlt, p'⟩, fun x H' y => ?_⟩
   obtain ⟨e, y⟩ := y
   subst e y
   exact hs i σ _ hlt p
 · have e : i = n := by omega
   subst e
   exact .inl ⟨Nat.le_refl _, hd σ H p⟩
end L2
namespace L2
open PySem PySem.Spec PyProof.Rows
abbrev R2 := V → V → Hp → VK → Prop
def OpR (X : Cx) (f : Value → Value → Sem Value) (r : R2) : Prop :=
 ∀ (pins : List (Addr × Obj)) (s : Shared) (σ : St) (H : Hp) (x y : V) (v u : Value) (Q : VK), Inv X pins σ H s → RelV x v → RelV y u → r x y H Q →
  wpAny (model X.prog X.w) X.A (f v u) (EP X pins σ Q) X.xe s
def UnR (X : Cx) (f : Value → Sem Value) (r : V → Hp → VK → Prop) : Prop :=
 ∀ (pins : List (Addr × Obj)) (s : Shared) (σ : St) (H : Hp) (x : V) (v : Value) (Q : VK), Inv X pins σ H s → RelV x v → r x H Q →
  wpAny (model X.prog X.w) X.A (f v) (EP X pins σ Q) X.xe s
def CallR (X : Cx) (f : Value) (r : List V → Hp → VK → Prop) : Prop :=
 ∀ (pins : List (Addr × Obj)) (s : Shared) (σ : St) (H : Hp) (xs : List V) (us : List Value) (Q : VK), Inv X pins σ H s → Vals xs us → r xs H Q →
  wpAny (model X.prog X.w) X.A (call f us) (EP X pins σ Q) X.xe s
def tOp (r : R2) (ta tb : TE) : TE := fun σ H Q => ta σ H fun x H1 => tb σ H1 fun y H2 => r x y H2 Q
def tUn (r : V → Hp → VK → Prop) (ta : TE) : TE := fun σ H Q => ta σ H fun x H1 => r x H1 Q
def rI (C : Int → Int → Prop) (g : Int → Int → V) : R2 := fun x y H Q => ∃ i j, x = .int i ∧ y = .int j ∧ C i j ∧ Q (g i j) H
def rI0 (g : Int → Int → V) : R2 := fun x y H Q => ∃ i j, x = .int i ∧ y = .int j ∧ Q (g i j) H
def rU (g : Int → V) : V → Hp → VK → Prop := fun x H Q => ∃ i, x = .int i ∧ Q (g i) H
section
variable {X : Cx} {a b c : Expr} {ta tb tc : TE} {pos : Pos}
theorem binT (ha : PE X a ta) (hb : PE X b tb) {pins : List (Addr × Obj)} {s : Shared} {σ : St} {H : Hp} {R : V → V → Hp → Prop} (I : Inv X pins σ H s)
 (h : ta σ H fun x H1 => tb σ H1 fun y H2 => R x y H2) {Q : Value → Shared → Prop} {f : Value → Value → Sem Value}
 (hf : ∀ v u s2 x y H2, Inv X pins σ H2 s2 → RelV x v → RelV y u → R x y H2 → wpAny (model X.prog X.w) X.A (f v u) Q X.xe s2) :
 wpAny (model X.prog X.w) X.A (eval a X.env) (fun v s₁ => wpAny (model X.prog X.w) X.A (eval b X.env) (fun u s₂ => wpAny (model X.prog X.w) X.A (f v u) Q X.xe s₂) X.xe s₁) X.xe s := by
 refine thn (ha pins s σ H _ I h) fun v s1 ⟨x, H1, I1, r1, q1⟩ => ?_
 refine thn (hb pins s1 σ H1 _ I1 q1) fun u s2 ⟨y, H2, I2, r2, q2⟩ => ?_
 exact hf v u s2 x y H2 I2 r1 r2 q2
theorem pe_op {op : Operator} {r : R2} (ho : OpR X (binaryOp op) r) (ha : PE X a ta) (hb : PE X b tb) : PE X (.BinOp a op b pos) (tOp r ta tb) := by
 intro pins s σ H Q I h
 exact wpAny_BinOp (binT ha hb I h fun v u s2 x y H2 I2 rx ry q => ho pins s2 σ H2 x y v u Q I2 rx ry q)
theorem opI {f : Value → Value → Sem Value} {C : Int → Int → Prop} {g : Int → Int → Int}
 (rule : ∀ (i j : Int) (t u : Tok) (s : Shared) (Q : Value → Shared → Prop) (E : Value → Shared → Prop), C i j → Q (.int (g i j) s.toks) { s with toks := s.toks + 1 } → wpAny (model X.prog X.w) X.A (f (.int i t) (.int j u)) Q E s) :
 OpR X f (rI C fun i j => .int (g i j)) := by
 intro pins s σ H x y v u Q I rx ry h
 obtain ⟨i, j, rfl, rfl, hc, q⟩ := h
 obtain ⟨t, rfl⟩ := rx
 obtain ⟨t', rfl⟩ := ry
 exact rule i j t t' s _ _ hc ⟨.int (g i j), H, I.tok _, ⟨_, rfl⟩, q⟩
theorem opI0 {f : Value → Value → Sem Value} {g : Int → Int → Int}
 (rule : ∀ (i j : Int) (t u : Tok) (s : Shared) (Q : Value → Shared → Prop) (E : Value → Shared → Prop), Q (.int (g i j) s.toks) { s with toks := s.toks + 1 } → wpAny (model X.prog X.w) X.A (f (.int i t) (.int j u)) Q E s) :
 OpR X f (rI0 fun i j => .int (g i j)) := by
 intro pins s σ H x y v u Q I rx ry h
 obtain ⟨i, j, rfl, rfl, q⟩ := h
 obtain ⟨t, rfl⟩ := rx
 obtain ⟨t', rfl⟩ := ry
 exact rule i j t t' s _ _ ⟨.int (g i j), H, I.tok _, ⟨_, rfl⟩, q⟩
theorem opB0 {f : Value → Value → Sem Value} {g : Int → Int → Bool}
 (rule : ∀ (i j : Int) (t u : Tok) (s : Shared) (Q : Value → Shared → Prop) (E : Value → Shared → Prop), Q (.bool (g i j)) s → wpAny (model X.prog X.w) X.A (f (.int i t) (.int j u)) Q E s) :
 OpR X f (rI0 fun i j => .bl (g i j)) := by
 intro pins s σ H x y v u Q I rx ry h
 obtain ⟨i, j, rfl, rfl, q⟩ := h
 obtain ⟨t, rfl⟩ := rx
 obtain ⟨t', rfl⟩ := ry
 exact rule i j t t' s _ _ ⟨.bl (g i j), H, I, rfl, q⟩
def CMul (i j : Int) : Prop := (-(2 ^ 64) < i ∧ i < 2 ^ 64) ∨ (-(2 ^ 64) < j ∧ j < 2 ^ 64)
theorem CMul.ok {i j : Int} (h : CMul i j) : IntMulOk i j := by
 rcases h with ⟨h1, h2⟩ | ⟨h1, h2⟩
 · exact .of_left (intBits_le_64 h1 h2)
 · exact .of_right (intBits_le_64 h1 h2)
theorem op_add : OpR X (binaryOp .Add) (rI0 fun i j => .int (i + j)) := opI0 fun _ _ _ _ _ _ _ q => add_int q
theorem op_sub : OpR X (binaryOp .Sub) (rI0 fun i j => .int (i - j)) := opI0 fun _ _ _ _ _ _ _ q => sub_int q
theorem op_mul : OpR X (binaryOp .Mult) (rI CMul fun i j => .int (i * j)) := opI fun _ _ _ _ _ _ _ hc q => mul_int q hc.ok
theorem op_mod : OpR X (binaryOp .Mod) (rI (fun _ j => 0 < j) fun i j => .int (i % j)) := opI fun i j _ _ _ _ _ hc q => by
 have h1 : (0 : Int) < j := hc
 exact mod_int' (by omega) (by rw [Int.fmod_eq_emod_of_nonneg i (by omega)]; exact q)
end
def scal : V → V → Bool
 | .non, .non => true | .non, .int _ => true | .int _, .non => true | .non, .bl _ => true | .bl _, .non => true | .non, .str _ => true | .str _, .non => true
 | .int _, .int _ => true | .bl _, .bl _ => true | .str _, .str _ => true | .byt _, .byt _ => true
 | .int _, .str _ => true | .str _, .int _ => true | .bl _, .str _ => true | .str _, .bl _ => true
 | _, _ => false
def rEq : R2 := fun x y H Q => scal x y = true ∧ Q (.bl (decide (x = y))) H
def rNe : R2 := fun x y H Q => scal x y = true ∧ Q (.bl (!decide (x = y))) H
theorem dec_int {i j : Int} : decide (V.int i = V.int j) = (i == j) := by
 rw [Bool.eq_iff_iff]
 simp
theorem dec_bl {i j : Bool} : decide (V.bl i = V.bl j) = (i == j) := by
 rw [Bool.eq_iff_iff]
 simp
theorem dec_str {i j : Str} : decide (V.str i = V.str j) = (i == j) := by
 rw [Bool.eq_iff_iff]
 simp
theorem dec_byt {i j : Array UInt8} : decide (V.byt i = V.byt j) = (i.toList == j.toList) := by
 rw [Bool.eq_iff_iff]
 cases i
 cases j
 simp
section
variable {X : Cx} {a b c : Expr} {ta tb tc : TE} {pos : Pos}
theorem fin_bl {pins : List (Addr × Obj)} {σ : St} {H : Hp} {s : Shared} {Q : VK} {k k' : Bool} (I : Inv X pins σ H s) (q : Q (.bl k) H) (e : k = k') : EP X pins σ Q (.bool k') s := by
 subst e
 exact ⟨.bl k, H, I, rfl, q⟩
theorem op_eq : OpR X (compareOp .Eq) rEq := by
 intro pins s σ H x y v u Q I rx ry h
 obtain ⟨hs, q⟩ := h
 cases x with
 | non =>
  cases rx
  cases y with
  | non => cases ry; exact PySem.EqNone.eq_none_none (fin_bl I q (by simp))
  | bl j => cases ry; exact PySem.EqNone.eq_none_bool (fin_bl I q (by simp))
  | int j => obtain ⟨t', rfl⟩ := ry; exact PySem.EqNone.eq_none_int (fin_bl I q (by simp))
  | str j => obtain ⟨t', rfl⟩ := ry; exact PySem.EqNone.eq_none_str (fin_bl I q (by simp))
  | _ => exact absurd (show false = true from hs) Bool.false_ne_true
 | bl i =>
  cases rx
  cases y with
  | non => cases ry; exact PySem.EqNone.eq_bool_none (fin_bl I q (by simp))
  | bl j => cases ry; exact eq_bool (fin_bl I q dec_bl)
  | str j => obtain ⟨t', rfl⟩ := ry; exact PySem.EqMixed.eq_bool_str (fin_bl I q (by simp))
  | _ => exact absurd (show false = true from hs) Bool.false_ne_true
 | int i =>
  obtain ⟨t, rfl⟩ := rx
  cases y with
  | non => cases ry; exact PySem.EqNone.eq_int_none (fin_bl I q (by simp))
  | int j => obtain ⟨t', rfl⟩ := ry; exact eq_int (fin_bl I q dec_int)
  | str j => obtain ⟨t', rfl⟩ := ry; exact PySem.EqMixed.eq_int_str (fin_bl I q (by simp))
  | _ => exact absurd (show false = true from hs) Bool.false_ne_true
 | str i =>
  obtain ⟨t, rfl⟩ := rx
  cases y with
  | non => cases ry; exact PySem.EqNone.eq_str_none (fin_bl I q (by simp))
  | bl j => cases ry; exact PySem.EqMixed.eq_str_bool (fin_bl I q (by simp))
  | int j => obtain ⟨t', rfl⟩ := ry; exact PySem.EqMixed.eq_str_int (fin_bl I q (by simp))
  | str j => obtain ⟨t', rfl⟩ := ry; exact eq_str (fin_bl I q dec_str)
  | _ => exact absurd (show false = true from hs) Bool.false_ne_true
 | byt i =>
  obtain ⟨t, rfl⟩ := rx
  cases y with
  | byt j => obtain ⟨t', rfl⟩ := ry; exact PySem.W.eq_bytes (fin_bl I q dec_byt)
  | _ => exact absurd (show false = true from hs) Bool.false_ne_true
 | _ => cases y <;> exact absurd (show false = true from hs) Bool.false_ne_true
theorem op_ne : OpR X (compareOp .NotEq) rNe := by
 intro pins s σ H x y v u Q I rx ry h
 obtain ⟨hs, q⟩ := h
 cases x with
 | non =>
  cases rx
  cases y with
  | non => cases ry; exact PySem.EqNone.ne_none_none (fin_bl I q (by simp))
  | bl j => cases ry; exact PySem.EqNone.ne_none_bool (fin_bl I q (by simp))
  | int j => obtain ⟨t', rfl⟩ := ry; exact PySem.EqNone.ne_none_int (fin_bl I q (by simp))
  | str j => obtain ⟨t', rfl⟩ := ry; exact PySem.EqNone.ne_none_str (fin_bl I q (by simp))
  | _ => exact absurd (show false = true from hs) Bool.false_ne_true
 | bl i =>
  cases rx
  cases y with
  | non => cases ry; exact PySem.EqNone.ne_bool_none (fin_bl I q (by simp))
  | bl j => cases ry; exact ne_bool (fin_bl I q (congrArg not dec_bl))
  | str j => obtain ⟨t', rfl⟩ := ry; exact PySem.EqMixed.ne_bool_str (fin_bl I q (by simp))
  | _ => exact absurd (show false = true from hs) Bool.false_ne_true
 | int i =>
  obtain ⟨t, rfl⟩ := rx
  cases y with
  | non => cases ry; exact PySem.EqNone.ne_int_none (fin_bl I q (by simp))
  | int j => obtain ⟨t', rfl⟩ := ry; exact ne_int (fin_bl I q (congrArg not dec_int))
  | str j => obtain ⟨t', rfl⟩ := ry; exact PySem.EqMixed.ne_int_str (fin_bl I q (by simp))
  | _ => exact absurd (show false = true from hs) Bool.false_ne_true
 | str i =>
  obtain ⟨t, rfl⟩ := rx
  cases y with
  | non => cases ry; exact PySem.EqNone.ne_str_none (fin_bl I q (by simp))
  | bl j => cases ry; exact PySem.EqMixed.ne_str_bool (fin_bl I q (by simp))
  | int j => obtain ⟨t', rfl⟩ := ry; exact PySem.EqMixed.ne_str_int (fin_bl I q (by simp))
  | str j => obtain ⟨t', rfl⟩ := ry; exact ne_str (fin_bl I q (congrArg not dec_str))
  | _ => exact absurd (show false = true from hs) Bool.false_ne_true
 | byt i =>
  obtain ⟨t, rfl⟩ := rx
  cases y with
  | byt j => obtain ⟨t', rfl⟩ := ry; exact PySem.W.ne_bytes (fin_bl I q (congrArg not dec_byt))
  | _ => exact absurd (show false = true from hs) Bool.false_ne_true
 | _ => cases y <;> exact absurd (show false = true from hs) Bool.false_ne_true
theorem op_lt : OpR X (compareOp .Lt) (rI0 fun i j => .bl (decide (i < j))) := opB0 fun _ _ _ _ _ _ _ q => lt_int q
theorem op_gt : OpR X (compareOp .Gt) (rI0 fun i j => .bl (decide (j < i))) := opB0 fun _ _ _ _ _ _ _ q => gt_int q
theorem op_in_str : OpR X (compareOp .In) (fun x y H Q => ∃ i j, x = .str i ∧ y = .str j ∧ Q (.bl (!(Builtin.Str.occurrences j i 0 j.length 1).isEmpty)) H) := by
 intro pins s σ H x y v u Q I rx ry h
 obtain ⟨i, j, rfl, rfl, q⟩ := h
 obtain ⟨t, rfl⟩ := rx
 obtain ⟨t', rfl⟩ := ry
 exact in_str (fin_bl I q rfl)
theorem nomark (b : Expr) {op : CmpOp} (h : op ≠ .In := by decide) (h2 : op ≠ .NotIn := by decide) : behindInMarks op b = false := by
 have e1 : (op == CmpOp.In) = false := by cases op <;> first | rfl | exact absurd rfl h
 have e2 : (op == CmpOp.NotIn) = false := by cases op <;> first | rfl | exact absurd rfl h2
 cases b <;> simp [behindInMarks, e1, e2]
theorem pe_cmpR {op : CmpOp} {r : R2} (ho : OpR X (compareOp op) r) (ha : PE X a ta) (hb : PE X b tb) (hm : behindInMarks op b = false) : PE X (.Compare a [op] [b] pos) (tOp r ta tb) := by
 intro pins s σ H Q I h
 exact wpAny_Compare1 (binT ha hb I h fun v u s2 x y H2 I2 rx ry q => ho pins s2 σ H2 x y v u Q I2 rx ry q) hm
def tTest (t : TE) : TT := fun σ H Q => t σ H fun x H' => ∃ k, x = .bl k ∧ Q k H'
theorem pt_cmpR {op : CmpOp} {r : R2} (ho : OpR X (compareOp op) r) (ha : PE X a ta) (hb : PE X b tb) (hm : behindInMarks op b = false) : PT X (.Compare a [op] [b] pos) (tTest (tOp r ta tb)) := by
 intro pins s σ H Q I h
 refine wpAny_isTrue_Compare1 (thn (ha pins s σ H _ I h) fun v s1 ⟨x, H1, I1, r1, q1⟩ => thn (hb pins s1 σ H1 _ I1 q1) fun u s2 ⟨y, H2, I2, r2, q2⟩ =>
  thn (ho pins s2 σ H2 x y v u _ I2 r1 r2 q2) fun c s3 ⟨z, H3, I3, r3, k, e, q3⟩ => ?_) hm
 subst e
 cases r3
 exact wpAny_truthy_bool ⟨H3, I3, q3⟩
def tChain (r r' : R2) (ta tb tc : TE) : TE := fun σ H Q => ta σ H fun x H1 => tb σ H1 fun y H2 => r x y H2 fun z H3 => ∃ k, z = .bl k ∧
 (if k = true then tc σ H3 fun w' H4 => r' y w' H4 Q else Q (.bl false) H3)
theorem line63 : (sizeLine : Nat) < 2 ^ 63 := by rw [sizeLine_eq]; decide
theorem op_add_str : OpR X (binaryOp .Add) (fun x y H Q => ∃ i j, x = .str i ∧ y = .str j ∧ i.length + j.length ≤ sizeLine ∧ Q (.str (i ++ j)) H) := by
 intro pins s σ H x y v u Q I rx ry h
 obtain ⟨i, j, rfl, rfl, hz, q⟩ := h
 obtain ⟨t, rfl⟩ := rx
 obtain ⟨t', rfl⟩ := ry
 exact add_str (fun t' tk => ⟨.str (i ++ j), H, I.tok _, ⟨_, rfl⟩, q⟩) hz
theorem vals1 {x : V} {us : List Value} (r : Vals [x] us) : ∃ u, us = [u] ∧ RelV x u := by
 cases r with
 | cons r1 r2 => cases r2; exact ⟨_, rfl, r1⟩
theorem vals2 {x y : V} {us : List Value} (r : Vals [x, y] us) : ∃ u w', us = [u, w'] ∧ RelV x u ∧ RelV y w' := by
 cases r with
 | cons r1 r2 =>
  cases r2 with
  | cons r3 r4 => cases r4; exact ⟨_, _, rfl, r1, r3⟩
theorem call_str_int : CallR X (.type "str") (fun xs H Q => ∃ i, xs = [.int i] ∧ i.natAbs.log2 < 1920 ∧ Q (.str (toString i)) H) := by
 intro pins s σ H xs us Q I r h
 obtain ⟨i, rfl, hz, q⟩ := h
 obtain ⟨u, rfl, t, rfl⟩ := vals1 r
 exact PySem.P.str_of_int hz ⟨.str _, H, I.tok _, ⟨_, rfl⟩, q⟩
end
end L2
namespace L2
open PySem PySem.Spec PyProof.Rows
structure ObjM (h : Heap) (x dx C : Addr) (mA : Str → Option Value) : Prop where
 obj : h.get? x = some (PySem.W.instObj C dx)
 ns : h.Ns1 dx mA
 ne : dx ≠ x
theorem lookIn_ns {h : Heap} {dx : Addr} {mA : Str → Option Value} (n : h.Ns1 dx mA) : ∃ od, h.get? dx = some od ∧ ∀ name, PySem.W.lookIn name od = some (mA name) := by
 obtain ⟨o, es, ep, ho, hd, hk, _, hm⟩ := n
 refine ⟨o, ho, fun name => ?_⟩
 have e := hm name
 unfold nsFind findBy at e
 rw [← Array.find?_toList] at e
 unfold PySem.W.lookIn
 rw [hd]
 dsimp only
 split
 · rename_i y q
   rw [q] at e
   exact congrArg some e
 · rename_i q
   rw [q] at e
   have a : es.toList.any (·.refKey) = false := by
    rw [List.any_eq_false]
    intro y hy
    obtain ⟨z, t, hkey⟩ := hk y (Array.mem_toList_iff.mp hy)
    simp [DictEntry.refKey, hkey]
   have a' : ¬ es.toList.any (·.refKey) = true := by rw [a]; exact Bool.false_ne_true
   rw [if_neg a']
   exact congrArg some e
theorem ObjM.look {h : Heap} {x dx C : Addr} {mA : Str → Option Value} (I : ObjM h x dx C mA) : ∃ od, PySem.W.InstAt h x (PySem.W.instObj C dx) C (some od) ∧ ∀ name, PySem.W.lookIn name od = some (mA name) :=
 let ⟨od, ho, hl⟩ := lookIn_ns I.ns
 ⟨od, ⟨I.obj, rfl, rfl, ho⟩, hl⟩
section
variable {prog : Program} {w : World} {A : Around} {E : Value → Shared → Prop} {s : Shared} {K : PySem.W.Frag} {x dx C f : Addr} {mA : Str → Option Value} {name : Str} {v : Value}
end
def putF (f : Str) (v : V) : List (Str × V) → List (Str × V)
 | [] => [(f, v)]
 | (g, x) :: r => if g = f then (g, v) :: r else (g, x) :: putF f v r
theorem RelO.some_of {v : V} {o : Option Value} (r : RelO (some v) o) : ∃ u, o = some u ∧ RelV v u := by
 cases o with
 | none => exact (show False from r).elim
 | some u => exact ⟨u, rfl, r⟩
section
variable {P : Program} {w : World} {H H' : Hp} {h h' : Heap} {a C dx : Addr} {fs fs' : List (Str × V)}
theorem ins_get (hok : HOk P w H h) (e : H a = some (.ins C dx fs)) : ∃ mA, ObjM h a dx C mA ∧ (∀ f, RelO (fs.lookup f) (mA f)) ∧ PySem.Within mA (fs.map (·.1)) ∧ fs.length ≤ 1000 ∧ H dx = some (.own a) := by
 obtain ⟨d, z, ne, ob, mA, n, r, q⟩ := (show ObjOk P w H h a (.ins C dx fs) from hok a _ e)
 exact ⟨mA, ⟨ob, n, ne⟩, r, q, z, d⟩
end
structure Cls (K : PySem.W.Frag) (C : Addr) : Prop where
 pg : PySem.W.plainGet K C Str.empty = true
 hd : PySem.W.hasDictIn K C = true
 po : PySem.W.plainOver K C = true
 sa : PySem.W.findIn K (.ref C) "__setattr__" = some (some (.builtin "object.__setattr__"))
theorem Cls.get {K : PySem.W.Frag} {C : Addr} (c : Cls K C) (f : Str) : PySem.W.plainGet K C f = true := c.pg
def NoAttr (K : PySem.W.Frag) (C : Addr) (f : Str) : Prop := PySem.W.findIn K (.ref C) f = some none
structure Con (K : PySem.W.Frag) (C : Addr) (f : Str) (v : V) (u : Value) : Prop where
 at_ : PySem.W.findIn K (.ref C) f = some (some u)
 rel : RelV v u
 get : PySem.W.specialIn K u "__get__" = some none
 cp : PySem.W.copiedNames.contains f = false
structure Meth (K : PySem.W.Frag) (C : Addr) (m : Str) (f : Addr) : Prop where
 at_ : PySem.W.findIn K (.ref C) m = some (some (.ref f))
 fn : PySem.W.isFn K (.ref f) = true
 kp : PySem.W.keepIn K (.ref f) = true
section
variable {X : Cx} {pins : List (Addr × Obj)} {σ : St} {H : Hp} {s : Shared} {a C dx : Addr} {fs : List (Str × V)} {f : Str} {v : V} {A : Around} {E : Value → Shared → Prop}
end
def tFld (K : PySem.W.Frag) (ta : TE) (f : Str) : TE := fun σ H Q => ta σ H fun x H1 => ∃ a C dx fs v, x = .ref a ∧ H1 a = some (.ins C dx fs) ∧ Cls K C ∧ NoAttr K C f ∧ fs.lookup f = some v ∧ Q v H1
def sFld (K : PySem.W.Frag) (ta tv : TE) (f : Str) : TS := fun D σ H => tv σ H fun y H1 => ta σ H1 fun x H2 => ∃ a C dx fs, x = .ref a ∧ H2 a = some (.ins C dx fs) ∧ Cls K C ∧ NoAttr K C f ∧ fs.length < 1000 ∧
 D.nx σ (upd H2 a (.ins C dx (putF f y fs)))
def sFldAug (K : PySem.W.Frag) (ta tv : TE) (rd : V → V → Hp → VK → Prop) (f : Str) : TS := fun D σ H => ta σ H fun x H1 => ∃ a C dx fs v, x = .ref a ∧ H1 a = some (.ins C dx fs) ∧ Cls K C ∧ NoAttr K C f ∧ fs.lookup f = some v ∧
 tv σ H1 fun y H2 => rd v y H2 fun z H3 => ∃ dx' fs', H3 a = some (.ins C dx' fs') ∧ fs'.length < 1000 ∧ D.nx σ (upd H3 a (.ins C dx' (putF f z fs')))
section
variable {X : Cx} {o e value : Expr} {f : Str} {pos pos' tpos : Pos} {ta tv : TE}
def rAdd : V → V → Hp → VK → Prop := fun x y H Q => ∃ i j, x = .int i ∧ y = .int j ∧ Q (.int (i + j)) H
def rSub : V → V → Hp → VK → Prop := fun x y H Q => ∃ i j, x = .int i ∧ y = .int j ∧ Q (.int (i - j)) H
end
section
variable {X : Cx} {pins : List (Addr × Obj)} {σ : St} {H : Hp} {s : Shared} {A : Around} {E : Value → Shared → Prop} {Q : Value → Shared → Prop} {c : Value} {b : Bool}
inductive TyOf (K : PySem.W.Frag) (H : Hp) : V → Value → Prop where
 | non : TyOf K H .non (.type "NoneType")
 | bl (x : Bool) : TyOf K H (.bl x) (.type "bool")
 | int (i : Int) : TyOf K H (.int i) (.type "int")
 | str (x : Str) : TyOf K H (.str x) (.type "str")
 | flt (x : UInt64) : TyOf K H (.flt x) (.type "float")
 | lst {a : Addr} {xs : List V} (e : H a = some (.lst xs)) : TyOf K H (.ref a) (.type "list")
 | frz {a : Addr} {o : Obj} {xs : List V} (e : H a = some (.frz o (.lst xs))) : TyOf K H (.ref a) (.type "list")
 | tup {a : Addr} {xs : List V} (e : H a = some (.tup xs)) : TyOf K H (.ref a) (.type "tuple")
 | dK {a : Addr} {kvs : List (Key × V)} (e : H a = some (.dK kvs)) : TyOf K H (.ref a) (.type "dict")
 | dT {a : Addr} {kvs : List (List Key × V)} (e : H a = some (.dT kvs)) : TyOf K H (.ref a) (.type "dict")
 | ins {a C dx : Addr} {fs : List (Str × V)} (e : H a = some (.ins C dx fs)) (cl : Cls K C) (ha : PySem.W.findIn K (.ref C) "__class__" = some (some (.builtin "object.__class__")))
  (hn : PySem.W.specialIn K (.builtin "object.__class__") "__get__" = some (some (.builtin "getset_descriptor.__get__"))) (htk : PySem.W.takesIn K (.builtin "object.__class__") = some true)
  (hm : PySem.W.mroIn K C (.type "object") = some true) : TyOf K H (.ref a) (.ref C)
theorem isinst_ok {x : V} {u t : Value} (I : Inv X pins σ H s) (rx : RelV x u) (ty : TyOf X.K H x t) (e : PySem.W.kitOne X.K t c = some b) (h : ∀ tk, Q (.bool b) { s with toks := tk }) :
 wpAny (model X.prog X.w) A (call (.builtin "isinstance") [u, c]) Q E s := by
 cases ty with
 | non => cases (show u = Value.none from rx); exact PySem.W.kia_one PySem.W.kitx_none I.kIn True.intro e (fun z => nomatch z) h
 | bl y => cases (show u = Value.bool y from rx); exact PySem.W.kia_one PySem.W.kitx_bool I.kIn True.intro e (fun z => nomatch z) h
 | int i => obtain ⟨t, q⟩ := (show ∃ t, u = Value.int i t from rx); cases q; exact PySem.W.kia_one PySem.W.kitx_int I.kIn True.intro e (fun z => nomatch z) h
 | str y => obtain ⟨t, q⟩ := (show ∃ t, u = Value.str y t from rx); cases q; exact PySem.W.kia_one PySem.W.kitx_str I.kIn True.intro e (fun z => nomatch z) h
 | flt y => obtain ⟨t, q⟩ := (show ∃ t, u = Value.float y t from rx); cases q; exact PySem.W.kia_one PySem.W.kitx_float I.kIn True.intro e (fun z => nomatch z) h
 | @lst a xs ea =>
  cases (show u = Value.ref a from rx)
  obtain ⟨_, _, n, _, h1⟩ := (show ObjOk X.prog X.w H s.heap a (.lst xs) from I.hok a _ ea)
  exact PySem.W.kia_one PySem.W.kitx_list I.kIn ⟨_, h1, rfl⟩ e (fun z => nomatch z) h
 | @frz a ob xs ea =>
  cases (show u = Value.ref a from rx)
  obtain ⟨_, _, _, n, _, h1⟩ := (show ObjOk X.prog X.w H s.heap a (.frz ob (.lst xs)) from I.hok a _ ea)
  exact PySem.W.kia_one PySem.W.kitx_list I.kIn ⟨_, h1, rfl⟩ e (fun z => nomatch z) h
 | @tup a xs ea =>
  cases (show u = Value.ref a from rx)
  obtain ⟨_, _, _, p⟩ := (show ObjOk X.prog X.w H s.heap a (.tup xs) from I.hok a _ ea)
  obtain ⟨o, h1, h2, _⟩ := p
  exact PySem.W.kia_one PySem.W.kitx_tuple I.kIn ⟨o, h1, h2⟩ e (fun z => nomatch z) h
 | @dK a kvs ea =>
  cases (show u = Value.ref a from rx)
  obtain ⟨_, _, vs, _, p⟩ := (show ObjOk X.prog X.w H s.heap a (.dK kvs) from I.hok a _ ea)
  obtain ⟨o, es, ep, h1, h2, _⟩ := p
  exact PySem.W.kia_one PySem.W.kitx_dict I.kIn ⟨o, h1, h2.1⟩ e (fun z => nomatch z) h
 | @dT a kvs ea =>
  cases (show u = Value.ref a from rx)
  obtain ⟨_, _, xs, _, o, es, ep, h1, h2, _⟩ := (show ObjOk X.prog X.w H s.heap a (.dT kvs) from I.hok a _ ea)
  exact PySem.W.kia_one PySem.W.kitx_dict I.kIn ⟨o, h1, h2.1⟩ e (fun z => nomatch z) h
 | @ins a C dx fs ea cl ha hn htk hm =>
  cases (show u = Value.ref a from rx)
  obtain ⟨mA, O, _⟩ := ins_get I.hok ea
  obtain ⟨od, J, _⟩ := O.look
  exact PySem.W.kia_one (PySem.W.kitx_own (cl.get _) cl.hd ha hn htk hm) I.kIn J e (fun z => nomatch z) h
end
end L2
namespace L2
open PySem PySem.Spec PyProof.Rows
structure Room (k : Nat) (A : Around) : Prop where
 hd : 13 ≤ k → A.handled = none
 dp : A.depth + 3 * k + 5 < recursionLimit
 un : A.units + 16 * k + 200 < cLine
theorem Room.mono {j k : Nat} {A : Around} (r : Room k A) (h : j ≤ k) : Room j A := ⟨fun z => r.hd (Nat.le_trans z h), by have := r.dp; omega, by have := r.un; omega⟩
theorem Room.deeper {k : Nat} {A : Around} (r : Room (k + 1) A) (env : Env) : Room k (A.deeper env) :=
 ⟨fun z => r.hd (Nat.le_succ_of_le z), by have := r.dp; show A.depth + 1 + 3 * k + 5 < _; omega, by have := r.un; show A.units + 3 + 16 * k + 200 < _; omega⟩
theorem Room.in1 {k : Nat} {A : Around} (r : Room (k + 1) A) : Room k A.in1 :=
 ⟨fun z => r.hd (Nat.le_succ_of_le z), by have := r.dp; show A.depth + 3 * k + 5 < _; omega, by have := r.un; show A.units + 1 + 16 * k + 200 < _; omega⟩
theorem Room.mark {k : Nat} {A : Around} (r : Room k A) (h : k < 13) (v : Option Value) : Room k (A.mark v) := ⟨fun z => absurd z (Nat.not_le.mpr h), r.dp, r.un⟩
theorem Room.depth {k : Nat} {A : Around} (r : Room k A) : A.depth < recursionLimit := by have := r.dp; omega
theorem Room.units {k : Nat} {A : Around} (r : Room k A) : A.units + 64 < cLine := by have := r.un; omega
def tNil : TA := fun _ H Q => Q [] H
def tCons (ta : TE) (tr : TA) : TA := fun σ H Q => ta σ H fun x H1 => tr σ H1 fun xs H2 => Q (x :: xs) H2
section
variable {X : Cx} {e : Expr} {es : List Expr} {te : TE} {t : TA} {pos : Pos}
theorem pa_nil : PA X [] tNil := fun _ _ _ _ H Q I h => Calls.spliced_nil ⟨[], H, I, .nil, h⟩
theorem pa_cons (ha : PE X e te) (hr : PA X es t) (hs : starEach (e :: es) X.env = (false, eval e X.env) :: starEach es X.env := by rfl) : PA X (e :: es) (tCons te t) := by
 intro pos pins s σ H Q I h
 rw [hs]
 show wpAny _ _ (spliced ((false, eval e X.env) :: backTo pos (starEach es X.env))) _ _ s
 refine Calls.spliced_cons (thn (ha pins s σ H _ I h) fun u s1 ⟨x, H1, I1, r1, q1⟩ => ?_)
 exact thn (hr pos pins s1 σ H1 _ I1 q1) fun us s2 ⟨xs, H2, I2, r2, q2⟩ => ⟨x :: xs, H2, I2, .cons r1 r2, q2⟩
def tTup (t : TA) : TE := fun σ H Q => t σ H fun xs H1 => xs.length ≤ sizeLine ∧ ∀ p, H1 p = none → Q (.ref p) (upd H1 p (.tup xs))
def tLst (t : TA) : TE := fun σ H Q => t σ H fun xs H1 => xs.length ≤ sizeLine ∧ ∀ p, H1 p = none → Q (.ref p) (upd H1 p (.lst xs))
theorem pe_tup {x1} (h : PA X es t) : PE X (.Tuple es x1 pos) (tTup t) := by
 intro pins s σ H Q I hq
 refine wpAny_Tuple_spliced (thn (h pos pins s σ H _ I hq) fun us s1 ⟨xs, H1, I1, r, z, q⟩ => ⟨by rw [← r.length]; exact z, ?_⟩)
 have hf : H1 s1.heap.objs.size = none := I1.hok.fresh (Nat.le_refl _)
 refine ⟨.ref s1.heap.objs.size, upd H1 s1.heap.objs.size (.tup xs), I1.laid (t' := s1.toks) (fun b u e => Heap.get?_push_of_some _ e) (Nat.le_refl _) ?_, rfl, q _ hf⟩
 exact ⟨z, us, r, ⟨_, Heap.get?_push_size _ rfl, rfl, _, rfl⟩⟩
theorem pe_lst (h : PA X es t) : PE X (.List es pos) (tLst t) := by
 intro pins s σ H Q I hq
 refine wpAny_List_spliced (thn (h pos pins s σ H _ I hq) fun us s1 ⟨xs, H1, I1, r, z, q⟩ => ⟨by rw [← r.length]; exact z, ?_⟩)
 have hf : H1 s1.heap.objs.size = none := I1.hok.fresh (Nat.le_refl _)
 refine ⟨.ref s1.heap.objs.size, upd H1 s1.heap.objs.size (.lst xs), I1.laid (t' := s1.toks) (fun b u e => Heap.get?_push_of_some _ e) (Nat.le_refl _) ?_, rfl, q _ hf⟩
 exact ⟨z, us, 0, r, Heap.get?_push_size _ rfl⟩
end
abbrev Sp := List V → Hp → VK → XK → Prop
abbrev CXT := Option Value → List Env → Hp → Shared → XK → Value → Shared → Prop
structure Env0 (P : Program) (w : World) (K : PySem.W.Frag) (mg : Str → Option Value) (base : Heap) (A : Around) (outer : List Env) (s : Shared) (H : Hp) : Prop where
 frames : A.frames = some outer
 mod : Mod K mg base
 bs : ∀ b o, base.get? b = some o → s.heap.get? b = some o ∧ H b = none
 bsz : base.objs.size ≤ s.heap.objs.size
 funs : s.heap.FunFrames base outer
 frf : ∀ b ∈ frs outer, H b = none
 hok : HOk P w H s.heap
 bare : AllBare s.gens
 hand : A.handled = none ∨ ∃ (e : Addr) (o : Obj) (vs : Array Value), A.handled = some (.ref e) ∧ s.heap.get? e = some o ∧ H e = none ∧ o.data = .fields vs ∧ vs[2]? = some .none
def CE (outer : List Env) (P : Program) (w : World) (H : Hp) (s : Shared) (Q : VK) (u : Value) (s' : Shared) : Prop :=
 ∃ v H', s'.os = s.os ∧ AllBare s'.gens ∧ Un (frs outer) [] H H' s.heap s'.heap ∧ HOk P w H' s'.heap ∧ RelV v u ∧ Q v H'
def CR (CX : List Env → Hp → Shared → XK → Value → Shared → Prop) (outer : List Env) (P : Program) (w : World) (H : Hp) (s : Shared) (Q : VK) (E : XK) (r : Result) (s' : Shared) : Prop :=
 match r with
 | .ok (.ret u) => CE outer P w H s Q u s'
 | .ok _ => False
 | .error e => CX outer H s E e s'
structure FnOk (P : Program) (w : World) (K : PySem.W.Frag) (mg : Str → Option Value) (base : Heap) (CX : CXT) (k : Nat) (f : Addr) (fd : FuncData) (ps : List Str) (sp : Sp) : Prop where
 len : ∀ vs H Q E, sp vs H Q E → vs.length = ps.length
 run : ∀ (A : Around) (outer : List Env) (s : Shared) (H : Hp) (args : Args) (us : List Value) (vs : List V) (Q : VK) (E : XK), Room k A → Env0 P w K mg base A outer s H → BindsTo s fd args (ps.zip us) → Vals vs us → sp vs H Q E →
  codeAny (model P w) A (.call (.ref f) args) (CR (CX A.handled) outer P w H s Q E) s
theorem FnOk.mono {P : Program} {w : World} {K : PySem.W.Frag} {mg : Str → Option Value} {base : Heap} {CX : CXT} {j k : Nat} {f : Addr} {fd : FuncData} {ps : List Str} {sp : Sp} (F : FnOk P w K mg base CX j f fd ps sp) (h : j ≤ k) :
 FnOk P w K mg base CX k f fd ps sp := ⟨F.len, fun A outer s H args us vs Q E hr => F.run A outer s H args us vs Q E (hr.mono h)⟩
theorem Env0.in1 {P : Program} {w : World} {K : PySem.W.Frag} {mg : Str → Option Value} {base : Heap} {A : Around} {outer : List Env} {s : Shared} {H : Hp} (e : Env0 P w K mg base A outer s H) :
 Env0 P w K mg base A.in1 outer s H := ⟨e.frames, e.mod, e.bs, e.bsz, e.funs, e.frf, e.hok, e.bare, e.hand⟩
section
variable {X : Cx} {pins : List (Addr × Obj)} {σ : St} {H : Hp} {s s' : Shared}
theorem Inv.env0 (I : Inv X pins σ H s) (hc : X.calm = true) : Env0 X.prog X.w X.K X.mg X.base X.A X.stack s H :=
 ⟨I.ok.frames, I.ok.mod, I.bs, Nat.le_trans I.ok.bsz I.sz, I.stack, I.stkFree, I.hok, I.bare, I.hand hc⟩
theorem Inv.after {Q : VK} {u : Value} (I : Inv X pins σ H s) (h : CE X.stack X.prog X.w H s Q u s') : EP X pins σ Q u s' := by
 obtain ⟨v, H', os, bare, un, hok, r, q⟩ := h
 obtain ⟨hh, g, d, t, os'⟩ := s'
 obtain rfl : os' = s.os := os
 exact ⟨v, H', I.call (h' := hh) (g' := g) (d' := d) (t' := t) (ch := []) un hok bare (fun b z => absurd z (by simp)), r, q⟩
end
def tCall (sp : Sp) (dvs : List V) (E : XK) (t : TA) : TE := fun σ H Q => t σ H fun vs H1 => sp (vs ++ dvs) H1 Q E
def tMeth (C : Addr) (m : Str) (sp : Sp) (dvs : List V) (E : XK) (ta : TE) (t : TA) : TE := fun σ H Q => ta σ H fun x H1 => ∃ a dx fs, x = .ref a ∧ H1 a = some (.ins C dx fs) ∧ fs.lookup m = none ∧
 t σ H1 fun vs H2 => sp (x :: (vs ++ dvs)) H2 Q E
def tMake (C : Addr) (sp : Sp) (dvs : List V) (E : XK) (t : TA) : TE := fun σ H Q => t σ H fun vs H1 => ∀ x dx, H1 x = none → H1 dx = none → dx ≠ x →
 sp (.ref x :: (vs ++ dvs)) (upd (upd H1 dx (.own x)) x (.ins C dx [])) (fun v H2 => v = .non ∧ Q (.ref x) H2) E
def Binds (K : PySem.W.Frag) (fd : FuncData) (ps : List Str) (ds : List Value) : Prop :=
 ∀ (s : Shared) (us : List Value), K.In s.heap → (us ++ ds).length = ps.length → BindsTo s fd ⟨us, []⟩ (ps.zip (us ++ ds))
theorem Binds.all {K : PySem.W.Frag} {fd : FuncData} {ps : List Str} (h : ∀ us : List Value, us.length = ps.length → bindArgs fd ⟨us, []⟩ = pure (ps.zip us)) : Binds K fd ps [] := fun s us _ hl => by
 rw [List.append_nil] at hl ⊢
 exact .of_eq (h us hl)
def Passes (CX : CXT) (X : Cx) (E : XK) : Prop := ∀ (pins : List (Addr × Obj)) (σ : St) (H : Hp) (s : Shared) (e : Value) (s' : Shared), Inv X pins σ H s → CX X.A.handled X.stack H s E e s' → X.xe e s'
section
variable {X : Cx} {CX : CXT} {k : Nat} {f C : Addr} {fd : FuncData} {ps : List Str} {sp : Sp} {dvs : List V} {ds : List Value} {E : XK} {x m : Str} {p pos apos : Pos} {e o : Expr} {es : List Expr} {ta : TE} {t : TA}
theorem run_fn {pins : List (Addr × Obj)} {σ : St} {H : Hp} {s : Shared} {Q : VK} {us : List Value} {vs : List V} (F : FnOk X.prog X.w X.K X.mg X.base CX k f fd ps sp) (hr : Room k X.A) (hb : Binds X.K fd ps ds) (hd : Vals dvs ds) (hx : Passes CX X E)
 (I : Inv X pins σ H s) (r : Vals vs us) (h : sp (vs ++ dvs) H Q E) (hc : X.calm = true := by rfl) : wpAny (model X.prog X.w) X.A (call (.ref f) us) (EP X pins σ Q) X.xe s := by
 have r2 : Vals (vs ++ dvs) (us ++ ds) := r.append hd
 have hl : (us ++ ds).length = ps.length := by rw [← r2.length]; exact F.len _ _ _ _ h
 refine wpAny_call (codeAny_mono (F.run X.A X.stack s H ⟨us, []⟩ (us ++ ds) (vs ++ dvs) Q E hr (I.env0 hc) (hb s us I.kIn hl) r2 h) fun r s' hq => ?_)
 cases r with
 | error e => exact hx pins σ H s e s' I hq
 | ok fl =>
  cases fl with
  | ret u => exact I.after hq
  | next => exact False.elim hq
  | brk => exact False.elim hq
  | cont => exact False.elim hq
theorem pe_call (F : FnOk X.prog X.w X.K X.mg X.base CX k f fd ps sp) (hr : Room k X.A) (hg : Gl X x) (hm : X.mg x = some (.ref f)) (hk : PySem.W.keepIn X.K (.ref f) = true) (hb : Binds X.K fd ps ds) (hd : Vals dvs ds) (hx : Passes CX X E)
 (ha : PA X (e :: es) t) (hdb : (x == ("__debug__" : Str)) = false := by decide) (he : starEach (e :: es) X.env = (false, eval e X.env) :: starEach es X.env := by rfl) (hpl : (backTo pos (starEach es X.env)).any (·.1) = false := by rfl) (hc : X.calm = true := by rfl) :
 PE X (.Call (.Name x p) (e :: es) [] pos) (tCall sp dvs E t) := by
 intro pins s σ H Q I h
 refine wpAny_Call_Name_kw (ld_glob I hg hm ?_ hdb)
 refine PySem.W.callWith_K (h₀ := X.base) I.ok.mod.kin hk (thn (ha pos pins s σ H _ I h) fun us s1 ⟨vs, H1, I1, r, q⟩ => ⟨I1.kIn, ?_⟩) he hpl
 exact run_fn (hc := hc) F hr hb hd hx I1 r q
structure Mk (K : PySem.W.Frag) (C f : Addr) : Prop where
 makes : PySem.W.makesIn K C = true
 init : PySem.W.findIn K (.ref C) "__init__" = some (some (.ref f))
 fn : PySem.W.isFn K (.ref f) = true
 kp : PySem.W.keepIn K (.ref C) = true
end
section
variable {X : Cx} {CX : CXT} {k : Nat} {f C : Addr} {fd : FuncData} {ps ks : List Str} {sp : Sp} {E : XK} {x m : Str} {p pos apos kpos : Pos} {e o : Expr} {es : List Expr} {kws : List Keyword} {te ta : TE} {t tk : TA} {nm : Option Str}
structure KBinds (K : PySem.W.Frag) (fd : FuncData) (ps ks : List Str) (g : List Value → List Value → List Value) (gV : List V → List V → List V) : Prop where
 to : ∀ (s : Shared) (us ws : List Value), K.In s.heap → (g us ws).length = ps.length → BindsTo s fd ⟨us, ks.zip ws⟩ (ps.zip (g us ws))
 rel : ∀ {vs : List V} {us : List Value} {zs : List V} {ws : List Value}, Vals vs us → Vals zs ws → Vals (gV vs zs) (g us ws)
variable {g : List Value → List Value → List Value} {gV : List V → List V → List V}
end
structure FnScope (N P : List Str) (sc : Scope) : Prop where
 kind : sc.kind = .function
 co : sc.isCoroutine = false
 gen : sc.isGenerator = false
 nd : N.Nodup
 pre : N.take P.length = P
 par : ∀ x ∈ P, sc.names.lookup x = some .local ∨ sc.names.lookup x = some .cell
 nofree : ∀ y ∈ sc.names, y.2 ≠ .free
theorem bindL_out {kindOf : Str → Option NameKind} {x : Str} : ∀ {binds : List (Str × Value)} {m : Str → Option Value}, (∀ v, (x, v) ∉ binds) → bindL kindOf binds m x = m x
 | [], _, _ => rfl
 | (n, v) :: r, m, h => by
  unfold bindL
  rw [bindL_out fun w hw => h w (List.mem_cons_of_mem _ hw)]
  split
  · have : x ≠ n := by rintro rfl; exact h v List.mem_cons_self
    simp [this]
  · rfl
theorem bindC_out {kindOf : Str → Option NameKind} {x : Str} : ∀ {binds : List (Str × Value)} {m : Str → Option Value}, (∀ v, (x, v) ∉ binds) → bindC kindOf binds m x = m x
 | [], _, _ => rfl
 | (n, v) :: r, m, h => by
  unfold bindC
  rw [bindC_out fun w hw => h w (List.mem_cons_of_mem _ hw)]
  split
  · rfl
  · have : x ≠ n := by rintro rfl; exact h v List.mem_cons_self
    simp [this]
theorem bindL_get {kindOf : Str → Option NameKind} {x : Str} {v : Value} : ∀ {P : List Str} {vs : List Value} {i : Nat} {m : Str → Option Value}, P.Nodup → P[i]? = some x → vs[i]? = some v → kindOf x = some .local →
 bindL kindOf (P.zip vs) m x = some v
 | [], _, _, _, _, h, _, _ => by simp at h
 | _ :: _, [], _, _, _, _, h, _ => by simp at h
 | p :: P, w :: vs, 0, m, nd, h1, h2, hk => by
  simp at h1 h2; subst h1; subst h2
  show bindL kindOf ((p, w) :: P.zip vs) m p = _
  unfold bindL
  rw [bindL_out fun v hv => (List.nodup_cons.mp nd).1 (List.of_mem_zip hv).1, if_pos hk]
  simp
 | p :: P, w :: vs, i + 1, m, nd, h1, h2, hk => by
  show bindL kindOf ((p, w) :: P.zip vs) m x = _
  unfold bindL
  exact bindL_get (i := i) (List.nodup_cons.mp nd).2 (by simpa using h1) (by simpa using h2) hk
theorem bindC_get {kindOf : Str → Option NameKind} {x : Str} {v : Value} : ∀ {P : List Str} {vs : List Value} {i : Nat} {m : Str → Option Value}, P.Nodup → P[i]? = some x → vs[i]? = some v → kindOf x ≠ some .local →
 bindC kindOf (P.zip vs) m x = some v
 | [], _, _, _, _, h, _, _ => by simp at h
 | _ :: _, [], _, _, _, _, h, _ => by simp at h
 | p :: P, w :: vs, 0, m, nd, h1, h2, hk => by
  simp at h1 h2; subst h1; subst h2
  show bindC kindOf ((p, w) :: P.zip vs) m p = _
  unfold bindC
  rw [bindC_out fun v hv => (List.nodup_cons.mp nd).1 (List.of_mem_zip hv).1, if_neg hk]
  simp
 | p :: P, w :: vs, i + 1, m, nd, h1, h2, hk => by
  show bindC kindOf ((p, w) :: P.zip vs) m x = _
  unfold bindC
  exact bindC_get (i := i) (List.nodup_cons.mp nd).2 (by simpa using h1) (by simpa using h2) hk
def start (N : List Str) (vs : List V) : St := vs.map some ++ List.replicate (N.length - vs.length) none
def cxOf (CX : CXT) (P : Program) (w : World) (K : PySem.W.Frag) (mg : Str → Option Value) (base : Heap) (N : List Str) (qual : Str) (scope : Scope) (f : Addr) (cd : Value) (A : Around) (outer : List Env) (s : Shared) (H : Hp) (E : XK) : Cx where
 prog := P
 w := w
 K := K
 mg := mg
 base := base
 A := A.deeper (envOfC qual scope s.heap.objs.size f cd)
 N := N
 s₀ := s
 H₀ := H
 env := envOfC qual scope s.heap.objs.size f cd
 outer := outer
 stack := envOfC qual scope s.heap.objs.size f cd :: outer
 ex := []
 calm := true
 fn := fun _ => true
 pn := []
 xe := fun e s' => wpAny (model P w) (A.deeper (envOfC qual scope s.heap.objs.size f cd)) (leaving (envOfC qual scope s.heap.objs.size f cd) e) (fun _ s'' => CX A.handled outer H s E e s'') (fun e' s'' => CX A.handled outer H s E e' s'') s'
theorem cell_has {sc : Scope} {n : Nat} {x : Str} (h : sc.names.lookup x = some .cell) : ∃ c, (cellsFrom n sc.names []).lookup x = some c := by
 have q := PySem.W.cellsFrom_some sc.names n [] (.inl h)
 exact Option.isSome_iff_exists.mp q
theorem inv_start {CX : CXT} {P : Program} {w : World} {K : PySem.W.Frag} {mg : Str → Option Value} {base : Heap} {N ps : List Str} {qual : Str} {scope : Scope} {f : Addr} {cd : Value} {A : Around} {outer : List Env} {s s1 : Shared} {H : Hp} {E : XK} {us : List Value} {vs : List V}
 (S : FnScope N ps scope) (e0 : Env0 P w K mg base A outer s H) (hl : vs.length = ps.length) (r : Vals vs us)
 (x : InCallC s s.heap.objs.size (bindL (envOfC qual scope s.heap.objs.size f cd).kindOf (ps.zip us) fun _ => none) (cellsFrom (s.heap.objs.size + 1) scope.names []) (bindC (envOfC qual scope s.heap.objs.size f cd).kindOf (ps.zip us) fun _ => none) s1) :
 Inv (cxOf CX P w K mg base N qual scope f cd A outer s H E) [] (start N vs) H s1 := by
 have hpl : ps.length ≤ N.length := by have := congrArg List.length S.pre; rw [List.length_take] at this; omega
 obtain ⟨h1, tk, rfl, hk⟩ := x.done
 have noA : ∀ b : Addr, b ∉ (cxOf CX P w K mg base N qual scope f cd A outer s H E).ex := fun b z => absurd (show b ∈ ([] : List Addr) from z) (by simp)
 refine ⟨⟨e0.mod, S.kind, rfl, rfl, Nat.le_refl _, fun y z c h1 h2 => ?_, fun y hy => ?_, fun y c _ h => ?_, fun _ => ?_, Around.frames_deeper e0.frames, .inr ⟨rfl, rfl⟩, fun b z => absurd z (noA b), e0.bs, e0.bsz, fun b _ _ => noA b, fun b z => absurd z (noA b), e0.funs, e0.frf⟩,
  rfl, e0.bare, Un.kept hk, ⟨_, x.toInCall.ns, fun i y v h1 h2 h3 => ?_⟩, fun y c h => ⟨_, x.cell y c h⟩, e0.hok.fresh (Nat.le_refl _), fun y c h => ?_, fun p hp => absurd (show p ∈ ([] : List (Addr × Obj)) from hp) (by simp), e0.hok.kept hk, ?_⟩
 · exact name_of_addr x.apart (PySem.mem_of_lookup h1) (PySem.mem_of_lookup h2)
 · have hy : scope.names.lookup y = some .cell ∨ scope.names.lookup y = some .free := hy
   rcases hy with hy | hy
   · exact cell_has hy
   · exact absurd rfl (S.nofree _ (PySem.mem_of_lookup hy))
 · exact Nat.le_of_lt (x.above y c (PySem.mem_of_lookup h))
 · rcases e0.hand with d | ⟨e, o, vs, d1, d2, d3, d4, d5⟩
   · exact .inl d
   · refine .inr ⟨e, o, vs, d1, d4, d5, .inl ⟨d2, d3, fun z => ?_, noA e⟩⟩
     obtain ⟨_, o2, e2, dn⟩ := e0.funs.mem z
     rw [d2] at e2; cases e2
     exact dn vs d4
 · have hi : i < vs.length := by
    unfold start at h2
    by_cases hi : i < vs.length
    · exact hi
    · rw [List.getElem?_append_right (by simpa using hi)] at h2
      rw [List.getElem?_replicate] at h2
      split at h2 <;> cases h2
   have ha : vs[i]? = some v := by
    unfold start at h2
    rw [List.getElem?_append_left (by simpa using hi), List.getElem?_map] at h2
    cases e : vs[i]? with
    | none => rw [e] at h2; cases h2
    | some a => rw [e] at h2; cases h2; rfl
   obtain ⟨u, hu, rv⟩ := r.get ha
   have hp : ps[i]? = some y := by
    rw [← S.pre, List.getElem?_take_of_lt (by omega)]; exact h1
   have ndP : ps.Nodup := by rw [← S.pre]; exact S.nd.sublist (List.take_sublist _ _)
   refine ⟨u, rv, ?_⟩
   rcases S.par y (List.mem_of_getElem? hp) with k | k
   · exact .inl ⟨k, bindL_get ndP hp hu k⟩
   · obtain ⟨c, e⟩ := cell_has (n := s.heap.objs.size + 1) k
     refine .inr ⟨.inl k, c, e, ?_⟩
     have q := x.cell y c e
     rw [bindC_get ndP hp hu (by show scope.names.lookup y ≠ _; rw [k]; decide)] at q
     exact q
 · exact e0.hok.fresh (Nat.le_of_lt (x.above y c (PySem.mem_of_lookup h)))
 · unfold start
   show _ = N.length
   rw [List.length_append, List.length_map, List.length_replicate]
   omega
theorem fn_of {CX : CXT} {P : Program} {w : World} {K : PySem.W.Frag} {mg : Str → Option Value} {base : Heap} {k : Nat} {f : Addr} {name qual : Str} {params : Arguments} {body : List Stmt} {scope : Scope} {dV kV doc pm cdv ct oc : Value} {an od : Option Addr}
 {osl : Array (Option Value)} {N ps : List Str} {sp : Sp} (lk : K.lookup f = some ⟨oc, od, .func (PySem.W.fnOf name qual params body scope dV kV doc pm an cdv ct), osl⟩) (hcd : PySem.W.codeIn K cdv qual = true) (S : FnScope N ps scope)
 (len : ∀ vs H Q E, sp vs H Q E → vs.length = ps.length)
 (hbody : ∀ (A : Around) (outer : List Env) (s : Shared) (H : Hp) (vs : List V) (Q : VK) (E : XK), Room k (A.deeper (envOfC qual scope s.heap.objs.size f cdv)) → sp vs H Q E →
   ∃ t, PSs (cxOf CX P w K mg base N qual scope f cdv A outer s H E) body t ∧ t { nx := fun _ H' => Q .non H', rt := Q } (start N vs) H) :
 FnOk P w K mg base CX (k + 1) f (PySem.W.fnOf name qual params body scope dV kV doc pm an cdv ct) ps sp := by
 refine ⟨len, fun A outer s H args us vs Q E hr e0 hb r hsp => ?_⟩
 have hl := len _ _ _ _ hsp
 have KX : K.In s.heap := e0.mod.kin.keeps fun b o e => (e0.bs b o e).1
 have lim : s.heap.NoLimit := e0.mod.nolimit.keeps fun b o e => (e0.bs b o e).1
 have hkind : ∀ y ∈ ps.zip us, scope.names.lookup y.1 = some .local ∨ (scope.names.lookup y.1 = some .cell ∧ ((cellsFrom (s.heap.objs.size + 1) scope.names []).lookup y.1).isSome = true) := fun ⟨n, v⟩ hy => by
  rcases S.par n (List.of_mem_zip hy).1 with q | q
  · exact .inl q
  · exact .inr ⟨q, PySem.W.cellsFrom_some _ _ _ (.inl q)⟩
 refine codeAny_call_function hr.depth (KX _ _ lk) rfl S.co S.gen rfl (PySem.W.codeRec_of KX hcd) (hb _ _ _ _ ?_)
 refine wpAny_newFunctionEnv_cells S.kind hkind fun env he s1 x => ?_
 subst he
 refine ⟨lim.keeps x.toInCall.keep, codeAny_func ?_⟩
 obtain ⟨t, ht, hq⟩ := hbody A outer s H vs Q E (hr.deeper _) hsp
 have I : Inv (cxOf CX P w K mg base N qual scope f cdv A outer s H E) [] (start N vs) H s1 := inv_start S e0 hl r x
 refine wpAny_mono (ht [] s1 (start N vs) H _ I hq) (fun fl s' hs => ?_) fun e s' hs => hs
 have fin : ∀ {σ' : St} {H' : Hp} {v : V} {u : Value}, Inv (cxOf CX P w K mg base N qual scope f cdv A outer s H E) [] σ' H' s' → RelV v u → Q v H' → CE outer P w H s Q u s' :=
  fun {σ' H' v u} J rv q => ⟨v, H', J.os, J.bare, J.base, J.hok, rv, q⟩
 cases fl with
 | ret u =>
  obtain ⟨v, σ', H', J, rv, q⟩ := hs
  exact fin J rv q
 | next =>
  obtain ⟨σ', H', J, q⟩ := hs
  exact fin (v := V.non) (u := Value.none) J rfl q
 | brk =>
  obtain ⟨_, _, _, q⟩ := hs
  exact False.elim q
 | cont =>
  obtain ⟨_, _, _, q⟩ := hs
  exact False.elim q
end L2
namespace L2
open PySem PySem.Spec PyProof.Rows
section
variable {X : Cx} {x : Str} {p pos : Pos} {e : Expr} {es : List Expr} {t : TA} {id T : String} {r : List V → Hp → VK → Prop}
def tCB (r : List V → Hp → VK → Prop) (t : TA) : TE := fun σ H Q => t σ H fun vs H1 => r vs H1 Q
theorem pe_callB (hc : CallR X (.builtin id) r) (hg : Gl X x) (hm : X.mg x = none) (hv : bootBuiltins x = some (.builtin id)) (ha : PA X (e :: es) t) (hn : x ≠ "__name__" := by decide) (hdb : (x == ("__debug__" : Str)) = false := by decide)
 (he : starEach (e :: es) X.env = (false, eval e X.env) :: starEach es X.env := by rfl) (hpl : (backTo pos (starEach es X.env)).any (·.1) = false := by rfl) : PE X (.Call (.Name x p) (e :: es) [] pos) (tCB r t) := by
 intro pins s σ H Q I h
 refine wpAny_Call_Name_kw (ld_blt I hg hm hv ?_ hn hdb)
 exact PyProof.Rows.callWith_builtin1 (thn (ha pos pins s σ H _ I h) fun us s1 ⟨vs, H1, I1, r1, q1⟩ => hc pins s1 σ H1 vs us Q I1 r1 q1) he hpl
theorem pe_callTy (hc : CallR X (.type T) r) (hg : Gl X x) (hm : X.mg x = none) (hv : bootBuiltins x = some (.type T)) (ha : PA X (e :: es) t) (hn : x ≠ "__name__" := by decide) (hdb : (x == ("__debug__" : Str)) = false := by decide)
 (he : starEach (e :: es) X.env = (false, eval e X.env) :: starEach es X.env := by rfl) (hpl : (backTo pos (starEach es X.env)).any (·.1) = false := by rfl) : PE X (.Call (.Name x p) (e :: es) [] pos) (tCB r t) := by
 intro pins s σ H Q I h
 refine wpAny_Call_Name_kw (ld_blt I hg hm hv ?_ hn hdb)
 exact PyProof.Rows.callWith_type1 (thn (ha pos pins s σ H _ I h) fun us s1 ⟨vs, H1, I1, r1, q1⟩ => hc pins s1 σ H1 vs us Q I1 r1 q1) he hpl
end
end L2
namespace HT
open PySem PyProof.Rows
section
open PySem.SeqAt
open PySem.AutoSeq1 (wpAny_loadPart')
open PySem.MeetsSeq PySem.MeetsSeq2 PySem.MeetsSeq3
end
section
variable {prog : Program} {w : World} {A : Around} {E : Value → Shared → Prop} {s : Shared}
theorem cat_tup {t b : Addr} {vs ws : List Value} {Q : Value → Shared → Prop} (ht : IsTup s.heap t vs.toArray) (hb : IsTup s.heap b ws.toArray) (hv : vs ≠ [])
 (h1 : ws = [] → Q (.ref t) s) (h2 : ws ≠ [] → Q (.ref s.heap.objs.size) { s with heap := s.heap.push { cls := .type "tuple", data := .seq (vs ++ ws).toArray } })
 (hsz : vs.length + ws.length ≤ sizeLine) : wpAny (model prog w) A (binaryOp .Add (.ref t) (.ref b)) Q E s := by
 obtain ⟨⟨cls, dd, data, sl⟩, ho, hc, n, hd⟩ := id ht
 obtain ⟨⟨cls2, dd2, data2, sl2⟩, ho2, hc2, n2, hd2⟩ := id hb
 simp only at hc hd hc2 hd2
 subst hc hd hc2 hd2
 have e : vs.toArray ++ ws.toArray = (vs ++ ws).toArray := by simp
 by_cases hw : ws = []
 · exact concat_meets ⟨_, ho, rfl⟩ ⟨_, ho2, rfl⟩ noFill_tuple_add seq_tuple_add PySem.F.slot_tuple_add PySem.F.entry_tuple_add (PySem.F.args_tuple_add_2 _ _)
    (tuple_addW1 t b vs.toArray ws.toArray n n2 dd dd2 sl sl2 (by simpa using hv) (by simp [hw])) ⟨ho, ho2, h1 hw⟩
 · refine concat_meets ⟨_, ho, rfl⟩ ⟨_, ho2, rfl⟩ noFill_tuple_add seq_tuple_add PySem.F.slot_tuple_add PySem.F.entry_tuple_add (PySem.F.args_tuple_add_2 _ _)
    (tuple_addW2 t b vs.toArray ws.toArray n n2 dd dd2 sl sl2 (by simpa using hv) (by simpa using hw) (by rw [List.size_toArray, List.size_toArray]; exact hsz)) ⟨ho, ho2, ?_⟩
   rw [e]
   exact h2 hw
def sIx (n d : Nat) : Option Int → Nat
 | none => d
 | some v => if v < 0 then (v + (n : Int)).toNat else min v.toNat n
theorem sIx_nat (n d k : Nat) : sIx n d (some (k : Int)) = min k n := by
 show (if (k : Int) < 0 then ((k : Int) + (n : Int)).toNat else min (k : Int).toNat n) = min k n
 rw [if_neg (by omega), Int.toNat_natCast]
theorem sIx_le (n d : Nat) (hd : d ≤ n) (o : Option Int) : sIx n d o ≤ n := by
 cases o with
 | none => exact hd
 | some v =>
  show (if v < 0 then (v + (n : Int)).toNat else min v.toNat n) ≤ n
  by_cases hv : v < 0
  · rw [if_pos hv]; omega
  · rw [if_neg hv]; exact Nat.min_le_right _ _
theorem clip_eq (v : Int) (n d : Nat) : (if v < 0 then max (v + (n : Int)) 0 else min v (n : Int)) = ((sIx n d (some v) : Nat) : Int) := by
 show (if v < 0 then max (v + (n : Int)) 0 else min v (n : Int)) = (((if v < 0 then (v + (n : Int)).toNat else min v.toNat n) : Nat) : Int)
 by_cases hv : v < 0
 · simp only [if_pos hv]; omega
 · simp only [if_neg hv]; omega
theorem adjust_gen (lo hi : Option Int) (n : Nat) : Builtin.Slice.sliceAdjust lo hi 1 (n : Int) = (((sIx n 0 lo : Nat) : Int), ((sIx n n hi : Nat) : Int)) := by
 have h1 : ¬ ((1 : Int) < 0) := by omega
 unfold Builtin.Slice.sliceAdjust
 simp only [h1, if_false]
 refine Prod.ext ?_ ?_
 · cases lo with
   | none => rfl
   | some v => exact clip_eq v n 0
 · cases hi with
   | none => rfl
   | some v => exact clip_eq v n n
theorem places_gen (i j : Nat) : Builtin.Slice.slicePlaces (i : Int) (j : Int) 1 = j - i := by
 unfold Builtin.Slice.slicePlaces
 have h1 : (1 : Int) > 0 := by omega
 simp only [h1, if_true, Int.ediv_one]
 split <;> omega
theorem slicePart_ {v : Value} {o : Option Int} {Q : Option Int → Shared → Prop} (p : IsPart v o) (h : Q o s) : wpAny (model prog w) A (Builtin.Slice.slicePartIndex v) Q E s := by
 cases p with
 | none => exact slicePart_none h
 | int i t => exact slicePart_int h
theorem sliceApplied_gen {sl : Addr} {vl vu : Value} {lo hi : Option Int} {n : Nat} {Q : Int × Int × Nat → Shared → Prop} (hs : s.heap.IsSliceOf sl vl vu .none) (pl : IsPart vl lo) (pu : IsPart vu hi)
 (h : Q (((sIx n 0 lo : Nat) : Int), 1, sIx n n hi - sIx n 0 lo) s) : wpAny (model prog w) A (Builtin.Slice.sliceApplied (.ref sl) (pure (n : Int))) Q E s := by
 obtain ⟨os, hos, hcs, hds⟩ := id hs
 unfold Builtin.Slice.sliceApplied Builtin.Slice.sliceFields
 refine wpAny_bind (wpAny_bind (wpAny_field hos hds (x := vl) rfl (wpAny_bind (wpAny_field hos hds (x := vu) rfl (wpAny_bind (wpAny_field hos hds (x := .none) rfl (wpAny_pure ?_)))))))
 refine wpAny_bind (slicePart_none ?_)
 show wpAny _ _ (if ((1 : Int) == 0) = true then _ else _) _ _ s
 rw [if_neg (by decide)]
 refine wpAny_bind (slicePart_ pl (wpAny_bind (slicePart_ pu (wpAny_bind (wpAny_pure ?_)))))
 show wpAny _ _ (match Builtin.Slice.sliceAdjust lo hi 1 (n : Int) with | (lo, hi) => pure (lo, (1 : Int), Builtin.Slice.slicePlaces lo hi 1)) _ _ s
 rw [adjust_gen lo hi n]
 show wpAny _ _ (pure (((sIx n 0 lo : Nat) : Int), (1 : Int), Builtin.Slice.slicePlaces ((sIx n 0 lo : Nat) : Int) ((sIx n n hi : Nat) : Int) 1)) _ _ s
 rw [places_gen]
 exact wpAny_pure h
theorem pick_gen (xs : Array Value) (i k : Nat) : ((List.range k).filterMap fun (m : Nat) => xs[((i : Int) + (m : Int) * 1).toNat]?).toArray = ((xs.toList.drop i).take k).toArray := by
 have e : (fun (m : Nat) => xs[((i : Int) + (m : Int) * 1).toNat]?) = fun m => xs[i + m]? := by
  funext m
  have : ((i : Int) + (m : Int) * 1).toNat = i + m := by omega
  rw [this]
 rw [e]
 have := pick_run xs i k
 rw [List.filterMap_map] at this
 have e2 : ((fun x => xs[x]?) ∘ fun x => i + x) = fun m => xs[i + m]? := rfl
 rw [e2] at this
 rw [this]
theorem getItem_tuple_cut {t sl : Addr} {items : Array Value} {vl vu : Value} {lo hi : Option Int} {Q : Value → Shared → Prop} (ht : IsTup s.heap t items) (hs : s.heap.IsSliceOf sl vl vu .none) (pl : IsPart vl lo) (pu : IsPart vu hi)
 (hw : ¬ (sIx items.size 0 lo = 0 ∧ sIx items.size items.size hi = items.size))
 (h : Q (.ref s.heap.objs.size) { s with heap := s.heap.push { cls := .type "tuple", data := .seq ((items.toList.drop (sIx items.size 0 lo)).take (sIx items.size items.size hi - sIx items.size 0 lo)).toArray } })
 (hsz : items.size ≤ sizeLine) : wpAny (model prog w) A (getItem (.ref t) (.ref sl)) Q E s := by
 have htake : sizeOk (.seq ((items.toList.drop (sIx items.size 0 lo)).take (sIx items.size items.size hi - sIx items.size 0 lo)).toArray) := by
  show ((items.toList.drop (sIx items.size 0 lo)).take (sIx items.size items.size hi - sIx items.size 0 lo)).toArray.size ≤ sizeLine
  rw [List.size_toArray, List.length_take, List.length_drop, Array.length_toList]
  omega
 have hj : sIx items.size items.size hi ≤ items.size := sIx_le _ _ (Nat.le_refl _) hi
 obtain ⟨os, hos, hcs, hds⟩ := id hs
 have hTs : s.TypeIs (.ref sl) "slice" := ⟨os, hos, hcs⟩
 unfold getItem
 try with_reducible refine wpAny_holding ?_
 first | refine wpAny_bind (wpAny_pure ?_) | skip
 refine wpAny_bind (wpAny_sequenceKey ht.typeIs (by decide) ?_)
 refine wpAny_bind (wpAny_callSpecial?_slot (name := Str.ofString "__getitem__") ht.typeIs PyProof.Rows.slot_tuple_getitem
  (wpAny_call_entry PyProof.Rows.slot_tuple_getitem ht.typeIs entry_tuple_getitem ?_ (args_tuple_getitem _ _)))
 show wpAny _ _ (Builtin.Tuple.tupleItemsOf (.ref t) >>= _) _ _ s
 refine wpAny_bind (tupleItemsOf_ ht ?_)
 refine wpAny_bind (wpAny_typeOf hTs ?_)
 rw [if_pos (by decide)]
 refine wpAny_bind (sliceApplied_gen hs pl pu ?_)
 have hno : ¬ ((((sIx items.size 0 lo : Nat) : Int) == 0 && (1 : Int) == 1 && (sIx items.size items.size hi - sIx items.size 0 lo) == items.size) = true) := by
  intro q
  rw [Bool.and_eq_true, Bool.and_eq_true] at q
  have q1 : ((sIx items.size 0 lo : Nat) : Int) = 0 := eq_of_beq q.1.1
  have q2 : sIx items.size items.size hi - sIx items.size 0 lo = items.size := eq_of_beq q.2
  exact hw ⟨by omega, by omega⟩
 show wpAny _ _ (if (((sIx items.size 0 lo : Nat) : Int) == 0 && (1 : Int) == 1 && (sIx items.size items.size hi - sIx items.size 0 lo) == items.size) = true then _ else _) _ _ s
 rw [if_neg hno, pick_gen]
 first
  | exact wpAny_bind (m := Builtin.Tuple.tupleExact _) (wpAny_newObj_type (wpAny_pure ⟨_, rfl, wpAny_pure h⟩) htake)
  | exact wpAny_bind (m := Builtin.Tuple.tupleExact _) (wpAny_newObj_type (wpAny_bind (wpAny_pure (wpAny_pure ⟨_, rfl, wpAny_pure h⟩))) htake)
  | exact wpAny_bind (wpAny_bind (m := Builtin.Tuple.tupleExact _) (wpAny_newObj_type (wpAny_pure (wpAny_pure ⟨_, rfl, wpAny_pure h⟩)) htake))
  | exact wpAny_bind (wpAny_bind (m := Builtin.Tuple.tupleExact _) (wpAny_newObj_type (wpAny_pure ⟨_, rfl, wpAny_pure h⟩) htake))
end
end HT
namespace L2
open PySem PySem.Spec PyProof.Rows
abbrev TO := St → Hp → (Option Int → Hp → Prop) → Prop
def PO (X : Cx) (e : Option Expr) (t : TO) : Prop :=
 ∀ (pins : List (Addr × Obj)) (s : Shared) (σ : St) (H : Hp) (Q : Option Int → Hp → Prop), Inv X pins σ H s → t σ H Q →
  wpAny (model X.prog X.w) X.A (evalPart e X.env) (fun u s' => ∃ o H', Inv X pins σ H' s' ∧ IsPart u o ∧ Q o H') X.xe s
def tNoPart : TO := fun _ H Q => Q none H
def tPart (t : TE) : TO := fun σ H Q => t σ H fun x H1 => ∃ i, x = .int i ∧ Q (some i) H1
section
variable {X : Cx} {e : Expr} {te : TE} {lo hi : Option Expr} {tl th : TO} {pos p2 : Pos}
theorem po_none : PO X none tNoPart := by
 intro pins s σ H Q I h
 rw [evalPart_none]
 exact wpAny_pure ⟨none, H, I, .none, h⟩
theorem po_some (h : PE X e te) : PO X (some e) (tPart te) := by
 intro pins s σ H Q I hw
 rw [evalPart_some]
 refine thn (h pins s σ H _ I hw) fun u s1 ⟨x, H1, I1, r1, q1⟩ => ?_
 obtain ⟨i, rfl, q⟩ := q1
 obtain ⟨t, rfl⟩ := r1
 exact ⟨some i, H1, I1, .int i t, q⟩
def SlR (X : Cx) (r : V → Option Int → Option Int → Hp → VK → Prop) : Prop :=
 ∀ (pins : List (Addr × Obj)) (s : Shared) (σ : St) (H : Hp) (x : V) (v vl vu : Value) (lo hi : Option Int) (sl : Addr) (Q : VK), Inv X pins σ H s → RelV x v → s.heap.IsSliceOf sl vl vu .none → IsPart vl lo → IsPart vu hi → r x lo hi H Q →
  ∃ T id, typeLookup (.type T) "__getitem__" = pure (some (.builtin id)) ∧ s.TypeIs v T ∧ wpAny (model X.prog X.w) X.A (getItem v (.ref sl)) (EP X pins σ Q) X.xe s
def tSl (r : V → Option Int → Option Int → Hp → VK → Prop) (te : TE) (tl th : TO) : TE := fun σ H Q => te σ H fun x H1 => tl σ H1 fun l H2 => th σ H2 fun u H3 => r x l u H3 Q
theorem pe_slice {r : V → Option Int → Option Int → Hp → VK → Prop} (hr : SlR X r) (he : PE X e te) (hl : PO X lo tl) (hu : PO X hi th) : PE X (.Subscript e (.Slice lo hi none p2) pos) (tSl r te tl th) := by
 intro pins s σ H Q I h
 refine Subscript_ (thn (he pins s σ H _ I h) fun v s1 ⟨x, H1, I1, r1, q1⟩ => ?_)
 refine wpAny_Slice (thn (hl pins s1 σ H1 _ I1 q1) fun vl s2 ⟨l, H2, I2, pl, q2⟩ => thn (hu pins s2 σ H2 _ I2 q2) fun vu s3 ⟨u, H3, I3, pu, q3⟩ => ?_)
 rw [evalPart_none]
 refine wpAny_pure ?_
 have I4 : Inv X pins σ H3 { s3 with heap := s3.heap.push { cls := .type "slice", data := .fields #[vl, vu, .none] } } := I3.kept (t' := s3.toks) fun b ob q => Heap.get?_push_of_some _ q
 obtain ⟨T, id, hT, ht, hg⟩ := hr pins { s3 with heap := s3.heap.push { cls := .type "slice", data := .fields #[vl, vu, .none] } } σ H3 x v vl vu l u s3.heap.objs.size Q I4 r1 (Heap.IsSliceOf.new ..) pl pu q3
 show wpAny (model X.prog X.w) X.A (subscriptTail e (.Slice lo hi none p2) v (.ref s3.heap.objs.size)) (EP X pins σ Q) X.xe { s3 with heap := s3.heap.push { cls := .type "slice", data := .fields #[vl, vu, .none] } }
 exact tail_any (ops := [.ref s3.heap.objs.size, v]) ht hT hg (by with_unfolding_all rfl)
def cutV (xs : List V) (lo hi : Option Int) : List V := (xs.drop (HT.sIx xs.length 0 lo)).take (HT.sIx xs.length xs.length hi - HT.sIx xs.length 0 lo)
theorem cutV_length (xs : List V) (lo hi : Option Int) : (cutV xs lo hi).length ≤ xs.length := by
 unfold cutV
 rw [List.length_take, List.length_drop]
 omega
def rSlT (K : PySem.W.Frag) : V → Option Int → Option Int → Hp → VK → Prop := fun x lo hi H Q => ∃ a xs, x = .ref a ∧ SqT K H a xs ∧
 ¬ (HT.sIx xs.length 0 lo = 0 ∧ HT.sIx xs.length xs.length hi = xs.length) ∧ ∀ p, H p = none → Q (.ref p) (upd H p (.tup (cutV xs lo hi)))
theorem sl_tup : SlR X (rSlT X.K) := by
 intro pins s σ H x v vl vu lo hi sl Q I rx hs pl pu h
 obtain ⟨a, xs, rfl, hx, hw, q⟩ := h
 cases rx
 obtain ⟨its, r, ht, hz⟩ := I.tuple hx
 have hlen : its.toArray.size = xs.length := by rw [List.size_toArray]; exact r.length.symm
 refine ⟨"tuple", _, PyProof.Rows.slot_tuple_getitem.lookup, ht.typeIs, ?_⟩
 refine HT.getItem_tuple_cut ht hs pl pu (by rw [hlen]; exact hw) ?_ (by rw [hlen]; exact hz)
 rw [hlen]
 refine ⟨.ref s.heap.objs.size, _, I.laid (t' := s.toks) (o := .tup (cutV xs lo hi)) (fun b ob q => Heap.get?_push_of_some _ q) (Nat.le_refl _) ?_, rfl, q _ (I.hok.fresh (Nat.le_refl _))⟩
 exact ⟨Nat.le_trans (cutV_length xs lo hi) hz, _, (r.drop (HT.sIx xs.length 0 lo)).take (HT.sIx xs.length xs.length hi - HT.sIx xs.length 0 lo), IsTup.new _ _⟩
def rCatT (K : PySem.W.Frag) : R2 := fun x y H Q => ∃ a b xs ys, x = .ref a ∧ y = .ref b ∧ SqT K H a xs ∧ SqT K H b ys ∧ xs ≠ [] ∧ xs.length + ys.length ≤ sizeLine ∧
 (ys = [] → Q (.ref a) H) ∧ (ys ≠ [] → ∀ p, H p = none → Q (.ref p) (upd H p (.tup (xs ++ ys))))
theorem Vals.nil_iff {xs : List V} {us : List Value} (r : Vals xs us) : us = [] ↔ xs = [] := by
 cases r with
 | nil => simp
 | cons _ _ => simp
theorem op_catT : OpR X (binaryOp .Add) (rCatT X.K) := by
 intro pins s σ H x y v u Q I rx ry h
 obtain ⟨a, b, xs, ys, rfl, rfl, ha, hb, hx, hz, q1, q2⟩ := h
 cases rx
 cases ry
 obtain ⟨its, r1, p1, _⟩ := I.tuple ha
 obtain ⟨its2, r2, p2, _⟩ := I.tuple hb
 refine HT.cat_tup p1 p2 (fun z => hx (r1.nil_iff.mp z)) (fun z => ⟨.ref a, H, I, rfl, q1 (r2.nil_iff.mp z)⟩) (fun z => ?_) (by rw [← r1.length, ← r2.length]; exact hz)
 refine ⟨.ref s.heap.objs.size, _, I.laid (t' := s.toks) (o := .tup (xs ++ ys)) (fun b ob q => Heap.get?_push_of_some _ q) (Nat.le_refl _) ?_, rfl, q2 (fun w => z (r2.nil_iff.mpr w)) _ (I.hok.fresh (Nat.le_refl _))⟩
 exact ⟨by rw [List.length_append]; exact hz, _, r1.append r2, IsTup.new _ _⟩
end
end L2
namespace L2
open PySem PySem.Spec PyProof.Rows
def ixN (n : Nat) (i : Int) : Option Nat := if 0 ≤ i then (if i < n then some i.toNat else none) else if -(n : Int) ≤ i then some (i + n).toNat else none
def atI {α : Type} (xs : List α) (i : Int) : Option α := (ixN xs.length i).bind fun j => xs[j]?
theorem ixN_seq {n : Nat} {i : Int} {j : Nat} (h : ixN n i = some j) : seqIndex? i n = some j ∧ j < n ∧ -(n : Int) ≤ i ∧ i < n := by
 unfold ixN at h
 by_cases h0 : 0 ≤ i
 · rw [if_pos h0] at h
   by_cases h1 : i < n
   · rw [if_pos h1] at h
     have e : i.toNat = j := Option.some.inj h
     exact ⟨by rw [seqIndex_of h0 h1, e], by omega, by omega, h1⟩
   · rw [if_neg h1] at h; cases h
 · rw [if_neg h0] at h
   by_cases h1 : -(n : Int) ≤ i
   · rw [if_pos h1] at h
     have e : (i + n).toNat = j := Option.some.inj h
     exact ⟨by rw [seqIndex_neg (by omega) h1, e], by omega, h1, by omega⟩
   · rw [if_neg h1] at h; cases h
theorem atI_get {α : Type} {xs : List α} {i : Int} {v : α} (h : atI xs i = some v) : ∃ j, seqIndex? i xs.length = some j ∧ xs[j]? = some v ∧ j < xs.length ∧ -(xs.length : Int) ≤ i ∧ i < xs.length := by
 unfold atI at h
 cases e : ixN xs.length i with
 | none => rw [e] at h; cases h
 | some j =>
  rw [e] at h
  obtain ⟨h1, h2, h3, h4⟩ := ixN_seq e
  exact ⟨j, h1, h, h2, h3, h4⟩
theorem atI_nat {α : Type} {xs : List α} {j : Nat} {v : α} (h : xs[j]? = some v) : atI xs (j : Int) = some v := by
 have hj : j < xs.length := (List.getElem?_eq_some_iff.mp h).1
 have e : ixN xs.length (j : Int) = some j := by
  unfold ixN
  rw [if_pos (by omega), if_pos (by omega)]; simp
 unfold atI; rw [e]; exact h
def PlainIx (b : Expr) : Prop := ∀ o i, subscripted b false o i = operate [o, i] (getItem o i)
def IxR (X : Cx) (r : R2) : Prop :=
 ∀ (value slice : Expr) (pins : List (Addr × Obj)) (s : Shared) (σ : St) (H : Hp) (x y : V) (v u : Value) (Q : VK), Inv X pins σ H s → RelV x v → RelV y u → r x y H Q →
  subscripted slice false v u = operate [v, u] (getItem v u) → wpAny (model X.prog X.w) X.A (subscriptTail value slice v u) (EP X pins σ Q) X.xe s
def MtR (X : Cx) (id : String) (r : V → List V → Hp → VK → Prop) : Prop :=
 ∀ (pins : List (Addr × Obj)) (s : Shared) (σ : St) (H : Hp) (x : V) (xs : List V) (v : Value) (us : List Value) (Q : VK), Inv X pins σ H s → RelV x v → Vals xs us → r x xs H Q →
  wpAny (model X.prog X.w) X.A (call (.builtin id) (v :: us)) (EP X pins σ Q) X.xe s
section
variable {X : Cx} {a b : Expr} {ta tb : TE} {pos : Pos}
theorem pe_ix {r : R2} (hr : IxR X r) (ha : PE X a ta) (hb : PE X b tb) (hs : PlainIx b) : PE X (.Subscript a b pos) (tOp r ta tb) := by
 intro pins s σ H Q I h
 exact Subscript_ (binT ha hb I h fun v u s2 x y H2 I2 rx ry q => hr a b pins s2 σ H2 x y v u Q I2 rx ry q (hs _ _))
def rIxL (K : PySem.W.Frag) : R2 := fun x y H Q => ∃ p xs i v, x = .ref p ∧ y = .int i ∧ SqL K H p xs ∧ atI xs i = some v ∧ Q v H
def rIxT (K : PySem.W.Frag) : R2 := fun x y H Q => ∃ p xs i v, x = .ref p ∧ y = .int i ∧ SqT K H p xs ∧ atI xs i = some v ∧ Q v H
def rIxS : R2 := fun x y H Q => ∃ z i c, x = .str z ∧ y = .int i ∧ z.length ≤ sizeLine ∧ atI z.cps.toList i = some c ∧ Q (.str ⟨#[c]⟩) H
theorem ix_list : IxR X (rIxL X.K) := by
 intro value slice pins s σ H x y v u Q I rx ry h hs
 obtain ⟨p, xs, i, z, rfl, rfl, hq, he, q⟩ := h
 cases rx
 obtain ⟨t, rfl⟩ := ry
 obtain ⟨its, r, pl, hz⟩ := I.list hq
 obtain ⟨j, h1, h2, h3, h4, h5⟩ := atI_get he
 obtain ⟨w, ew, rw'⟩ := r.get h2
 have hl := r.length
 have hn := line63
 have fin : EP X pins σ Q w s := ⟨z, H, I, rw', q⟩
 by_cases h0 : 0 ≤ i
 · have hj : i.toNat = j := by
    rw [seqIndex_of h0 h5] at h1
    exact Option.some.inj h1
   exact item_listR pl.isList h0 (by omega) (by rw [hj]; simpa using ew) fin hs
 · have hj : (i + (its.toArray.size : Int)).toNat = j := by
    rw [seqIndex_neg (by omega) h4] at h1
    rw [List.size_toArray, ← hl]
    exact Option.some.inj h1
   exact subscriptTail_builtinR (x := w) pl.isList.typeIs slot_list_getitem.lookup
    (wpAny_getItem_list_neg (Q := fun r s' => r = w ∧ EP X pins σ Q r s') pl.isList (by omega) (by rw [List.size_toArray] <;> omega) (by omega) (by rw [hj]; simpa using ew) ⟨rfl, fin⟩) hs
theorem ix_tup : IxR X (rIxT X.K) := by
 intro value slice pins s σ H x y v u Q I rx ry h hs
 obtain ⟨p, xs, i, z, rfl, rfl, hq, he, q⟩ := h
 cases rx
 obtain ⟨t, rfl⟩ := ry
 obtain ⟨its, r, pl, hz⟩ := I.tuple hq
 obtain ⟨j, h1, h2, h3, h4, h5⟩ := atI_get he
 obtain ⟨w, ew, rw'⟩ := r.get h2
 have hl := r.length
 have hn := line63
 have fin : EP X pins σ Q w s := ⟨z, H, I, rw', q⟩
 exact subscriptTail_builtinR (x := w) pl.typeIs slot_tuple_getitem.lookup
  (getItem_tuple (j := j) (Q := fun r s' => r = w ∧ EP X pins σ Q r s') pl (by omega) (by omega) (by rw [List.size_toArray, ← hl]; exact h1) (by simpa using ew) ⟨rfl, fin⟩) hs
theorem ix_str : IxR X rIxS := by
 intro value slice pins s σ H x y v u Q I rx ry h hs
 obtain ⟨z, i, c, rfl, rfl, hz, he, q⟩ := h
 obtain ⟨t, rfl⟩ := rx
 obtain ⟨t', rfl⟩ := ry
 obtain ⟨j, h1, h2, h3, h4, h5⟩ := atI_get he
 have hl : z.cps.toList.length = z.length := by simp [Str.length]
 rw [hl] at h1 h4 h5
 have hn := line63
 exact tail_any (typeIs_str s z t) slot_str_getitem.lookup (getItem_str (c := c) (by
  have e1 : decide (i < -(2 ^ 63 : Int)) = false := decide_eq_false (by omega)
  have e2 : decide (i ≥ 2 ^ 63) = false := decide_eq_false (by omega)
  rw [e1, e2, Bool.or_false]) (by rw [h1]; simpa using h2) ⟨.str ⟨#[c]⟩, H, I.tok _, ⟨_, rfl⟩, q⟩) hs
theorem mapSeq_set (its : List Value) (n j : Nat) (u : Value) : Obj.mapSeq (·.setIfInBounds j u) { cls := .type "list", data := .seq its.toArray n } = { cls := .type "list", data := .seq (its.set j u).toArray n } := by
 simp [Obj.mapSeq]
theorem Inv.lst {pins : List (Addr × Obj)} {σ : St} {H : Hp} {s : Shared} {p : Addr} {xs : List V} (I : Inv X pins σ H s) (h : H p = some (.lst xs)) :
 ∃ (its : List Value) (n : Nat), Vals xs its ∧ s.heap.get? p = some { cls := .type "list", data := .seq its.toArray n } ∧ xs.length ≤ sizeLine := by
 obtain ⟨z, its, n, r, e⟩ := I.hok p _ h
 exact ⟨its, n, r, e, z⟩
theorem Inv.lstUpd {pins : List (Addr × Obj)} {σ : St} {H : Hp} {s : Shared} {p : Addr} {xs ys : List V} {its its' : List Value} {n n' : Nat} {f : Obj → Obj} (I : Inv X pins σ H s) (h : H p = some (.lst xs))
 (ho : s.heap.get? p = some { cls := .type "list", data := .seq its.toArray n }) (hf : f { cls := .type "list", data := .seq its.toArray n } = { cls := .type "list", data := .seq its'.toArray n' }) (r : Vals ys its') (hz : ys.length ≤ sizeLine) (t : Nat) :
 Inv X pins σ (upd H p (.lst ys)) { s with heap := s.heap.update p f, toks := t } := by
 have e : (s.heap.update p f).get? p = some { cls := .type "list", data := .seq its'.toArray n' } := by
  rw [Heap.get?_update_self f ho (by rw [hf] <;> rfl), hf]
 refine I.write (x := p) (e := p) (by rw [h]; trivial) (.inl rfl) (fun b u hb q => (Heap.get?_update_other _ _ (Ne.symm hb)).trans q) ⟨_, e⟩ ?_
 exact ⟨hz, its', n', r, e⟩
def rSetL : V → V → V → Hp → (Hp → Prop) → Prop := fun o i v H Q => ∃ p xs k j, o = .ref p ∧ i = .int k ∧ H p = some (.lst xs) ∧ ixN xs.length k = some j ∧ Q (upd H p (.lst (xs.set j v)))
theorem set_list : PSet X rSetL := by
 intro pins s σ H o i v ov iv u Q I ro ri rv h
 obtain ⟨p, xs, k, j, rfl, rfl, hp, hj, q⟩ := h
 cases ro
 obtain ⟨t, rfl⟩ := ri
 obtain ⟨its, n, r, ho, hz⟩ := I.lst hp
 obtain ⟨h1, h2, h3, h4⟩ := ixN_seq hj
 have hl := r.length
 have hn := line63
 have I' : Inv X pins σ (upd H p (.lst (xs.set j v))) { s with heap := s.heap.update p (Obj.mapSeq (·.setIfInBounds j u)) } :=
  I.lstUpd hp ho (mapSeq_set its n j u) (r.set rv j) (by rw [List.length_set]; exact hz) s.toks
 by_cases h0 : 0 ≤ k
 · have hk : k.toNat = j := by
    rw [seqIndex_of h0 h4] at h1
    exact Option.some.inj h1
   exact PySem.W.ki_setAt ho h0 (by omega) (by rw [List.size_toArray, ← hl]; exact h4) (by rw [hk]; exact ⟨_, I', q⟩)
 · have hk : (k + (its.toArray.size : Int)).toNat = j := by
    rw [seqIndex_neg (by omega) h3] at h1
    rw [List.size_toArray, ← hl]
    exact Option.some.inj h1
   exact PySem.W.ki_setBack ho (by omega) (by rw [List.size_toArray, ← hl]; exact h3) (by omega) (by rw [hk]; exact ⟨_, I', q⟩)
theorem slice_bounds (lo hi : Option Int) (n : Nat) : (sliceBounds lo hi none n).1 = ((HT.sIx n 0 lo : Nat) : Int) ∧ (sliceBounds lo hi none n).2.1 = ((HT.sIx n n hi : Nat) : Int) ∧ (sliceBounds lo hi none n).2.2 = 1 := by
 refine ⟨?_, ?_, rfl⟩
 · cases lo with
   | none => simp [sliceBounds, HT.sIx]
   | some i =>
    simp only [sliceBounds, HT.sIx, Option.getD_none, show (1 : Int) > 0 by decide, if_true]
    by_cases h : i < 0
    · simp only [h, if_true] <;> omega
    · simp only [h, if_false] <;> omega
 · cases hi with
   | none => simp [sliceBounds, HT.sIx]
   | some i =>
    simp only [sliceBounds, HT.sIx, Option.getD_none, show (1 : Int) > 0 by decide, if_true]
    by_cases h : i < 0
    · simp only [h, if_true] <;> omega
    · simp only [h, if_false] <;> omega
theorem slicePick_cut (its : List Value) (lo hi : Option Int) : slicePick its.toArray lo hi none = ((its.drop (HT.sIx its.length 0 lo)).take (HT.sIx its.length its.length hi - HT.sIx its.length 0 lo)).toArray := by
 obtain ⟨h1, h2, h3⟩ := slice_bounds lo hi its.toArray.size
 unfold slicePick
 rw [h1, h2, h3]
 simp only [sliceRange_one, pick_run, List.size_toArray] <;> rfl
def rSlL (K : PySem.W.Frag) : V → Option Int → Option Int → Hp → VK → Prop := fun x lo hi H Q => ∃ a xs, x = .ref a ∧ SqL K H a xs ∧ ∀ p, H p = none → Q (.ref p) (upd H p (.lst (cutV xs lo hi)))
theorem sl_list : SlR X (rSlL X.K) := by
 intro pins s σ H x v vl vu lo hi sl Q I rx hs pl pu h
 obtain ⟨a, xs, rfl, hx, q⟩ := h
 cases rx
 obtain ⟨its, r, ht, hz⟩ := I.list hx
 have hlen := r.length
 refine ⟨"list", _, slot_list_getitem.lookup, ht.isList.typeIs, ?_⟩
 refine wpAny_getItem_list_slice ht.isList hs pl pu .none (by simp) ?_ (by rw [List.size_toArray] <;> omega)
 rw [slicePick_cut, ← hlen]
 refine ⟨.ref s.heap.objs.size, _, I.laid (t' := s.toks) (o := .lst (cutV xs lo hi)) (fun b ob q => Heap.get?_push_of_some _ q) (Nat.le_refl _) ?_, rfl, q _ (I.hok.fresh (Nat.le_refl _))⟩
 exact ⟨Nat.le_trans (cutV_length xs lo hi) hz, _, 0, (r.drop (HT.sIx xs.length 0 lo)).take (HT.sIx xs.length xs.length hi - HT.sIx xs.length 0 lo), Heap.get?_push_size _ rfl⟩
def flatV : V → Bool
 | .non => true
 | .bl _ => true
 | .int _ => true
 | .str _ => true
 | _ => false
def eqV : V → V → Bool
 | .non, .non => true
 | .bl a, .bl b => a == b
 | .bl a, .int b => (if a then 1 else 0) == b
 | .int a, .bl b => a == (if b then 1 else 0)
 | .int a, .int b => a == b
 | .str a, .str b => a == b
 | _, _ => false
theorem eqAt_V {A : Around} {s : Shared} {y x : V} {u v : Value} (ry : RelV y u) (rx : RelV x v) (fy : flatV y = true) (fx : flatV x = true) : SeqAt.EqAt A s u v (eqV y x) := by
 cases y with
 | non =>
  cases ry
  cases x with
  | non => cases rx; exact SeqAt.EqAt.same _
  | bl b => cases rx; exact SeqAt.EqAt.none_bool b
  | int b => obtain ⟨t, rfl⟩ := rx; exact SeqAt.EqAt.none_int b t
  | str b => obtain ⟨t, rfl⟩ := rx; exact SeqAt.EqAt.none_str b t
  | _ => exact absurd (show false = true from fx) Bool.false_ne_true
 | bl a =>
  cases ry
  cases x with
  | non => cases rx; exact SeqAt.EqAt.bool_none a
  | bl b => cases rx; exact SeqAt.EqAt.bool_bool a b
  | int b => obtain ⟨t, rfl⟩ := rx; exact SeqAt.EqAt.bool_int a b t
  | str b => obtain ⟨t, rfl⟩ := rx; exact SeqAt.EqAt.bool_str a b t
  | _ => exact absurd (show false = true from fx) Bool.false_ne_true
 | int a =>
  obtain ⟨t', rfl⟩ := ry
  cases x with
  | non => cases rx; exact SeqAt.EqAt.int_none a t'
  | bl b => cases rx; exact SeqAt.EqAt.int_bool a t' b
  | int b => obtain ⟨t, rfl⟩ := rx; exact SeqAt.EqAt.int_int a t' b t
  | str b => obtain ⟨t, rfl⟩ := rx; exact SeqAt.EqAt.int_str a t' b t
  | _ => exact absurd (show false = true from fx) Bool.false_ne_true
 | str a =>
  obtain ⟨t', rfl⟩ := ry
  cases x with
  | non => cases rx; exact SeqAt.EqAt.str_none a t'
  | bl b => cases rx; exact SeqAt.EqAt.str_bool a t' b
  | int b => obtain ⟨t, rfl⟩ := rx; exact SeqAt.EqAt.str_int a t' b t
  | str b => obtain ⟨t, rfl⟩ := rx; exact SeqAt.EqAt.str_str a t' b t
  | _ => exact absurd (show false = true from fx) Bool.false_ne_true
 | _ => exact absurd (show false = true from fy) Bool.false_ne_true
def eqU (x : V) (u : Value) : Bool := match u with
 | .none => eqV .non x
 | .bool b => eqV (.bl b) x
 | .int i _ => eqV (.int i) x
 | .str z _ => eqV (.str z) x
 | _ => false
theorem eqU_of {x y : V} {u : Value} (r : RelV y u) (f : flatV y = true) : eqU x u = eqV y x := by
 cases y with
 | non => cases r; rfl
 | bl b => cases r; rfl
 | int i => obtain ⟨t, rfl⟩ := r; rfl
 | str z => obtain ⟨t, rfl⟩ := r; rfl
 | _ => exact absurd (show false = true from f) Bool.false_ne_true
theorem any_eqU {x : V} : ∀ {xs : List V} {us : List Value}, Vals xs us → xs.all flatV = true → us.any (eqU x) = xs.any fun y => eqV y x
 | _, _, .nil, _ => rfl
 | y :: xs, u :: us, .cons r t, f => by
  rw [List.all_cons, Bool.and_eq_true] at f
  rw [List.any_cons, List.any_cons, eqU_of r f.1, any_eqU t f.2]
theorem mem_eqAt {A : Around} {s : Shared} {x : V} {v : Value} (rx : RelV x v) (fx : flatV x = true) : ∀ {xs : List V} {us : List Value}, Vals xs us → xs.all flatV = true → ∀ u ∈ us, SeqAt.EqAt A s u v (eqU x u)
 | _, _, .nil, _ => fun u hu => by cases hu
 | y :: xs, u :: us, .cons r t, f => fun u' hu => by
  rw [List.all_cons, Bool.and_eq_true] at f
  rcases List.mem_cons.mp hu with rfl | hu
  · rw [eqU_of r f.1]; exact eqAt_V r rx f.1 fx
  · exact mem_eqAt rx fx t f.2 u' hu
def inV (x : V) (xs : List V) : Bool := xs.any fun y => eqV y x
def rIn (K : PySem.W.Frag) (neg : Bool) : R2 := fun x y H Q => ∃ p xs, y = .ref p ∧ (SqL K H p xs ∨ SqT K H p xs) ∧ flatV x = true ∧ xs.all flatV = true ∧ Q (.bl (if neg then !inV x xs else inV x xs)) H
theorem op_notIn_seq : OpR X (compareOp .NotIn) (rIn X.K true) := by
 intro pins s σ H x y v u Q I rx ry h
 obtain ⟨p, xs, rfl, hq, fx, fs, q⟩ := h
 cases ry
 rcases hq with hq | hq
 · obtain ⟨its, r, pl, hz⟩ := I.list hq
   refine SeqAt.notIn_listAt (eqU x) pl.isList (fun w hw => mem_eqAt rx fx r fs w (by simpa using hw)) ⟨.bl _, H, I, rfl, ?_⟩
   rw [show its.toArray.any (eqU x) = its.any (eqU x) by simp, any_eqU r fs]
   exact q
 · obtain ⟨its, r, pl, hz⟩ := I.tuple hq
   refine SeqAt.notIn_tupleAt (eqU x) pl (fun w hw => mem_eqAt rx fx r fs w (by simpa using hw)) ⟨.bl _, H, I, rfl, ?_⟩
   rw [show its.toArray.any (eqU x) = its.any (eqU x) by simp, any_eqU r fs]
   exact q
theorem call_len_seq : CallR X (.builtin "len") (fun xs H Q => ∃ p ys, xs = [.ref p] ∧ (SqL X.K H p ys ∨ SqT X.K H p ys) ∧ Q (.int ys.length) H) := by
 intro pins s σ H xs us Q I r h
 obtain ⟨p, ys, rfl, hq, q⟩ := h
 obtain ⟨u, rfl, rx⟩ := vals1 r
 cases rx
 have hn := line63
 rcases hq with hq | hq
 · obtain ⟨its, r', pl, hz⟩ := I.list hq
   have hlen := r'.length
   exact Calls.call_len_list pl.isList (by simp only [List.size_toArray] <;> omega) ⟨.int ys.length, H, I.tok _, ⟨s.toks + 1, by rw [List.size_toArray, hlen]⟩, q⟩
 · obtain ⟨its, r', pl, hz⟩ := I.tuple hq
   have hlen := r'.length
   exact len_tuple pl (by simp only [List.size_toArray] <;> omega) ⟨.int ys.length, H, I.tok _, ⟨s.toks + 1, by rw [List.size_toArray, hlen]⟩, q⟩
theorem call_len_str : CallR X (.builtin "len") (fun xs H Q => ∃ z, xs = [.str z] ∧ z.length ≤ sizeLine ∧ Q (.int z.length) H) := by
 intro pins s σ H xs us Q I r h
 obtain ⟨z, rfl, hz, q⟩ := h
 obtain ⟨u, rfl, t, rfl⟩ := vals1 r
 have hn := line63
 exact len_str (by omega) ⟨.int z.length, H, I.tok _, ⟨_, rfl⟩, q⟩
theorem call_list_of : CallR X (.type "list") (fun xs H Q => ∃ p ys, xs = [.ref p] ∧ (SqL X.K H p ys ∨ SqT X.K H p ys) ∧ ∀ l, H l = none → Q (.ref l) (upd H l (.lst ys))) := by
 intro pins s σ H xs us Q I r h
 obtain ⟨p, ys, rfl, hq, q⟩ := h
 obtain ⟨u, rfl, rx⟩ := vals1 r
 cases rx
 have fin : ∀ (its : List Value), Vals ys its → ys.length ≤ sizeLine → ∀ (h' : Heap) (c' : Nat), (∀ b o', s.heap.get? b = some o' → h'.get? b = some o') →
  h'.get? s.heap.objs.size = some { cls := .type "list", dict := none, data := .seq its.toArray c', slots := #[] } → EP X pins σ Q (.ref s.heap.objs.size) { s with heap := h' } := fun its r' hz h' c' kp e =>
  ⟨.ref s.heap.objs.size, _, I.laid (t' := s.toks) kp (Nat.le_refl _) (show ObjOk X.prog X.w _ h' _ (.lst ys) from ⟨hz, its, c', r', e⟩), rfl, q _ (I.hok.fresh (Nat.le_refl _))⟩
 rcases hq with hq | hq
 · obtain ⟨its, r', pl, hz⟩ := I.list hq
   have hlen := r'.length
   obtain ⟨o, ho, hc, n, hd⟩ := pl.isList
   exact call_list_seq p (.inl rfl) ho hc hd (fun h' c' kp e => fin its r' hz h' c' kp e) (by simp only [List.size_toArray] <;> omega)
 · obtain ⟨its, r', pl, hz⟩ := I.tuple hq
   have hlen := r'.length
   obtain ⟨o, ho, hc, n, hd⟩ := pl
   exact call_list_seq p (.inr rfl) ho hc hd (fun h' c' kp e => fin its r' hz h' c' kp e) (by simp only [List.size_toArray] <;> omega)
def tyV (K : PySem.W.Frag) (T : String) (x : V) (H : Hp) : Prop := match x with
 | .str _ => T = "str"
 | .int _ => T = "int"
 | .ref p => (T = "list" ∧ ∃ xs, SqL K H p xs) ∨ (T = "tuple" ∧ ∃ o, K.lookup p = some o ∧ o.cls = .type "tuple" ∧ o.dict = none) ∨
  (T = "dict" ∧ ((∃ kvs, H p = some (.dK kvs)) ∨ ∃ kvs, H p = some (.dT kvs))) ∨ (T = "set" ∧ ∃ S n, H p = some (.set S n))
 | _ => False
theorem tyV_is {pins : List (Addr × Obj)} {σ : St} {H : Hp} {s : Shared} {T : String} {x : V} {v : Value} (I : Inv X pins σ H s) (r : RelV x v) (ty : tyV X.K T x H) :
 s.TypeIs v T ∧ ∀ a, v = .ref a → ∃ ob, s.heap.get? a = some ob ∧ ob.dict = none := by
 cases x with
 | str z =>
  obtain ⟨t, rfl⟩ := r
  cases (show T = "str" from ty)
  exact ⟨typeIs_str s z t, fun _ e => nomatch e⟩
 | int i =>
  obtain ⟨t, rfl⟩ := r
  cases (show T = "int" from ty)
  exact ⟨typeIs_int s i t, fun _ e => nomatch e⟩
 | ref p =>
  cases r
  rcases ty with ⟨rfl, xs, hq⟩ | ⟨rfl, o, hk, hc, hd⟩ | ⟨rfl, hk⟩ | ⟨rfl, S, n, hk⟩
  · obtain ⟨its, _, pl, _⟩ := I.list hq
    refine ⟨pl.isList.typeIs, fun a e => ?_⟩
    cases e
    obtain ⟨o, n, e, c, hd, _⟩ := pl
    exact ⟨o, e, hd⟩
  · refine ⟨⟨o, I.kIn p o hk, hc⟩, fun a e => ?_⟩
    cases e
    exact ⟨o, I.kIn _ o hk, hd⟩
  · have z : ∃ o, s.heap.get? p = some o ∧ o.ExactDict := by
     rcases hk with ⟨kvs, hk⟩ | ⟨kvs, hk⟩
     · obtain ⟨_, _, _, _, o, _, _, e, ex, _⟩ := I.hok p _ hk
       exact ⟨o, e, ex⟩
     · obtain ⟨_, _, _, _, o, _, _, e, ex, _⟩ := I.hok p _ hk
       exact ⟨o, e, ex⟩
    obtain ⟨o, e, ex⟩ := z
    refine ⟨⟨o, e, ex.1⟩, fun a e2 => ?_⟩
    cases e2
    exact ⟨o, e, ex.2.1⟩
  · obtain ⟨o, _, _, _, e, ex, _⟩ := I.hok p _ hk
    refine ⟨⟨o, e, ex.1⟩, fun a e2 => ?_⟩
    cases e2
    exact ⟨o, e, ex.2.1⟩
 | _ => exact False.elim ty
variable {o e : Expr} {es : List Expr} {to : TE} {t : TA} {name : Str} {apos cpos : Pos} {T id : String} {r : V → List V → Hp → VK → Prop}
end
end L2
namespace L2
open PySem PySem.Spec PyProof.Rows
def MtM (X : Cx) (id : String) (r : V → List V → Hp → VK → Prop) : Prop :=
 ∀ (pins : List (Addr × Obj)) (s : Shared) (σ : St) (H : Hp) (x : V) (xs : List V) (v : Value) (us : List Value) (Q : VK), Inv X pins σ H s → RelV x v → Vals xs us → r x xs H Q →
  wpAny (model X.prog X.w) X.A (call (.builtin id) (v :: us)) (EP X pins σ Q) X.xe s
theorem Vals.one {x : V} {us : List Value} (h : Vals [x] us) : ∃ u, us = [u] ∧ RelV x u := by
 cases h with | cons r t => cases t; exact ⟨_, rfl, r⟩
theorem Vals.zero : ∀ {us : List Value}, Vals [] us → us = []
 | _, .nil => rfl
theorem Vals.dropLast {xs : List V} {us : List Value} (h : Vals xs us) : Vals xs.dropLast us.dropLast := by
 induction h with
 | nil => exact .nil
 | cons r t ih =>
  cases t with
  | nil => exact .nil
  | cons q t' => exact .cons r ih
theorem Vals.rep {xs : List V} {us : List Value} (h : Vals xs us) : ∀ k : Nat, Vals (List.replicate k xs).flatten (List.replicate k us).flatten
 | 0 => .nil
 | k + 1 => by
  rw [List.replicate_succ, List.replicate_succ, List.flatten_cons, List.flatten_cons]
  exact Vals.append h (Vals.rep h k)
theorem foldl_rep (its : List Value) : ∀ (k : Nat) (acc : List Value),
 List.foldl (fun x1 x2 => x1 ++ x2) acc.toArray (List.replicate k its.toArray) = (acc ++ (List.replicate k its).flatten).toArray
 | 0, acc => by simp
 | k + 1, acc => by
  have e : acc.toArray ++ its.toArray = (acc ++ its).toArray := by simp
  have e2 : (acc ++ its) ++ (List.replicate k its).flatten = acc ++ (List.replicate (k + 1) its).flatten := by
   rw [List.replicate_succ, List.flatten_cons, List.append_assoc]
  rw [← e2, ← foldl_rep its k (acc ++ its), ← e, List.replicate_succ, List.foldl_cons]
section
variable {X : Cx} {pins : List (Addr × Obj)} {σ : St} {H : Hp} {s : Shared} {l b : Addr} {xs ys zs : List V}
theorem Inv.lset {its its' : List Value} {n : Nat} {f : Array Value → Array Value} {t' : Nat} (I : Inv X pins σ H s) (hH : H l = some (.lst xs))
 (e : s.heap.get? l = some { cls := .type "list", data := .seq its.toArray n }) (hf : f its.toArray = its'.toArray) (hv : Vals ys its') (hz : ys.length ≤ sizeLine) :
 Inv X pins σ (upd H l (.lst ys)) { s with heap := s.heap.update l (Obj.mapSeq f), toks := t' } := by
 have q := PySem.IsL.update e f
 rw [hf] at q
 refine I.write (x := l) (e := l) (by rw [hH]; exact trivial) (.inl rfl) (fun b' u hb hu => (Heap.get?_update_other s.heap (Obj.mapSeq f) (Ne.symm hb)).trans hu) ⟨_, q⟩ ?_
 exact ⟨hz, its', _, hv, q⟩
theorem Inv.lnew {its : List Value} {t' : Nat} (I : Inv X pins σ H s) (hv : Vals ys its) (hz : ys.length ≤ sizeLine) :
 Inv X pins σ (upd H s.heap.objs.size (.lst ys)) { s with heap := s.heap.push { cls := .type "list", data := .seq its.toArray }, toks := t' } :=
 I.laid (fun _ _ q => Heap.get?_push_of_some _ q) (Nat.le_refl _) ⟨hz, its, 0, hv, Heap.get?_push_size _ rfl⟩
theorem Inv.fresh (I : Inv X pins σ H s) : H s.heap.objs.size = none := I.hok.fresh (Nat.le_refl _)
theorem Inv.lstM (I : Inv X pins σ H s) (hH : H l = some (.lst xs)) : xs.length ≤ sizeLine ∧ ∃ (its : List Value) (n : Nat), Vals xs its ∧ xs.length = its.length ∧ s.heap.get? l = some { cls := .type "list", data := .seq its.toArray n } := by
 obtain ⟨z, its, n, r, e⟩ := I.hok l _ hH
 exact ⟨z, its, n, r, r.length, e⟩
theorem notLongL {n : Nat} (h : n ≤ sizeLine) : Builtin.List.listTooLong n = false := by
 unfold Builtin.List.listTooLong
 exact decide_eq_false (by omega)
end
section
variable {X : Cx}
def rAppend : V → List V → Hp → VK → Prop := fun x vs H Q => ∃ l xs y, x = .ref l ∧ vs = [y] ∧ H l = some (.lst xs) ∧ xs.length < sizeLine ∧ Q .non (upd H l (.lst (xs ++ [y])))
theorem mt_append : MtM X "list.append" rAppend := by
 intro pins s σ H x vs v us Q I rx rv h
 obtain ⟨l, xs, y, rfl, rfl, hH, hz, q⟩ := h
 cases rx
 obtain ⟨u, rfl, ru⟩ := rv.one
 obtain ⟨z, its, n, r, hl, e⟩ := I.lstM hH
 refine call_meets F.slot_list_append ⟨_, e, rfl⟩ F.entry_list_append (F.args_list_append_2 _ _) (PySem.list_append l its.toArray n u (by rw [List.size_toArray]; omega)) ⟨e, ?_⟩
 refine ⟨.non, _, I.lset (its' := its ++ [u]) hH e (by simp) (r.append (.cons ru .nil)) ?_, rfl, q⟩
 rw [List.length_append, List.length_singleton]
 omega
def rExtend : V → List V → Hp → VK → Prop := fun x vs H Q => ∃ l b xs zs, x = .ref l ∧ vs = [.ref b] ∧ H l = some (.lst xs) ∧ H b = some (.lst zs) ∧ xs.length + zs.length ≤ sizeLine ∧ Q .non (upd H l (.lst (xs ++ zs)))
def rPop : V → List V → Hp → VK → Prop := fun x vs H Q => ∃ l xs y, x = .ref l ∧ vs = [] ∧ H l = some (.lst xs) ∧ xs[xs.length - 1]? = some y ∧ Q y (upd H l (.lst xs.dropLast))
def rClear : V → List V → Hp → VK → Prop := fun x vs H Q => ∃ l xs, x = .ref l ∧ vs = [] ∧ H l = some (.lst xs) ∧ Q .non (upd H l (.lst []))
def rCat : R2 := fun x y H Q => ∃ l b xs zs, x = .ref l ∧ y = .ref b ∧ H l = some (.lst xs) ∧ H b = some (.lst zs) ∧ xs.length + zs.length ≤ sizeLine ∧ ∀ p, H p = none → Q (.ref p) (upd H p (.lst (xs ++ zs)))
theorem op_cat : OpR X (binaryOp .Add) rCat := by
 intro pins s σ H x y v u Q I rx ry h
 obtain ⟨l, b, xs, zs, rfl, rfl, hH, hB, hz, q⟩ := h
 cases rx
 cases ry
 obtain ⟨z, its, n, r, hl, e⟩ := I.lstM hH
 obtain ⟨z2, its2, n2, r2, hl2, e2⟩ := I.lstM hB
 refine PySem.P.add_list e e2 ?_ (by rw [List.size_toArray, List.size_toArray]; omega)
 have ea : its.toArray ++ its2.toArray = (its ++ its2).toArray := by simp
 rw [ea]
 exact ⟨.ref _, _, I.lnew (t' := s.toks) (r.append r2) (by rw [List.length_append]; omega), rfl, q _ I.fresh⟩
def rRep : R2 := fun x y H Q => ∃ l k xs, x = .ref l ∧ y = .int k ∧ H l = some (.lst xs) ∧ -(2 ^ 63) ≤ k ∧ k < 2 ^ 63 ∧ xs.length * k.toNat ≤ sizeLine ∧
 ∀ p, H p = none → Q (.ref p) (upd H p (.lst (List.replicate k.toNat xs).flatten))
theorem len_rep {α : Type} (xs : List α) (k : Nat) : (List.replicate k xs).flatten.length = k * xs.length := by
 induction k with
 | zero => simp
 | succ k ih => rw [List.replicate_succ, List.flatten_cons, List.length_append, ih, Nat.succ_mul, Nat.add_comm]
theorem op_rep : OpR X (binaryOp .Mult) rRep := by
 intro pins s σ H x y v u Q I rx ry h
 obtain ⟨l, k, xs, rfl, rfl, hH, h1, h2, hz, q⟩ := h
 cases rx
 obtain ⟨t, rfl⟩ := ry
 obtain ⟨z, its, n, r, hl, e⟩ := I.lstM hH
 have hlen : its.toArray.size * k.toNat ≤ sizeLine := by rw [List.size_toArray, ← hl]; exact hz
 have hcap : ¬ its.toArray.size * k.toNat > (2 ^ 63 - 1) / 8 := by
  have : (sizeLine : Nat) ≤ (2 ^ 63 - 1) / 8 := by decide
  omega
 have hfit : ¬ (!Builtin.List.listFitsIndex k) = true := by
  rw [fitsIndex_both h1 h2]
  exact Bool.false_ne_true
 have hlong : ¬ Builtin.List.listTooLong (its.toArray.size * k.toNat) = true := by
  rw [notLongL hlen]
  exact Bool.false_ne_true
 have hnew : List.foldl (fun x1 x2 => x1 ++ x2) #[] (List.replicate (if its.toArray.isEmpty = true then 0 else k.toNat) its.toArray) = (List.replicate k.toNat its).flatten.toArray := by
  have f0 : ∀ m : Nat, List.foldl (fun x1 x2 => x1 ++ x2) #[] (List.replicate m its.toArray) = (List.replicate m its).flatten.toArray := fun m => by
   have := foldl_rep its m []
   rw [List.nil_append] at this
   exact this
  rw [f0]
  cases its with
  | nil => simp
  | cons a r' => rw [if_neg (by simp)]
 refine wpAny_binaryOp_repeat_ref (T := "list") (U := "int") (by decide) ⟨_, e, rfl⟩ (fun s' => typeIs_int s' k t) noFill_list_mul F.fills_int_mul F.slot_int_rmul repeat_list F.slot_int_index.lookup
  (call_meets F.slot_int_rmul (typeIs_int s k t) F.entry_int_rmul (F.args_int_rmul_2 _ _) (int___rmul___int_list k t l its.toArray n)
    ⟨e, rfl, ⟨_, e, rfl⟩, call_meets F.slot_list_mul ⟨_, e, rfl⟩ F.entry_list_mul (F.args_list_mul_2 _ _) (AutoListH.list___mul___list_int_3 l its.toArray n k t hfit hcap hlong) ⟨e, ?_⟩⟩)
 rw [hnew]
 exact ⟨.ref _, _, I.lnew (t' := s.toks) (r.rep k.toNat) (by rw [len_rep, Nat.mul_comm]; exact hz), rfl, q _ I.fresh⟩
end
section
variable {prog : Program} {w : World} {A : Around} {E : Value → Shared → Prop} {s : Shared}
end
section
variable {X : Cx}
end
end L2
namespace L2
open PySem PySem.Spec PyProof.Rows
section
variable {κ : Type} [DecidableEq κ]
def valV (kvs : List (κ × V)) (k : κ) : Option V := (kvs.find? fun kv => decide (kv.1 = k)).map (·.2)
def putK (kvs : List (κ × V)) (k : κ) (v : V) : List (κ × V) :=
 if (kvs.any fun kv => decide (kv.1 = k)) = true then kvs.map (fun kv => if kv.1 = k then (kv.1, v) else kv) else kvs ++ [(k, v)]
def dropK (kvs : List (κ × V)) (k : κ) : List (κ × V) := kvs.filter fun kv => decide (kv.1 ≠ k)
theorem valV_pos {p : κ × V} {r : List (κ × V)} {k : κ} (e : p.1 = k) : valV (p :: r) k = some p.2 := by simp [valV, List.find?_cons, e]
theorem valV_neg {p : κ × V} {r : List (κ × V)} {k : κ} (e : ¬ p.1 = k) : valV (p :: r) k = valV r k := by simp [valV, List.find?_cons, e]
theorem valV_any (k : κ) : ∀ kvs : List (κ × V), (kvs.any fun kv => decide (kv.1 = k)) = (valV kvs k).isSome
 | [] => rfl
 | p :: r => by
  rw [List.any_cons]
  by_cases e : p.1 = k
  · simp only [valV_pos e, decide_eq_true e, Bool.true_or, Option.isSome_some]
  · rw [valV_neg e, decide_eq_false e, Bool.false_or]; exact valV_any k r
theorem valV_map (k j : κ) (y : V) : ∀ kvs : List (κ × V), valV (kvs.map fun kv => if kv.1 = k then (kv.1, y) else kv) j = (valV kvs j).map fun x => if j = k then y else x
 | [] => rfl
 | p :: r => by
  have ih := valV_map k j y r
  rw [List.map_cons]
  by_cases h : p.1 = k
  · rw [if_pos h]
    by_cases e : p.1 = j
    · rw [valV_pos (p := (p.1, y)) e, valV_pos e, Option.map_some, if_pos (e.symm.trans h)]
    · rw [valV_neg (p := (p.1, y)) e, valV_neg e, ih]
  · rw [if_neg h]
    by_cases e : p.1 = j
    · rw [valV_pos (p := p) e, valV_pos e, Option.map_some, if_neg (fun z => h (e.trans z))]
    · rw [valV_neg (p := p) e, valV_neg e, ih]
theorem valV_snoc (k j : κ) (y : V) : ∀ kvs : List (κ × V), valV kvs k = none → valV (kvs ++ [(k, y)]) j = if j = k then some y else valV kvs j
 | [], _ => by
  by_cases e : k = j
  · rw [if_pos e.symm]; exact valV_pos (p := (k, y)) e
  · rw [if_neg (fun z => e z.symm)]; exact valV_neg (p := (k, y)) e
 | p :: r, hn => by
  rw [List.cons_append]
  have hk : ¬ p.1 = k := fun z => by rw [valV_pos z] at hn; cases hn
  rw [valV_neg hk] at hn
  have ih := valV_snoc k j y r hn
  by_cases e : p.1 = j
  · rw [valV_pos e, valV_pos e, if_neg (fun z => hk (e.trans z))]
  · rw [valV_neg e, valV_neg e, ih]
theorem valV_put (kvs : List (κ × V)) (k j : κ) (y : V) : valV (putK kvs k y) j = if j = k then some y else valV kvs j := by
 unfold putK
 by_cases a : (kvs.any fun kv => decide (kv.1 = k)) = true
 · rw [if_pos a, valV_map]
   rw [valV_any] at a
   by_cases e : j = k
   · obtain ⟨x, hx⟩ := Option.isSome_iff_exists.mp a
     rw [if_pos e, e, hx, Option.map_some, if_pos rfl]
   · rw [if_neg e]
     cases valV kvs j with
     | none => rfl
     | some x => rw [Option.map_some, if_neg e]
 · rw [if_neg a]
   refine valV_snoc k j y kvs ?_
   rw [valV_any] at a
   cases q : valV kvs k with
   | none => rfl
   | some x => rw [q] at a; exact (a rfl).elim
theorem length_putK (kvs : List (κ × V)) (k : κ) (v : V) : (putK kvs k v).length ≤ kvs.length + 1 := by
 unfold putK
 split
 · rw [List.length_map]; omega
 · rw [List.length_append, List.length_cons, List.length_nil]; omega
theorem RelO.isSome_eq {o : Option V} {u : Option Value} (r : RelO o u) : o.isSome = u.isSome := by
 cases o with
 | none => cases u with
  | none => rfl
  | some _ => exact (show False from r).elim
 | some _ => cases u with
  | none => exact (show False from r).elim
  | some _ => rfl
theorem RelO.getD {o : Option V} {u : Option Value} {d : V} {d' : Value} (r : RelO o u) (rd : RelV d d') : RelV (o.getD d) (u.getD d') := by
 cases o with
 | none => cases u with
  | none => exact rd
  | some _ => exact (show False from r).elim
 | some _ => cases u with
  | none => exact (show False from r).elim
  | some _ => exact r
theorem KV.val {kvs : List (κ × V)} {vs : List (κ × Value)} (r : KV kvs vs) (k : κ) : RelO (valV kvs k) (valueAt vs k) := by
 unfold KV at r
 induction r with
 | nil => exact True.intro
 | @cons p q ps qs h t ih =>
  obtain ⟨h1, h2⟩ := h
  by_cases e : p.1 = k
  · have e' : q.1 = k := h1.symm.trans e
    have b : valueAt (q :: qs) k = some q.2 := by simp [valueAt, List.find?_cons, e']
    rw [valV_pos e, b]; exact h2
  · have e' : ¬ q.1 = k := fun z => e (h1.trans z)
    have b : valueAt (q :: qs) k = valueAt qs k := by simp [valueAt, List.find?_cons, e']
    rw [valV_neg e, b]; exact ih
theorem KV.any {kvs : List (κ × V)} {vs : List (κ × Value)} (r : KV kvs vs) (k : κ) : (kvs.any fun kv => decide (kv.1 = k)) = vs.any fun kv => decide (kv.1 = k) := by
 unfold KV at r
 induction r with
 | nil => rfl
 | cons h t ih => rw [List.any_cons, List.any_cons, ih, h.1]
theorem KV.repl {kvs : List (κ × V)} {vs : List (κ × Value)} (r : KV kvs vs) (k : κ) {y : V} {u : Value} (ry : RelV y u) :
 KV (kvs.map fun kv => if kv.1 = k then (kv.1, y) else kv) (vs.map fun kv => if kv.1 = k then (kv.1, u) else kv) := by
 unfold KV at r ⊢
 induction r with
 | nil => exact .nil
 | @cons p q ps qs h t ih =>
  rw [List.map_cons, List.map_cons]
  refine .cons ?_ ih
  obtain ⟨h1, h2⟩ := h
  by_cases e : p.1 = k
  · rw [if_pos e, if_pos (h1.symm.trans e)]; exact ⟨h1, ry⟩
  · rw [if_neg e, if_neg (fun z => e (h1.trans z))]; exact ⟨h1, h2⟩
theorem KV.put {kvs : List (κ × V)} {vs : List (κ × Value)} (r : KV kvs vs) (k : κ) {y : V} {u : Value} (ry : RelV y u) : KV (putK kvs k y) (stored vs k u) := by
 unfold putK stored
 rw [r.any k]
 by_cases e : (vs.any fun kv => decide (kv.1 = k)) = true
 · rw [if_pos e, if_pos e]; exact r.repl k ry
 · rw [if_neg e, if_neg e]; exact Paired.snoc r ⟨rfl, ry⟩
theorem KV.drop {kvs : List (κ × V)} {vs : List (κ × Value)} (r : KV kvs vs) (k : κ) : KV (dropK kvs k) (without vs k) := by
 unfold KV at r ⊢
 unfold dropK without
 induction r with
 | nil => exact .nil
 | @cons p q ps qs h t ih =>
  obtain ⟨h1, h2⟩ := h
  rw [List.filter_cons, List.filter_cons]
  by_cases e : p.1 = k
  · have a : ¬ decide (p.1 ≠ k) = true := by simp [e]
    have b : ¬ decide (q.1 ≠ k) = true := by simp [h1.symm.trans e]
    rw [if_neg a, if_neg b]; exact ih
  · have e' : ¬ q.1 = k := fun z => e (h1.trans z)
    have a : decide (p.1 ≠ k) = true := by simp [e]
    have b : decide (q.1 ≠ k) = true := by simp [e']
    rw [if_pos a, if_pos b]; exact .cons ⟨h1, h2⟩ ih
theorem KV.keys {kvs : List (κ × V)} {vs : List (κ × Value)} (r : KV kvs vs) : kvs.map (·.1) = vs.map (·.1) := by
 unfold KV at r
 induction r with
 | nil => rfl
 | cons h t ih => rw [List.map_cons, List.map_cons, ih, h.1]
theorem KV.length {kvs : List (κ × V)} {vs : List (κ × Value)} (r : KV kvs vs) : kvs.length = vs.length := Paired.length r
end
theorem kV_is {P : Program} {w : World} {k : Key} {u : Value} (r : RelV (kV k) u) : (mixKind P w).is k u = true := by
 cases k with
 | inl i => obtain ⟨t, e⟩ := (show ∃ t, u = Value.int i t from r); subst e; exact mixKind_int P w i t
 | inr x => obtain ⟨t, e⟩ := (show ∃ t, u = Value.str x t from r); subst e; exact mixKind_str P w x t
theorem items_are {P : Program} {w : World} : ∀ {ks : List Key} {us : List Value}, Vals (ks.map kV) us → ItemsAre (mixKind P w) ks us
 | [], _, r => by rw [List.map_nil] at r; cases r; exact .nil
 | k :: ks, _, r => by
  rw [List.map_cons] at r
  cases r with
  | cons h t => exact .cons (kV_is h) (items_are t)
abbrev KT (H : Hp) : List (List Key × V) → List (List Key × Addr × Value) → Prop := Paired fun p q => p.1 = q.1 ∧ H q.2.1 = some (.tup (p.1.map kV)) ∧ RelV p.2 q.2.2
theorem KT.val {H : Hp} {kvs : List (List Key × V)} {xs : List (List Key × Addr × Value)} (r : KT H kvs xs) (k : List Key) : RelO (valV kvs k) ((atKey xs k).map (·.2)) := by
 induction r with
 | nil => exact True.intro
 | @cons p q ps qs h t ih =>
  obtain ⟨h1, _, h2⟩ := h
  by_cases e : p.1 = k
  · have e' : q.1 = k := h1.symm.trans e
    have b : atKey (q :: qs) k = some q.2 := by simp [atKey, List.find?_cons, e']
    rw [valV_pos e, b]; exact h2
  · have e' : ¬ q.1 = k := fun z => e (h1.trans z)
    have b : atKey (q :: qs) k = atKey qs k := by simp [atKey, List.find?_cons, e']
    rw [valV_neg e, b]; exact ih
theorem KT.repl {H : Hp} {kvs : List (List Key × V)} {xs : List (List Key × Addr × Value)} (r : KT H kvs xs) (k : List Key) {y : V} {u : Value} (ry : RelV y u) :
 KT H (kvs.map fun kv => if kv.1 = k then (kv.1, y) else kv) (xs.map (putAt k u)) := by
 induction r with
 | nil => exact .nil
 | @cons p q ps qs h t ih =>
  rw [List.map_cons, List.map_cons]
  refine .cons ?_ ih
  obtain ⟨h1, h2, h3⟩ := h
  unfold putAt
  by_cases e : p.1 = k
  · rw [if_pos e, if_pos (h1.symm.trans e)]; exact ⟨h1, h2, ry⟩
  · rw [if_neg e, if_neg (fun z => e (h1.trans z))]; exact ⟨h1, h2, h3⟩
theorem KT.put {H : Hp} {kvs : List (List Key × V)} {xs : List (List Key × Addr × Value)} (r : KT H kvs xs) (k : List Key) {b : Addr} {y : V} {u : Value} (hb : H b = some (.tup (k.map kV))) (ry : RelV y u) :
 KT H (putK kvs k y) (storedH xs k b u) := by
 have e : (kvs.any fun kv => decide (kv.1 = k)) = (atKey xs k).isSome := by
  rw [valV_any, (r.val k).isSome_eq, Option.isSome_map]
 unfold putK storedH
 rw [e]
 by_cases q : (atKey xs k).isSome = true
 · rw [if_pos q, if_pos q]; exact r.repl k ry
 · rw [if_neg q, if_neg q]; exact Paired.snoc r ⟨rfl, hb, ry⟩
theorem KT.keeps {H H' : Hp} {kvs : List (List Key × V)} {xs : List (List Key × Addr × Value)} (r : KT H kvs xs) (ht : ∀ b ys, H b = some (.tup ys) → H' b = some (.tup ys)) : KT H' kvs xs :=
 Paired.mapP r fun _ _ z => ⟨z.1, ht _ _ z.2.1, z.2.2⟩
section
variable {P : Program} {w : World} {H : Hp} {h : Heap} {a : Addr}
theorem rd_of {u : HO} (ok : HOk P w H h) (e : Rd H a u) : ObjOk P w H h a u := e.ok ok
theorem dk_rd {kvs : List (Key × V)} (ok : HOk P w H h) (e : Rd H a (.dK kvs)) : kvs.length ≤ sizeLine ∧ (a == sysModules) = false ∧ ∃ vs, KV kvs vs ∧ h.DictOf (mixKind P w) a vs :=
 show ObjOk P w H h a (.dK kvs) from rd_of ok e
theorem dk_of {kvs : List (Key × V)} (ok : HOk P w H h) (e : H a = some (.dK kvs)) : kvs.length ≤ sizeLine ∧ (a == sysModules) = false ∧ ∃ vs, KV kvs vs ∧ h.DictOf (mixKind P w) a vs := dk_rd ok (.inl e)
theorem key_of {ks : List Key} (ok : HOk P w H h) (e : H a = some (.tup (ks.map kV))) : (tupleKind (mixKind P w)).is h ks a := by
 obtain ⟨_, its, r, o, h1, h2, n, h3⟩ := (show ObjOk P w H h a (.tup (ks.map kV)) from ok a _ e)
 exact ⟨o, its.toArray, n, h1, h2, h3, by simpa using items_are r⟩
theorem dt_rd {kvs : List (List Key × V)} (ok : HOk P w H h) (e : Rd H a (.dT kvs)) : kvs.length ≤ sizeLine ∧ (a == sysModules) = false ∧
 ∃ xs, KT H kvs xs ∧ h.DictOfH (tupleKind (mixKind P w)) a xs := by
 obtain ⟨z, y, xs, r, o, es, ep, h1, h2, h3, h4, h5⟩ := (show ObjOk P w H h a (.dT kvs) from rd_of ok e)
 refine ⟨z, y, xs, r, o, es, ep, h1, h2, h3, h4, fun x hx => ?_, h5⟩
 have all : ∀ {l : List (List Key × V)} {m : List (List Key × Addr × Value)}, KT H l m → ∀ x ∈ m, (tupleKind (mixKind P w)).is h x.1 x.2.1 := by
  intro l m q
  induction q with
  | nil => intro x hx; exact nomatch hx
  | @cons p q ps qs hq t ih =>
   intro x hx
   rcases List.mem_cons.mp hx with e | hx
   · subst e
     exact key_of ok (by rw [← hq.1]; exact hq.2.1)
   · exact ih x hx
 exact all r x hx
theorem dt_of {kvs : List (List Key × V)} (ok : HOk P w H h) (e : H a = some (.dT kvs)) : kvs.length ≤ sizeLine ∧ (a == sysModules) = false ∧
 ∃ xs, KT H kvs xs ∧ h.DictOfH (tupleKind (mixKind P w)) a xs := dt_rd ok (.inl e)
end
def DGet (H : Hp) (a : Addr) (y : V) (r : Option V) : Prop :=
 (∃ kvs k, Rd H a (.dK kvs) ∧ y = kV k ∧ r = valV kvs k) ∨ ∃ kvs k b, Rd H a (.dT kvs) ∧ y = .ref b ∧ H b = some (.tup (k.map kV)) ∧ r = valV kvs k
def DPut (H : Hp) (a : Addr) (y v : V) (H' : Hp) : Prop :=
 (∃ kvs k, H a = some (.dK kvs) ∧ y = kV k ∧ kvs.length < sizeLine ∧ H' = upd H a (.dK (putK kvs k v))) ∨
 ∃ kvs k b, H a = some (.dT kvs) ∧ y = .ref b ∧ H b = some (.tup (k.map kV)) ∧ kvs.length < sizeLine ∧ H' = upd H a (.dT (putK kvs k v))
theorem DGet.k {H : Hp} {a : Addr} {kvs : List (Key × V)} {k : Key} (e : H a = some (.dK kvs)) : DGet H a (kV k) (valV kvs k) := .inl ⟨kvs, k, .inl e, rfl, rfl⟩
theorem DGet.t {H : Hp} {a b : Addr} {kvs : List (List Key × V)} {k : List Key} (e : H a = some (.dT kvs)) (eb : H b = some (.tup (k.map kV))) : DGet H a (.ref b) (valV kvs k) := .inr ⟨kvs, k, b, .inl e, rfl, eb, rfl⟩
theorem DPut.k {H : Hp} {a : Addr} {kvs : List (Key × V)} {k : Key} {v : V} (e : H a = some (.dK kvs)) (hl : kvs.length < sizeLine) : DPut H a (kV k) v (upd H a (.dK (putK kvs k v))) := .inl ⟨kvs, k, e, rfl, hl, rfl⟩
theorem DPut.t {H : Hp} {a b : Addr} {kvs : List (List Key × V)} {k : List Key} {v : V} (e : H a = some (.dT kvs)) (eb : H b = some (.tup (k.map kV))) (hl : kvs.length < sizeLine) :
 DPut H a (.ref b) v (upd H a (.dT (putK kvs k v))) := .inr ⟨kvs, k, b, e, rfl, eb, hl, rfl⟩
section
variable {X : Cx} {pins : List (Addr × Obj)} {σ : St} {H : Hp} {s : Shared} {a : Addr} {y v : V} {u r : Value} {o : Option V} {A : Around} {E : Value → Shared → Prop}
theorem Inv.big (I : Inv X pins σ H s) : sysModules < s.heap.objs.size := by
 have h : mainGlobals < s.heap.objs.size := (I.mod.glob.keeps I.bk).lt
 exact Nat.lt_trans (by decide) h
theorem d_getItem {Q : Value → Shared → Prop} (hu : A.units + 1 < cLine) (I : Inv X pins σ H s) (g : DGet H a y (some v)) (ry : RelV y u) (h : ∀ w' s', Inv X pins σ H s' → RelV v w' → Q w' s') :
 wpAny (model X.prog X.w) A (getItem (.ref a) u) Q E s := by
 rcases g with ⟨kvs, k, e, ey, l⟩ | ⟨kvs, k, b, e, ey, eb, l⟩
 · subst ey
   obtain ⟨z, hd, vs, rel, dd⟩ := dk_rd I.hok e
   obtain ⟨w', hw, rw'⟩ := RelO.some_of (v := v) (o := valueAt vs k) (by rw [l]; exact rel.val k)
   exact wpAny_getItem_of (kV_is ry) dd.mapOf hw (h w' _ (I.tok _) rw')
 · subst ey
   cases (show u = Value.ref b from ry)
   obtain ⟨z, hd, xs, rel, dd⟩ := dt_rd I.hok e
   obtain ⟨w', hw, rw'⟩ := RelO.some_of (v := v) (o := (atKey xs k).map (·.2)) (by rw [l]; exact rel.val k)
   obtain ⟨p, hp, hp2⟩ := Option.map_eq_some_iff.mp hw
   refine wpAny_getItem_heap (tupleKind_room_in1 hu) (key_of I.hok eb) dd hp ?_
   rw [hp2]
   exact h w' _ (I.tok _) rw'
theorem d_notIn {Q : Value → Shared → Prop} (hu : A.units + 1 < cLine) (I : Inv X pins σ H s) (g : DGet H a y o) (ry : RelV y u) (h : ∀ s', Inv X pins σ H s' → Q (.bool (!o.isSome)) s') :
 wpAny (model X.prog X.w) A (compareOp .NotIn u (.ref a)) Q E s := by
 rcases g with ⟨kvs, k, e, ey, l⟩ | ⟨kvs, k, b, e, ey, eb, l⟩
 · subst ey
   obtain ⟨z, hd, vs, rel, dd⟩ := dk_rd I.hok e
   refine wpAny_notIn_of (kV_is ry) hd dd.mapOf ?_
   rw [← (rel.val k).isSome_eq, ← l]
   exact h _ (I.tok _)
 · subst ey
   cases (show u = Value.ref b from ry)
   obtain ⟨z, hd, xs, rel, dd⟩ := dt_rd I.hok e
   refine wpAny_notIn_heap (tupleKind_room_in1 hu) (key_of I.hok eb) hd dd ?_
   have q := (rel.val k).isSome_eq
   rw [Option.isSome_map] at q
   rw [← q, ← l]
   exact h _ (I.tok _)
theorem d_write {h' : Heap} {t' : Nat} {ob : HO} (I : Inv X pins σ H s) (mu : Mut (H a)) (hs : Heap.SameBut a s.heap h') (he : ∃ q, h'.get? a = some q) (new : ObjOk X.prog X.w (upd H a ob) h' a ob) :
 Inv X pins σ (upd H a ob) { s with heap := h', toks := t' } :=
 I.write (x := a) (e := a) mu (.inl rfl) (fun b q hb z => (hs.2 b hb).trans z) he new
theorem dk_new {P : Program} {w : World} {H' : Hp} {h' : Heap} {kvs : List (Key × V)} {vs : List (Key × Value)} (z : kvs.length ≤ sizeLine) (hd : (a == sysModules) = false) (rel : KV kvs vs) (dd : h'.DictOf (mixKind P w) a vs) :
 ObjOk P w H' h' a (.dK kvs) := ⟨z, hd, vs, rel, dd⟩
theorem d_setItem {H' : Hp} {Q : Unit → Shared → Prop} (hu : A.units + 1 < cLine) (I : Inv X pins σ H s) (g : DPut H a y v H') (ry : RelV y u) (rv : RelV v r) (h : ∀ s', Inv X pins σ H' s' → Q () s') :
 wpAny (model X.prog X.w) A (setItem (.ref a) u r) Q E s := by
 rcases g with ⟨kvs, k, e, ey, l, eH⟩ | ⟨kvs, k, b, e, ey, eb, l, eH⟩
 · subst ey eH
   obtain ⟨z, hd, vs, rel, dd⟩ := dk_of I.hok e
   have hz : vs.length ≤ sizeLine := by rw [← rel.length]; exact z
   have hl : (putK kvs k v).length ≤ sizeLine := by have := length_putK kvs k v; omega
   refine wpAny_setItem_pairs (hsz := hz) (kV_is ry) dd fun h' dd' hs => h _ ?_
   have he : ∃ q, h'.get? a = some q := let ⟨q, _, _, hq, _⟩ := dd'; ⟨q, hq⟩
   exact d_write I (by rw [e]; exact True.intro) hs he (dk_new hl hd (rel.put k rv) dd')
 · subst ey eH
   cases (show u = Value.ref b from ry)
   obtain ⟨z, hd, xs, rel, dd⟩ := dt_of I.hok e
   have hz : xs.length ≤ sizeLine := by rw [← Paired.length rel]; exact z
   have hl : (putK kvs k v).length ≤ sizeLine := by have := length_putK kvs k v; omega
   refine wpAny_setItem_heap (hsz := hz) (tupleKind_room_in1 hu) (key_of I.hok eb) dd fun h' dd' hs => h _ ?_
   obtain ⟨q, es, ep, hq, h2, h3, h4, _, h5⟩ := dd'
   refine d_write I (by rw [e]; exact True.intro) hs ⟨q, hq⟩ ⟨hl, hd, _, (rel.put k eb rv).keeps fun c ys ec => ?_, q, es, ep, hq, h2, h3, h4, h5⟩
   rw [upd_ne (ne_of ec e (fun z => nomatch z))]
   exact ec
end
section
variable {X : Cx} {pins : List (Addr × Obj)} {σ : St} {H : Hp} {s : Shared} {a : Addr} {kvs : List (Key × V)} {k : Key} {u : Value} {A : Around} {E : Value → Shared → Prop}
theorem d_len {Q : Value → Shared → Prop} (I : Inv X pins σ H s) (e : Rd H a (.dK kvs)) (h : ∀ t s', Inv X pins σ H s' → Q (.int kvs.length t) s') : wpAny (model X.prog X.w) A (call (.builtin "len") [.ref a]) Q E s := by
 obtain ⟨z, hd, vs, rel, dd⟩ := dk_rd I.hok e
 refine call_len_dict hd dd (by rw [← rel.length]; rw [sizeLine_eq] at z; omega) ?_
 rw [← rel.length]
 exact h _ _ (I.tok _)
end
theorem dict_typeIs {X : Cx} {pins : List (Addr × Obj)} {σ : St} {H : Hp} {s : Shared} {a : Addr} {y : V} {o : Option V} (I : Inv X pins σ H s) (g : DGet H a y o) : s.TypeIs (.ref a) "dict" := by
 rcases g with ⟨kvs, k, e, _, _⟩ | ⟨kvs, k, b, e, _, _, _⟩
 · obtain ⟨_, _, vs, _, dd⟩ := dk_rd I.hok e
   exact dd.typeIs
 · obtain ⟨_, _, xs, _, dd⟩ := dt_rd I.hok e
   exact dd.typeIs
section
variable {X : Cx} {o i e value : Expr} {pos pos' tpos : Pos} {td ty tv : TE}
end
theorem dk_empty {P : Program} {w : World} {H : Hp} (h : Heap) (hb : sysModules < h.objs.size) : ObjOk P w H (h.push { cls := .type "dict", data := .dict #[] }) h.objs.size (.dK []) :=
 ⟨Nat.zero_le _, beq_eq_false_iff_ne.mpr (Ne.symm (Nat.ne_of_lt hb)), [], .nil, Heap.DictOf.new h⟩
def tDNewK : TE := fun _ H Q => ∀ p, H p = none → Q (.ref p) (upd H p (.dK []))
section
variable {X : Cx} {pos : Pos}
end
def tPairs : List (TE × TE) → St → Hp → (List (V × V) → Hp → Prop) → Prop
 | [], _, H, Q => Q [] H
 | (tk, tv) :: r, σ, H, Q => tk σ H fun x H1 => tv σ H1 fun y H2 => tPairs r σ H2 fun ps H3 => Q ((x, y) :: ps) H3
abbrev VV : List (V × V) → List (Value × Value) → Prop := Paired fun p q => RelV p.1 q.1 ∧ RelV p.2 q.2
def PPs (X : Cx) (pos : Pos) (keys : List (Option Expr)) (values : List Expr) (trs : List (TE × TE)) : Prop :=
 ∀ (pins : List (Addr × Obj)) (s : Shared) (σ : St) (H : Hp) (Q : List (V × V) → Hp → Prop), Inv X pins σ H s → tPairs trs σ H Q →
  wpAny (model X.prog X.w) X.A (evalPairs (pairTrees keys values X.env pos)) (fun vs s' => ∃ ps H', Inv X pins σ H' s' ∧ VV ps vs ∧ Q ps H') X.xe s
theorem pps_nil {X : Cx} {pos : Pos} : PPs X pos [] [] [] := fun pins s σ H Q I h => pairTrees_nil_walk ⟨[], H, I, .nil, h⟩
theorem pps_cons {X : Cx} {pos : Pos} {k v : Expr} {ks : List (Option Expr)} {vs : List Expr} {tk tv : TE} {trs : List (TE × TE)} (hk : PE X k tk) (hv : PE X v tv) (hr : PPs X pos ks vs trs) :
 PPs X pos (some k :: ks) (v :: vs) ((tk, tv) :: trs) := fun pins s σ H Q I h =>
 pairTrees_cons_walk (thn (hk pins s σ H _ I h) fun u s1 ⟨x, H1, I1, rx, q1⟩ => thn (hv pins s1 σ H1 _ I1 q1) fun w2 s2 ⟨y, H2, I2, ry, q2⟩ =>
  thn (hr pins s2 σ H2 _ I2 q2) fun ws s3 ⟨ps, H3, I3, rel, q3⟩ => ⟨(x, y) :: ps, H3, I3, .cons ⟨rx, ry⟩ rel, q3⟩)
def mergeK (kvs more : List (Key × V)) : List (Key × V) := more.foldl (fun acc kv => putK acc kv.1 kv.2) kvs
theorem KV.merge : ∀ {more : List (Key × V)} {rs : List (Key × Value)} {kvs : List (Key × V)} {vs : List (Key × Value)}, KV more rs → KV kvs vs → KV (mergeK kvs more) (merged vs rs) := by
 intro more rs kvs vs r
 unfold KV at r
 induction r generalizing kvs vs with
 | nil => intro q; exact q
 | @cons p q ps qs h t ih =>
  intro r0
  have e : KV (putK kvs p.1 p.2) (stored vs q.1 q.2) := by
   have := r0.put p.1 h.2
   rw [← h.1]; exact this
  exact ih e
theorem length_mergeK : ∀ (more kvs : List (Key × V)), (mergeK kvs more).length ≤ kvs.length + more.length
 | [], kvs => by show kvs.length ≤ kvs.length + 0; omega
 | p :: r, kvs => by
  have h1 := length_mergeK r (putK kvs p.1 p.2)
  have h2 := length_putK kvs p.1 p.2
  show (mergeK (putK kvs p.1 p.2) r).length ≤ _
  rw [List.length_cons]; omega
theorem carries_of {P : Program} {w : World} : ∀ {kvs : List (Key × V)} {ws : List (Value × Value)}, VV (kvs.map fun kv => (kV kv.1, kv.2)) ws → ∃ rs, Carries (mixKind P w) ws rs ∧ KV kvs rs
 | [], _, r => by rw [List.map_nil] at r; cases r; exact ⟨[], True.intro, .nil⟩
 | p :: kvs, _, r => by
  rw [List.map_cons] at r
  cases r with
  | @cons a b as bs h t =>
   obtain ⟨rs, c, q⟩ := carries_of (P := P) (w := w) t
   obtain ⟨b1, b2⟩ := b
   exact ⟨(p.1, b2) :: rs, ⟨kV_is h.1, rfl, c⟩, .cons ⟨rfl, h.2⟩ q⟩
def tDisp (trs : List (TE × TE)) : TE := fun σ H Q => ∀ p, H p = none → tPairs trs σ (upd H p (.dK [])) fun ps H2 => H2 p = some (.dK []) ∧ ∃ kvs : List (Key × V), ps = kvs.map (fun kv => (kV kv.1, kv.2)) ∧ kvs.length ≤ 15 ∧ Q (.ref p) (upd H2 p (.dK (mergeK [] kvs)))
theorem pe_disp {X : Cx} {pos : Pos} {keys : List (Option Expr)} {values : List Expr} {trs : List (TE × TE)} (h : PPs X pos keys values trs) (hall : keys.all (·.isSome) = true) (hl : keys.length = values.length) (h0 : keys ≠ [])
 (h15 : keys.length ≤ 15) : PE X (.Dict keys values pos) (tDisp trs) := by
 intro pins s σ H Q I q
 have hn := I.hok.fresh (Nat.le_refl s.heap.objs.size)
 have I1 := I.laid (a := s.heap.objs.size) (o := .dK []) (h' := s.heap.push { cls := .type "dict", data := .dict #[] }) (t' := s.toks) (fun _ _ q => Heap.get?_push_of_some _ q) (Nat.le_refl _) (dk_empty s.heap I.big)
 refine wpAny_Dict_walk (knd := mixKind X.prog X.w) hall hl h0 h15 (thn (h pins _ σ _ _ I1 (q _ hn)) fun ws s2 ⟨ps, H2, I2, rel, e, kvs, ep, lk, q2⟩ => ?_)
 subst ep
 obtain ⟨rs, c, rk⟩ := carries_of (P := X.prog) (w := X.w) rel
 obtain ⟨z, hd, vs0, r0, dd⟩ := dk_of I2.hok e
 cases r0
 refine ⟨rs, c, dd, fun h' dd' hs => ⟨.ref s.heap.objs.size, _, ?_, rfl, q2⟩⟩
 have hz : (mergeK [] kvs).length ≤ sizeLine := by
  have h1 := length_mergeK kvs []
  rw [List.length_nil] at h1
  rw [sizeLine_eq]; omega
 have he : ∃ q, h'.get? s.heap.objs.size = some q := let ⟨q, _, _, hq, _⟩ := dd'; ⟨q, hq⟩
 exact d_write I2 (by rw [e]; exact True.intro) hs he (dk_new hz hd (rk.merge .nil) dd')
structure M1 (X : Cx) (o : Expr) (m : Str) (apos : Pos) (e : Expr) (cpos : Pos) : Prop where
 base : attributeBase o m X.env (eval o X.env) = eval o X.env
 few : ((backTo cpos (starEach [e] X.env)).all (fun x => !x.1) && (backToKw cpos (keywordEach [] X.env)).all (fun x => x.1.isSome)
  && decide (([e] : List Expr).length + ([] : List Keyword).length + (if ([] : List Keyword).isEmpty then 0 else 1) < 30)) = true
 line : (apos.endLine == cpos.line) = true
 trees : backTo cpos (starEach [e] X.env) = [(false, eval e X.env)]
structure M2 (X : Cx) (o : Expr) (m : Str) (apos : Pos) (e f : Expr) (cpos : Pos) : Prop where
 base : attributeBase o m X.env (eval o X.env) = eval o X.env
 few : ((backTo cpos (starEach [e, f] X.env)).all (fun x => !x.1) && (backToKw cpos (keywordEach [] X.env)).all (fun x => x.1.isSome)
  && decide (([e, f] : List Expr).length + ([] : List Keyword).length + (if ([] : List Keyword).isEmpty then 0 else 1) < 30)) = true
 line : (apos.endLine == cpos.line) = true
 trees : backTo cpos (starEach [e, f] X.env) = [(false, eval e X.env), (false, eval f X.env)]
section
variable {X : Cx} {pins : List (Addr × Obj)} {σ : St} {H : Hp} {s : Shared} {a : Addr} {y d : V} {u r : Value} {o : Option V} {A : Around} {E : Value → Shared → Prop}
end
section
variable {X : Cx} {o e f : Expr} {apos cpos : Pos} {td ty tx : TE}
end
section
variable {X : Cx} {pins : List (Addr × Obj)} {σ : St} {H : Hp} {s : Shared} {a : Addr} {kvs : List (Key × V)} {A : Around} {E : Value → Shared → Prop}
end
section
variable {X : Cx} {pins : List (Addr × Obj)} {σ : St} {H : Hp} {s : Shared} {a : Addr} {y : V} {u : Value} {A : Around} {E : Value → Shared → Prop}
end
end L2
namespace Att
open PySem PySem.W PySem.Calls PyProof.Rows
theorem ints_of_wellAll {P : Params} {h : Heap} : ∀ (ns : List Int) (vs : List Value), WellAll P h vs (ns.map WData.int) → IntsAre vs ns := by
 intro ns
 induction ns with
 | nil =>
  intro vs w
  rw [List.map_nil] at w
  cases w
  exact .nil
 | cons n ns ih =>
  intro vs w
  rw [List.map_cons] at w
  cases w with
  | cons a b =>
   cases a
   exact .cons _ _ (ih _ b)
theorem script_of {l : OpenLaw} {n : Nat} (hn : l.most = some n) {P : Params} {h : Heap} {args : List WData} {vals : List Value}
 (hpre : l.row.toRowW.claim.pre args = true) (hwl : WellAll P h vals args) :
 ∃ a vs ns, vals = [Value.ref a] ∧ args = [WData.list (ns.map WData.int)] ∧ h.get? a = some { cls := .type "list", data := .seq vs.toArray } ∧ IntsAre vs ns ∧ ns.length ≤ n := by
 have hsh : WShape.hasAll [] args [.list .int] = true := (pre_splitW hpre).1
 have hc : l.pre.holds [] { args := args } = true := (pre_splitW hpre).2
 obtain ⟨d, r, rfl, h1, h2⟩ := hasAllW_cons hsh
 obtain rfl := hasAllW_nil h2
 obtain ⟨xs, rfl, h3⟩ := hasW_list h1
 obtain ⟨ns, rfl⟩ := items_int h3
 have hlen : ns.length ≤ n := by
  unfold OpenLaw.pre at hc
  have h4 : (WTm.not (.lt (.lit (.int (n : Int))) (.len (.arg 0)))).holds [] { args := [.list (ns.map .int)] } = true := by
   have h4 := (holds_andW hc).1
   rw [hn] at h4
   exact h4
  have h5 := condW_of h4 (w_not (w_lt w_lit (w_len_list (w_arg rfl))))
  rw [List.length_map] at h5
  refine Nat.le_of_not_lt fun q => ?_
  have q' : (n : Int) < ((ns.length : Nat) : Int) := by omega
  first
   | (rw [decide_eq_true q'] at h5; exact absurd h5 (by decide))
   | (simp at h5; omega)
 cases hwl with
 | cons w1 w2 =>
  cases w2
  cases w1 with
  | list ho hall => exact ⟨_, _, ns, rfl, rfl, ho, ints_of_wellAll ns _ hall, hlen⟩
theorem post_true (l : OpenLaw) (args : List WData) : l.row.toRowW.claim.post args (.bool true) args = true :=
 postW_of (r := l.row.toRowW) (X := (true == true))
  (show WShape.has [] (.bool true) .bool = true by first | rfl | decide | simp [WShape.has, WShape.arms, WShape.armsAll])
  (show (WTm.eq .res (.lit (.bool true))).value [] { args := args, res := some (.bool true), after := args } = some (.bool (true == true)) from w_eq_bool (w_res rfl) w_lit) rfl
theorem attach_call {l : OpenLaw} {n : Nat} {q : Program} {loose : List Str} {XP : (Str → Option Value) → Heap → Prop} {YP : World → Heap → Prop} {d : DefRec}
 (hn : l.most = some n) (hdf : d.params.defaults = [])
 (call : ∀ (w : World) (s₀ s₁ : Shared) (mg mb : Str → Option Value) (fa : Addr) (o : Obj) (pm cd doc : Value) (a : Addr) (vs : List Value) (ns : List Int),
   Ground q loose [] XP w s₀ mg mb s₁.heap → YP w s₁.heap →
   s₁.heap.get? fa = some o → o.data = .func (docDef d.name d.params d.body d.scope pm cd doc) → s₁.heap.CodeRec cd d.name → mg d.name = some (.ref fa) →
   s₁.heap.get? a = some { cls := .type "list", data := .seq vs.toArray } → IntsAre vs ns → ns.length ≤ n → s₁.gens = #[] →
   codeAny (model l.prog w) callerA (.call (.ref fa) ⟨[.ref a], []⟩) (fun r s' => r = .ok (.ret (.bool true)) ∧ OldK s₁.heap s'.heap ∧ s'.os = s₁.os ∧ AllBare s'.gens) s₁) :
 WalkO q loose XP YP l.row.toRowW d [] (fun f vs => PySem.call f vs) := by
 intro w s₀ s₁ mg mb G Y fa o pm cd doc dV kV ho hd hcd hD hmg hg args vals as hpre hlay hrd hwl hlo
 obtain rfl : dV = .none := Dflts.none hD hdf
 obtain rfl : kV = .none := Dflts.noKw hD
 obtain ⟨a, vs, ns, rfl, rfl, hobj, hints, hlen⟩ := script_of hn hpre hwl
 refine enter_call (codeAny_mono (call w s₀ s₁ mg mb fa o pm cd doc a vs ns G Y ho (fd_plain hd) hcd hmg hobj hints hlen hg) fun r s' hq => ?_)
 obtain ⟨rfl, h2, h3, h4⟩ := hq
 exact ⟨.inl ⟨.bool true, .bool true, [], rfl, fun _ => rfl, .bool true, post_true l _, fun _ => ⟨List.Pairwise.nil, fun _ hm => (nomatch hm)⟩⟩, h2, h3, h4⟩
section
variable {prog : Program} {w : World} {A : Around} {E : Value → Shared → Prop} {s : Shared} {K : Frag}
end
end Att
namespace L2
open PySem PySem.Spec PyProof.Rows
theorem vals_ints : ∀ {vs : List Value} {ns : List Int}, IntsAre vs ns → Vals (ns.map V.int) vs
 | _, _, .nil => .nil
 | _, _, .cons n t h => .cons ⟨t, rfl⟩ (vals_ints h)
def Only (H : Hp) : Prop := ∀ b, H b = none ∨ ∃ o xs, H b = some (.frz o (.lst xs))
theorem law_call {P : Program} {w : World} {K : PySem.W.Frag} {mg mb : Str → Option Value} {CX : CXT} {k : Nat} {fa a : Addr} {fd : FuncData} {x : Str} {sp : Sp} {s₁ : Shared} {vs : List Value} {ns : List Int}
 (KX : K.In s₁.heap) (hns : s₁.heap.Ns mainGlobals mg) (hb : s₁.heap.Ns builtinsNs mb) (hbb : ∀ x : Str, x ≠ "__name__" → mb x = bootBuiltins x) (hlim : s₁.heap.NoLimit) (hg : s₁.gens = #[])
 (ha : s₁.heap.get? a = some { cls := .type "list", data := .seq vs.toArray }) (hi : IntsAre vs ns) (hl : ns.length ≤ sizeLine) (hr : Room k callerA)
 (F : ∀ base : Heap, K.In base → base.Ns mainGlobals mg → FnOk P w K mg base CX k fa fd [x] sp) (hbind : ∀ (s : Shared) (u : Value), BindsTo s fd ⟨[u], []⟩ [(x, u)])
 (hsp : ∀ H : Hp, Only H → SqL K H a (ns.map V.int) → sp [.ref a] H (fun v _ => v = .bl true) fun _ _ _ => False)
 (hCX : ∀ H e s', CX callerA.handled [] H s₁ (fun _ _ _ => False) e s' → False) :
 codeAny (model P w) callerA (.call (.ref fa) ⟨[.ref a], []⟩) (fun r s' => r = .ok (.ret (.bool true)) ∧ OldK s₁.heap s'.heap ∧ s'.os = s₁.os ∧ AllBare s'.gens) s₁ := by
 have rv := vals_ints hi
 have lenV := hi.length
 -- from an abstract heap in which nothing but the script may be tracked
 have core : ∀ H : Hp, Only H → SqL K H a (ns.map V.int) → HOk P w H s₁.heap → (∀ b, H b ≠ none → b = a) → (H a ≠ none → K.lookup a = none) →
  codeAny (model P w) callerA (.call (.ref fa) ⟨[.ref a], []⟩) (fun r s' => r = .ok (.ret (.bool true)) ∧ OldK s₁.heap s'.heap ∧ s'.os = s₁.os ∧ AllBare s'.gens) s₁ := by
  intro H hO hS hok hA hK
  have base_of : ∀ {b : Addr} {o : Obj}, s₁.heap.get? b = some o → H b = none → (hidT s₁.heap H).get? b = some o := fun e n => hidT_get e n
  have noA : ∀ {b : Addr} {o : Obj} {es : Array DictEntry} {ep : Nat}, s₁.heap.get? b = some o → o.data = .dict es ep → H b = none := fun {b o es ep} e d => by
   cases q : H b with
   | none => rfl
   | some u =>
    have e' : b = a := hA b (by rw [q]; simp)
    subst e'
    rw [ha] at e; cases e
    have d' : Data.seq vs.toArray _ = Data.dict es ep := d
    cases d'
  have nsK : ∀ {b : Addr} {m : Str → Option Value}, s₁.heap.Ns b m → (hidT s₁.heap H).Ns b m := fun {b m} ⟨o, es, ep, e, d, r⟩ => ⟨o, es, ep, base_of e (noA e d), d, r⟩
  have hKb : K.In (hidT s₁.heap H) := fun b o e => base_of (KX b o e) (by
   cases q : H b with
   | none => rfl
   | some u =>
    have e' : b = a := hA b (by rw [q]; simp)
    subst e'
    rw [hK (by rw [q]; simp)] at e; cases e)
  have hM : Mod K mg (hidT s₁.heap H) := ⟨hKb, nsK hns, ⟨mb, nsK hb, hbb⟩, let ⟨mc, h1, h2⟩ := hlim; ⟨mc, nsK h1, h2⟩⟩
  have e0 : Env0 P w K mg (hidT s₁.heap H) callerA [] s₁ H := ⟨rfl, hM, fun b o e => of_hidT e, Nat.le_of_eq (hidT_size _ _), trivial, fun b hb => absurd (show b ∈ ([] : List Addr) from hb) (by simp), hok, .of_eq hg, .inl rfl⟩
  refine codeAny_mono ((F _ hKb (nsK hns)).run callerA [] s₁ H ⟨[.ref a], []⟩ [.ref a] [.ref a] _ _ hr e0 (hbind s₁ (.ref a)) (.cons rfl .nil) (hsp H hO hS)) fun r s' h => ?_
  cases r with
  | error e => exact (hCX H e s' h).elim
  | ok fl =>
   cases fl with
   | next => exact False.elim h
   | brk => exact False.elim h
   | cont => exact False.elim h
   | ret u =>
    obtain ⟨v, H', os, bare, un, hok', r', q⟩ := h
    have q' : v = .bl true := q
    subst q'
    obtain rfl : u = Value.bool true := r'
    refine ⟨rfl, OldK.of_keep fun b o e => ?_, os, bare⟩
    cases q : H b with
    | none => exact un.keep b o e q (by intro z; exact absurd (show b ∈ ([] : List Addr) from z) (by simp)) (by simp)
    | some u =>
     rcases hO b with z | ⟨ob, xs, z⟩
     · rw [q] at z; cases z
     · have z2 := un.frzs b ob _ z
       obtain ⟨e1, _⟩ := hok b _ z
       obtain ⟨e2, _⟩ := hok' b _ z2
       rw [e] at e1; cases e1
       exact e2
 cases hk : K.lookup a with
 | some o =>
  -- the script is one of the module's own objects
  have e := KX a o hk
  rw [ha] at e
  cases e
  refine core (fun _ => none) (fun _ => .inl rfl) (.inr ⟨_, vs.toArray, _, hk, rfl, rfl, rfl, by rw [List.size_toArray, lenV]; exact hl, by simpa using rv⟩) (fun b u z => by have z' : (none : Option HO) = some u := z; cases z') (fun b z => absurd rfl z) fun z => absurd rfl z
 | none =>
  refine core (fun b => if b = a then some (.frz { cls := .type "list", data := .seq vs.toArray } (.lst (ns.map V.int))) else none) (fun b => ?_) (.inl (.inr ⟨{ cls := .type "list", data := .seq vs.toArray }, if_pos rfl⟩)) (fun b u z => ?_) (fun b z => ?_) fun _ => hk
  · by_cases hb : b = a
    · exact .inr ⟨_, _, if_pos hb⟩
    · exact .inl (if_neg hb)
  · by_cases hb : b = a
    · have z' := (if_pos hb).symm.trans z
      cases z'
      subst hb
      exact ⟨ha, by rw [List.length_map]; exact hl, vs, _, rv, ha⟩
    · have z' := (if_neg hb).symm.trans z
      cases z'
  · by_cases hb : b = a
    · exact hb
    · exact absurd (if_neg hb) z
end L2
namespace L2
open PySem PySem.Spec PyProof.Rows
theorem walk_of {l : PySem.W.OpenLaw} {n k : Nat} {q : Program} {loose : List Str} {XP : (Str → Option Value) → Heap → Prop} {YP : World → Heap → Prop} {d : DefRec} {K : Params → PySem.W.Frag} {CX : World → CXT} {sp : World → Sp} {x : Str}
 (hn : l.most = some n) (hn2 : n ≤ sizeLine) (hdf : d.params.defaults = []) (hr : Room k callerA)
 (hY : ∀ (w : World) (h : Heap), YP w h → (K w.params).In h)
 (F : ∀ (w : World) (mg : Str → Option Value) (fa : Addr) (h : Heap), (K w.params).In h → h.Ns mainGlobals mg → mg d.name = some (.ref fa) →
   ∃ fd : FuncData, (∀ (s : Shared) (u : Value), BindsTo s fd ⟨[u], []⟩ [(x, u)]) ∧
    ∀ base : Heap, (K w.params).In base → base.Ns mainGlobals mg → FnOk l.prog w (K w.params) mg base (CX w) k fa fd [x] (sp w))
 (hsp : ∀ (w : World) (H : Hp) (a : Addr) (ns : List Int), ns.length ≤ n → Only H → SqL (K w.params) H a (ns.map V.int) → sp w [.ref a] H (fun v _ => v = .bl true) fun _ _ _ => False)
 (hCX : ∀ (w : World) (H : Hp) (s : Shared) (e : Value) (s' : Shared), CX w callerA.handled [] H s (fun _ _ _ => False) e s' → False) :
 PySem.W.WalkO q loose XP YP l.row.toRowW d [] (fun f vs => PySem.call f vs) := by
 refine Att.attach_call hn hdf fun w s₀ s₁ mg mb fa o pm cd doc a vs ns G Y ho hd hcd hmg hobj hints hlen hg => ?_
 have KX := hY w _ Y
 obtain ⟨fd, hb, hF⟩ := F w mg fa _ KX G.T.g hmg
 exact law_call KX G.T.g G.T.b G.T.builtins G.T.nolimit hg hobj hints (Nat.le_trans hlen hn2) hr hF hb (fun H hO hS => hsp w H a ns hlen hO hS) fun H e s' => hCX w H s₁ e s'
end L2
namespace L2
open PySem PySem.Spec PyProof.Rows
def defArgs (s : Stmt) : Arguments := match s with
 | .FunctionDef _ a _ _ _ _ _ _ _ _ => a
 | _ => { posonlyargs := [], args := [], vararg := none, kwonlyargs := [], kw_defaults := [], kwarg := none, defaults := [] }
def defBody (s : Stmt) : List Stmt := match s with
 | .FunctionDef _ _ b _ _ _ _ _ _ _ => b
 | _ => []
def defScope (s : Stmt) : Scope := match s with
 | .FunctionDef _ _ _ _ _ _ sc _ _ _ => sc
 | _ => { kind := .function, names := [], isGenerator := false, isCoroutine := false }
abbrev CX0 : CXT := fun _ _ _ _ _ _ _ => False
abbrev E0 : XK := fun _ _ _ => False
structure Fun (K : PySem.W.Frag) (x qual : Str) (st : Stmt) (f : Addr) (fd : FuncData) : Prop where
 ex : ∃ (oc : Value) (od : Option Addr) (kV doc pm : Value) (an : Option Addr) (cdv ct : Value) (osl : Array (Option Value)),
  fd = PySem.W.fnOf x qual (defArgs st) (defBody st) (defScope st) .none kV doc pm an cdv ct ∧ K.lookup f = some ⟨oc, od, .func fd, osl⟩ ∧ PySem.W.codeIn K cdv qual = true
 kp : PySem.W.keepIn K (.ref f) = true
section
variable {P : Program} {w : World} {K : PySem.W.Frag} {mg : Str → Option Value} {base : Heap}
theorem Fun.ok {x qual : Str} {st : Stmt} {f : Addr} {fd : FuncData} {N ps : List Str} {k : Nat} {sp : Sp} (F : Fun K x qual st f fd) (S : FnScope N ps (defScope st)) (len : ∀ vs H Q E, sp vs H Q E → vs.length = ps.length)
 (hbody : ∀ (cdv : Value) (A : Around) (outer : List Env) (s : Shared) (H : Hp) (vs : List V) (Q : VK) (E : XK), Room k (A.deeper (envOfC qual (defScope st) s.heap.objs.size f cdv)) → sp vs H Q E →
   ∃ t, PSs (cxOf CX0 P w K mg base N qual (defScope st) f cdv A outer s H E).nox (defBody st) t ∧ t { nx := fun _ H' => Q .non H', rt := Q } (start N vs) H) : FnOk P w K mg base CX0 (k + 1) f fd ps sp := by
 obtain ⟨oc, od, kV, doc, pm, an, cdv, ct, osl, rfl, lk, hcd⟩ := F.ex
 refine fn_of lk hcd S len fun A outer s H vs Q E hr hsp => ?_
 obtain ⟨t, h, q⟩ := hbody cdv A outer s H vs Q E hr hsp
 exact ⟨t, h.nox, q⟩
theorem Fun.binds {x qual : Str} {st : Stmt} {f : Addr} {fd : FuncData} {ps : List Str} (F : Fun K x qual st f fd)
 (h : ∀ (kV doc pm : Value) (an : Option Addr) (cdv ct : Value) (us : List Value), us.length = ps.length → bindArgs (PySem.W.fnOf x qual (defArgs st) (defBody st) (defScope st) .none kV doc pm an cdv ct) ⟨us, []⟩ = pure (ps.zip us)) : Binds K fd ps [] := by
 obtain ⟨oc, od, kV, doc, pm, an, cdv, ct, osl, rfl, lk, hcd⟩ := F.ex
 exact .all (h kV doc pm an cdv ct)
theorem fun_mk {x qual : Str} {st : Stmt} {f : Addr} {oc : Value} {od an : Option Addr} {osl : Array (Option Value)} {kV doc pm cdv ct : Value} (l : K.lookup f = some ⟨oc, od, .func (PySem.W.fnOf x qual (defArgs st) (defBody st) (defScope st) .none kV doc pm an cdv ct), osl⟩)
 (c : PySem.W.codeIn K cdv qual = true) (k : PySem.W.keepIn K (.ref f) = true) : Fun K x qual st f (PySem.W.fnOf x qual (defArgs st) (defBody st) (defScope st) .none kV doc pm an cdv ct) := ⟨⟨oc, od, kV, doc, pm, an, cdv, ct, osl, rfl, l, c⟩, k⟩
end
theorem hu_of {A : Around} {k : Nat} (hr : Room k A) : A.units + 1 < cLine := Nat.lt_of_le_of_lt (Nat.add_le_add_left (by decide : 1 ≤ 64) _) hr.units
theorem small1000 {n : Nat} (h : n ≤ 1000) : n < sizeLine := Nat.lt_of_le_of_lt h (by decide)
section
variable {X : Cx}
theorem pv (i : Nat) {x : Str} {pos : Pos} (hN : X.N[i]? = some x := by rfl) (hv : Vis X.env.scope x := by first | exact Or.inl rfl | exact Or.inr (Or.inl rfl) | exact Or.inr (Or.inr rfl)) (hd : (x == ("__debug__" : Str)) = false := by decide)
 (hcd : (x == ("__classdict__" : Str)) = false := by decide) : PE X (.Name x pos) (tVar i) := pe_var hN hv hd hcd
end
def Same (H H' : Hp) : Prop := ∀ b o, H b = some o → H' b = some o
theorem Same.refl (H : Hp) : Same H H := fun _ _ h => h
theorem Same.trans {H H1 H2 : Hp} (a : Same H H1) (b : Same H1 H2) : Same H H2 := fun c o h => b c o (a c o h)
theorem Same.free {H H' : Hp} (e : Same H H') {l : Addr} (h : H' l = Option.none) : H l = Option.none := by
 cases q : H l with
 | none => rfl
 | some o =>
  rw [e l o q] at h
  cases h
theorem Same.seq {K : PySem.W.Frag} {H H' : Hp} {a : Addr} {xs : List V} (e : Same H H') (h : SqL K H a xs) : SqL K H' a xs := by
 rcases h with (h | ⟨o, h⟩) | h
 · exact .inl (.inl (e _ _ h))
 · exact .inl (.inr ⟨o, e _ _ h⟩)
 · exact .inr h
end L2
namespace L2
open PySem PySem.Spec PyProof.Rows
section
variable {κ : Type} [DecidableEq κ]
end
end L2
set_option Elab.async false
set_option linter.all false
set_option maxRecDepth 100000
set_option compiler.extract_closed false
namespace L2
open PySem PySem.Spec PyProof.Rows
def sqOf : Option HO → Option (List V)
 | some (.lst xs) => some xs
 | some (.frz _ (.lst xs)) => some xs
 | some (.tup xs) => some xs
 | _ => none
theorem sqOf_cases {K : PySem.W.Frag} {H : Hp} {p : Addr} {xs : List V} (h : sqOf (H p) = some xs) : SqL K H p xs ∨ SqT K H p xs := by
 cases e : H p with
 | none => rw [e] at h; cases h
 | some o =>
  rw [e] at h
  cases o with
  | lst ys => cases h; exact .inl (.inl (.inl e))
  | tup ys => cases h; exact .inr (.inl (.inl e))
  | frz ob u =>
   cases u with
   | lst ys => cases h; exact .inl (.inl (.inr ⟨ob, e⟩))
   | _ => cases h
  | _ => cases h
def keyV : V → Option Key
 | .int i => some (.inl i)
 | .str x => some (.inr x)
 | _ => none
theorem keyV_eq {y : V} {k : Key} (h : keyV y = some k) : y = kV k := by
 cases y with
 | int i => cases h; rfl
 | str x => cases h; rfl
 | _ => cases h
section
variable {X : Cx} {a b : Expr} {ta tb : TE} {pos : Pos}
def fIx : R2 := fun x y H Q => match x with
 | .ref p => (match sqOf (H p) with
  | some xs => ∃ i v, y = .int i ∧ atI xs i = some v ∧ Q v H
  | none => ∃ kvs k v, H p = some (.dK kvs) ∧ keyV y = some k ∧ valV kvs k = some v ∧ Q v H)
 | .str z => ∃ i c, y = .int i ∧ z.length ≤ sizeLine ∧ atI z.cps.toList i = some c ∧ Q (.str ⟨#[c]⟩) H
 | _ => False
theorem ix_f (hu : X.A.units + 1 < cLine) : IxR X fIx := by
 intro value slice pins s σ H x y v u Q I rx ry h hs
 cases x with
 | ref p =>
  simp only [fIx] at h
  cases e : sqOf (H p) with
  | some xs =>
   rw [e] at h
   obtain ⟨i, z, rfl, hv, q⟩ := h
   rcases sqOf_cases (K := X.K) e with k | k
   · exact ix_list value slice pins s σ H _ _ v u Q I rx ry ⟨p, xs, i, z, rfl, rfl, k, hv, q⟩ hs
   · exact ix_tup value slice pins s σ H _ _ v u Q I rx ry ⟨p, xs, i, z, rfl, rfl, k, hv, q⟩ hs
  | none =>
   rw [e] at h
   obtain ⟨kvs, k, z, hk, ek, hv, q⟩ := h
   obtain rfl := keyV_eq ek
   obtain rfl : v = Value.ref p := rx
   have g : DGet H p (kV k) (some z) := .inl ⟨kvs, k, .inl hk, rfl, hv.symm⟩
   exact tail_any (dict_typeIs I g) PySem.F.slot_dict_getitem.lookup (d_getItem hu I g ry fun w' s3 I3 rw' => ⟨z, H, I3, rw', q⟩) hs
 | str z =>
  obtain ⟨i, c, rfl, hz, hc, q⟩ := h
  exact ix_str value slice pins s σ H _ _ v u Q I rx ry ⟨z, i, c, rfl, rfl, hz, hc, q⟩ hs
 | _ => exact h.elim
theorem pe_idx (hu : X.A.units + 1 < cLine) (ha : PE X a ta) (hb : PE X b tb) (hs : PlainIx b) : PE X (.Subscript a b pos) (tOp fIx ta tb) := pe_ix (ix_f hu) ha hb hs
def fSl : V → Option Int → Option Int → Hp → VK → Prop := fun x lo hi H Q => match x with
 | .ref p => (match H p with
  | some (.tup xs) => ¬ (HT.sIx xs.length 0 lo = 0 ∧ HT.sIx xs.length xs.length hi = xs.length) ∧ ∀ q, H q = none → Q (.ref q) (upd H q (.tup (cutV xs lo hi)))
  | o => ∃ xs, sqOf o = some xs ∧ ∀ q, H q = none → Q (.ref q) (upd H q (.lst (cutV xs lo hi))))
 | _ => False
theorem sl_f : SlR X fSl := by
 intro pins s σ H x v vl vu lo hi sl Q I rx hs pl pu h
 cases x with
 | ref p =>
  simp only [fSl] at h
  split at h
  · rename_i xs e
    exact sl_tup pins s σ H _ v vl vu lo hi sl Q I rx hs pl pu ⟨p, xs, rfl, .inl (.inl e), h.1, h.2⟩
  · rename_i o ne
    obtain ⟨xs, e, q⟩ := h
    rcases sqOf_cases (K := X.K) e with k | k
    · exact sl_list pins s σ H _ v vl vu lo hi sl Q I rx hs pl pu ⟨p, xs, rfl, k, q⟩
    · exfalso
      cases e2 : H p with
      | none => rw [e2] at e; cases e
      | some o =>
       rw [e2] at e
       cases o with
       | tup ys => exact ne ys e2
       | lst ys =>
        obtain ⟨_, its, n, r, hg⟩ := I.hok p _ e2
        obtain ⟨its2, _, ht, _⟩ := I.tuple k
        obtain ⟨ob, h1, h2, _⟩ := ht
        rw [hg] at h1; cases h1; exact absurd (show Value.type "list" = Value.type "tuple" from h2) (by intro z; injection z with z; exact absurd z (by decide))
       | frz ob u =>
        cases u with
        | lst ys =>
         obtain ⟨_, _, its, n, r, hg⟩ := I.hok p _ e2
         obtain ⟨its2, _, ht, _⟩ := I.tuple k
         obtain ⟨ob, h1, h2, _⟩ := ht
         rw [hg] at h1; cases h1; exact absurd (show Value.type "list" = Value.type "tuple" from h2) (by intro z; injection z with z; exact absurd z (by decide))
        | _ => cases e
       | _ => cases e
 | _ => exact h.elim
def fLen : List V → Hp → VK → Prop := fun xs H Q => match xs with
 | [.ref p] => (match sqOf (H p) with
  | some ys => Q (.int ys.length) H
  | none => ∃ kvs, H p = some (.dK kvs) ∧ Q (.int kvs.length) H)
 | [.str z] => z.length ≤ sizeLine ∧ Q (.int z.length) H
 | _ => False
theorem call_len_f : CallR X (.builtin "len") fLen := by
 intro pins s σ H xs us Q I r h
 unfold fLen at h
 split at h
 · rename_i p
   split at h
   · rename_i ys e
     exact call_len_seq pins s σ H _ us Q I r ⟨p, ys, rfl, sqOf_cases e, h⟩
   · obtain ⟨kvs, hk, q⟩ := h
     obtain ⟨u, rfl, ru⟩ := vals1 r
     obtain rfl : u = Value.ref p := ru
     exact d_len I (.inl hk) fun t s' I' => ⟨.int kvs.length, H, I', ⟨t, rfl⟩, q⟩
 · rename_i z
   exact call_len_str pins s σ H _ us Q I r ⟨z, rfl, h.1, h.2⟩
 · exact h.elim
def fList : List V → Hp → VK → Prop := fun xs H Q => ∃ p ys, xs = [.ref p] ∧ sqOf (H p) = some ys ∧ ∀ l, H l = none → Q (.ref l) (upd H l (.lst ys))
theorem call_list_f : CallR X (.type "list") fList := fun pins s σ H xs us Q I r ⟨p, ys, e, h, q⟩ => call_list_of pins s σ H xs us Q I r ⟨p, ys, e, sqOf_cases h, q⟩
def fTuple : List V → Hp → VK → Prop := fun xs H Q => ∃ p, xs = [.ref p] ∧ match H p with
 | some (.tup _) => Q (.ref p) H
 | some (.lst ys) => ∀ l, H l = none → Q (.ref l) (upd H l (.tup ys))
 | _ => False
def fIn (neg : Bool) : R2 := fun x y H Q => match y with
 | .ref p => (match sqOf (H p) with
  | some xs => flatV x = true ∧ xs.all flatV = true ∧ Q (.bl (if neg then !inV x xs else inV x xs)) H
  | none => ∃ kvs k, H p = some (.dK kvs) ∧ keyV x = some k ∧ Q (.bl (if neg then !(valV kvs k).isSome else (valV kvs k).isSome)) H)
 | _ => False
theorem op_notin_f (hu : X.A.units + 1 < cLine) : OpR X (compareOp .NotIn) (fIn true) := by
 intro pins s σ H x y v u Q I rx ry h
 cases y with
 | ref p =>
  simp only [fIn] at h
  obtain rfl : u = Value.ref p := ry
  split at h
  · rename_i xs e
    exact op_notIn_seq pins s σ H x (.ref p) v _ Q I rx rfl ⟨p, xs, rfl, sqOf_cases e, h.1, h.2.1, h.2.2⟩
  · obtain ⟨kvs, k, hk, ek, q⟩ := h
    obtain rfl := keyV_eq ek
    exact d_notIn hu I (.inl ⟨kvs, k, .inl hk, rfl, rfl⟩) rx fun s3 I3 => ⟨.bl _, H, I3, rfl, q⟩
 | _ => exact h.elim
def fIs (neg : Bool) : R2 := fun x y H Q => match y with
 | .non => Q (.bl (if neg then !decide (x = .non) else decide (x = .non))) H
 | .bl c => Q (.bl (if neg then !decide (x = .bl c) else decide (x = .bl c))) H
 | _ => False
theorem RelV.bool_iff {x : V} {v : Value} {c : Bool} (r : RelV x v) : (v == Value.bool c) = decide (x = .bl c) := by
 cases x with
 | bl d =>
  cases (show v = Value.bool d from r)
  by_cases e : d = c
  · subst e; simp
  · rw [decide_eq_false (by intro z; injection z with z; exact e z)]
    exact beq_eq_false_iff_ne.mpr (by intro z; injection z with z; exact e z)
 | non => cases (show v = Value.none from r); rfl
 | int _ => obtain ⟨t, rfl⟩ := r; rfl
 | str _ => obtain ⟨t, rfl⟩ := r; rfl
 | byt _ => obtain ⟨t, rfl⟩ := r; rfl
 | flt _ => obtain ⟨t, rfl⟩ := r; rfl
 | ref _ => cases r; rfl
 | ty _ => cases r; rfl
theorem RelV.plain {x : V} {v : Value} {c : Bool} (r : RelV x v) : plainIs v (.bool c) = true := by
 cases x with
 | bl d => cases (show v = Value.bool d from r); rfl
 | non => cases (show v = Value.none from r); rfl
 | int _ => obtain ⟨t, rfl⟩ := r; rfl
 | str _ => obtain ⟨t, rfl⟩ := r; rfl
 | byt _ => obtain ⟨t, rfl⟩ := r; rfl
 | flt _ => obtain ⟨t, rfl⟩ := r; rfl
 | ref _ => cases r; rfl
 | ty _ => cases r; rfl
theorem op_is_f : OpR X (compareOp .Is) (fIs false) := by
 intro pins s σ H x y v u Q I rx ry h
 cases y with
 | non =>
  cases (show u = Value.none from ry)
  exact is_none_gen ⟨.bl _, H, I, by rw [rx.none_iff]; rfl, h⟩
 | bl c =>
  cases (show u = Value.bool c from ry)
  exact wpAny_is_plain rx.plain ⟨.bl _, H, I, by rw [rx.bool_iff]; rfl, h⟩
 | _ => exact h.elim
theorem op_isnot_f : OpR X (compareOp .IsNot) (fIs true) := by
 intro pins s σ H x y v u Q I rx ry h
 cases y with
 | non =>
  cases (show u = Value.none from ry)
  exact isnot_none_gen ⟨.bl _, H, I, by rw [rx.none_iff]; rfl, h⟩
 | bl c =>
  cases (show u = Value.bool c from ry)
  exact wpAny_isNot_plain rx.plain ⟨.bl _, H, I, by rw [rx.bool_iff]; rfl, h⟩
 | _ => exact h.elim
def tyN : V → Hp → Option String
 | .non, _ => some "NoneType"
 | .bl _, _ => some "bool"
 | .int _, _ => some "int"
 | .str _, _ => some "str"
 | .ref p, H => (match H p with
  | some (.lst _) => some "list"
  | some (.frz _ (.lst _)) => some "list"
  | some (.tup _) => some "tuple"
  | some (.dK _) => some "dict"
  | _ => none)
 | _, _ => none
def subT (t c : String) : Bool := t == c || (t == "bool" && c == "int")
def okT (c : String) : Bool := c == "int" || c == "bool" || c == "str" || c == "list" || c == "tuple" || c == "dict"
def fIsi : List V → Hp → VK → Prop := fun xs H Q => ∃ x c t, xs = [x, .ty c] ∧ okT c = true ∧ tyN x H = some t ∧ Q (.bl (subT t c)) H
theorem tyN_of {K : PySem.W.Frag} {H : Hp} {x : V} {t : String} (h : tyN x H = some t) : TyOf K H x (.type t) ∧ (t = "NoneType" ∨ okT t = true) := by
 unfold tyN at h
 split at h
 · cases h; exact ⟨.non, .inl rfl⟩
 · cases h; exact ⟨.bl _, .inr rfl⟩
 · cases h; exact ⟨.int _, .inr rfl⟩
 · cases h; exact ⟨.str _, .inr rfl⟩
 · split at h
   · rename_i e; cases h; exact ⟨.lst e, .inr rfl⟩
   · rename_i e; cases h; exact ⟨.frz e, .inr rfl⟩
   · rename_i e; cases h; exact ⟨.tup e, .inr rfl⟩
   · rename_i e; cases h; exact ⟨.dK e, .inr rfl⟩
   · cases h
 · cases h
end
end L2
namespace L2
open PySem PySem.Spec PyProof.Rows
theorem kit_f (K : PySem.W.Frag) {t c : String} (ht : t = "NoneType" ∨ okT t = true) (hc : okT c = true) : PySem.W.kitOne K (.type t) (.type c) = some (subT t c) := by
 simp only [okT, Bool.or_eq_true, beq_iff_eq] at ht hc
 rcases ht with rfl | ((((rfl | rfl) | rfl) | rfl) | rfl) | rfl <;> rcases hc with ((((rfl | rfl) | rfl) | rfl) | rfl) | rfl <;> first | rfl | (with_unfolding_all rfl) | decide +kernel
section
variable {X : Cx} {a b o e f value : Expr} {ta tb to te tf tv : TE} {pos pos' apos cpos : Pos}
theorem call_isi_f : CallR X (.builtin "isinstance") fIsi := by
 intro pins s σ H xs us Q I r h
 obtain ⟨x, c, t, rfl, hc, ht, q⟩ := h
 obtain ⟨u, w', rfl, ru, rw'⟩ := vals2 r
 obtain rfl : w' = Value.type c := rw'
 obtain ⟨ty, tt⟩ := tyN_of (K := X.K) ht
 exact isinst_ok I ru ty (kit_f X.K tt hc) fun tk => ⟨.bl _, H, I.tok tk, rfl, q⟩
inductive EqH (H : Hp) : V → V → Bool → Prop
 | flat {x y : V} : flatV x = true → flatV y = true → EqH H x y (eqV x y)
 | same {p : Addr} : EqH H (.ref p) (.ref p) true
 | lsts {p q : Addr} {xs ys : List V} (e : Nat → Bool) : p ≠ q → H p = some (.lst xs) → H q = some (.lst ys) → xs.length = ys.length → (∀ j x y, xs[j]? = some x → ys[j]? = some y → EqH H x y (e j)) →
  EqH H (.ref p) (.ref q) ((List.range xs.length).all e)
 | lstsN {p q : Addr} {xs ys : List V} : p ≠ q → H p = some (.lst xs) → H q = some (.lst ys) → xs.length ≠ ys.length → EqH H (.ref p) (.ref q) false
 | tups {p q : Addr} {xs ys : List V} (e : Nat → Bool) : p ≠ q → H p = some (.tup xs) → H q = some (.tup ys) → (∀ j x y, xs[j]? = some x → ys[j]? = some y → EqH H x y (e j)) →
  EqH H (.ref p) (.ref q) ((List.range (min xs.length ys.length)).all e && xs.length == ys.length)
inductive EqHd (H : Hp) : Nat → V → V → Bool → Prop
 | flat {n : Nat} {x y : V} : flatV x = true → flatV y = true → EqHd H n x y (eqV x y)
 | same {n : Nat} {p : Addr} : EqHd H n (.ref p) (.ref p) true
 | lsts {n : Nat} {p q : Addr} {xs ys : List V} (e : Nat → Bool) : p ≠ q → H p = some (.lst xs) → H q = some (.lst ys) → xs.length = ys.length → (∀ j x y, xs[j]? = some x → ys[j]? = some y → EqHd H n x y (e j)) →
  EqHd H (n + 1) (.ref p) (.ref q) ((List.range xs.length).all e)
 | lstsN {n : Nat} {p q : Addr} {xs ys : List V} : p ≠ q → H p = some (.lst xs) → H q = some (.lst ys) → xs.length ≠ ys.length → EqHd H (n + 1) (.ref p) (.ref q) false
 | tups {n : Nat} {p q : Addr} {xs ys : List V} (e : Nat → Bool) : p ≠ q → H p = some (.tup xs) → H q = some (.tup ys) → (∀ j x y, xs[j]? = some x → ys[j]? = some y → EqHd H n x y (e j)) →
  EqHd H (n + 1) (.ref p) (.ref q) ((List.range (min xs.length ys.length)).all e && xs.length == ys.length)
theorem eqAt_of {pins : List (Addr × Obj)} {σ : St} {H : Hp} {s : Shared} (I : Inv X pins σ H s) : ∀ {n : Nat} {x y : V} {k : Bool}, EqHd H n x y k → ∀ {v u : Value} {A : Around}, RelV x v → RelV y u → A.units + n < cLine → SeqAt.EqAt A s v u k := by
 intro n x y k h
 induction h with
 | flat fx fy => intro v u A rx ry _; exact eqAt_V rx ry fx fy
 | @same n p =>
  intro v u A rx ry _
  obtain rfl : v = Value.ref p := rx
  obtain rfl : u = Value.ref p := ry
  exact SeqAt.EqAt.same _
 | @lsts n p q xs ys e ne hp hq hl _ ih =>
  intro v u A rx ry hu
  obtain rfl : v = Value.ref p := rx
  obtain rfl : u = Value.ref q := ry
  obtain ⟨its, r1, p1, _⟩ := I.list (SqL.of (K := X.K) hp)
  obtain ⟨its2, r2, p2, _⟩ := I.list (SqL.of (K := X.K) hq)
  have e1 := r1.length
  have e2 := r2.length
  have z := SeqAt.RcAt.lists (A := A) (e := e) p1.isList p2.isList (by rw [List.size_toArray, List.size_toArray, ← e1, ← e2]; exact hl) (by omega) fun j h1 h2 => by
   rw [List.size_toArray] at h1 h2
   have j1 : j < xs.length := by omega
   have j2 : j < ys.length := by omega
   obtain ⟨u1, g1, q1⟩ := r1.get (List.getElem?_eq_getElem j1)
   obtain ⟨u2, g2, q2⟩ := r2.get (List.getElem?_eq_getElem j2)
   have := ih j _ _ (List.getElem?_eq_getElem j1) (List.getElem?_eq_getElem j2) (A := A.in1) q1 q2 (by show A.units + 1 + n < cLine; omega)
   have k1 : its.toArray[j] = u1 := by simpa [List.getElem?_eq_getElem h1] using g1
   have k2 : its2.toArray[j] = u2 := by simpa [List.getElem?_eq_getElem h2] using g2
   rw [k1, k2]; exact this
  rw [List.size_toArray, ← e1] at z
  exact SeqAt.EqAt.of_refs ne z
 | @lstsN n p q xs ys ne hp hq hl =>
  intro v u A rx ry hu
  obtain rfl : v = Value.ref p := rx
  obtain rfl : u = Value.ref q := ry
  obtain ⟨its, r1, p1, _⟩ := I.list (SqL.of (K := X.K) hp)
  obtain ⟨its2, r2, p2, _⟩ := I.list (SqL.of (K := X.K) hq)
  have e1 := r1.length
  have e2 := r2.length
  exact SeqAt.EqAt.of_refs ne (SeqAt.RcAt.lists_lengths p1.isList p2.isList (by rw [List.size_toArray, List.size_toArray, ← e1, ← e2]; simpa using hl) (by omega))
 | @tups n p q xs ys e ne hp hq _ ih =>
  intro v u A rx ry hu
  obtain rfl : v = Value.ref p := rx
  obtain rfl : u = Value.ref q := ry
  obtain ⟨its, r1, p1, _⟩ := I.tuple (SqT.of (K := X.K) hp)
  obtain ⟨its2, r2, p2, _⟩ := I.tuple (SqT.of (K := X.K) hq)
  have e1 := r1.length
  have e2 := r2.length
  have z := SeqAt.RcAt.tuples (A := A) (e := e) (show s.heap.IsTuple p its.toArray from p1) (show s.heap.IsTuple q its2.toArray from p2) (by omega) fun j h1 h2 => by
   rw [List.size_toArray] at h1 h2
   have j1 : j < xs.length := by omega
   have j2 : j < ys.length := by omega
   obtain ⟨u1, g1, q1⟩ := r1.get (List.getElem?_eq_getElem j1)
   obtain ⟨u2, g2, q2⟩ := r2.get (List.getElem?_eq_getElem j2)
   have := ih j _ _ (List.getElem?_eq_getElem j1) (List.getElem?_eq_getElem j2) (A := A.in1) q1 q2 (by show A.units + 1 + n < cLine; omega)
   have k1 : its.toArray[j] = u1 := by simpa [List.getElem?_eq_getElem h1] using g1
   have k2 : its2.toArray[j] = u2 := by simpa [List.getElem?_eq_getElem h2] using g2
   rw [k1, k2]; exact this
  rw [List.size_toArray, List.size_toArray, ← e1, ← e2] at z
  exact SeqAt.EqAt.of_refs ne z
end
end L2
namespace L2
open PySem PySem.Spec PyProof.Rows
section
variable {X : Cx} {a b o e f value : Expr} {ta tb to te tf tv : TE} {pos pos' apos cpos : Pos}
def EqRef (d : Nat) (H : Hp) (x y : V) (k : Bool) : Prop := ∃ p q, x = .ref p ∧ y = .ref q ∧
 ((∃ xs ys e, H p = some (.lst xs) ∧ H q = some (.lst ys) ∧ xs.length = ys.length ∧ (∀ j u v, xs[j]? = some u → ys[j]? = some v → EqHd H d u v (e j)) ∧ k = (List.range xs.length).all e) ∨
  (∃ xs ys, H p = some (.lst xs) ∧ H q = some (.lst ys) ∧ xs.length ≠ ys.length ∧ k = false) ∨
  (∃ xs ys e, H p = some (.tup xs) ∧ H q = some (.tup ys) ∧ (∀ j u v, xs[j]? = some u → ys[j]? = some v → EqHd H d u v (e j)) ∧ k = ((List.range (min xs.length ys.length)).all e && xs.length == ys.length)))
theorem elems_at {pins : List (Addr × Obj)} {σ : St} {H : Hp} {s : Shared} {d : Nat} {xs ys : List V} {its its2 : List Value} {e : Nat → Bool} {A : Around} (I : Inv X pins σ H s) (r1 : Vals xs its) (r2 : Vals ys its2)
 (he : ∀ j u v, xs[j]? = some u → ys[j]? = some v → EqHd H d u v (e j)) (hu : A.units + 1 + d < cLine) :
 ∀ j (h1 : j < its.toArray.size) (h2 : j < its2.toArray.size), SeqAt.EqAt A.in1 s its.toArray[j] its2.toArray[j] (e j) := fun j h1 h2 => by
 have e1 := r1.length
 have e2 := r2.length
 rw [List.size_toArray] at h1 h2
 have j1 : j < xs.length := by omega
 have j2 : j < ys.length := by omega
 obtain ⟨u1, g1, q1⟩ := r1.get (List.getElem?_eq_getElem j1)
 obtain ⟨u2, g2, q2⟩ := r2.get (List.getElem?_eq_getElem j2)
 have := eqAt_of I (he j _ _ (List.getElem?_eq_getElem j1) (List.getElem?_eq_getElem j2)) (A := A.in1) q1 q2 (by show A.units + 1 + d < cLine; omega)
 have k1 : its.toArray[j] = u1 := by simpa [List.getElem?_eq_getElem h1] using g1
 have k2 : its2.toArray[j] = u2 := by simpa [List.getElem?_eq_getElem h2] using g2
 rw [k1, k2]; exact this
def fEq (d : Nat) : R2 := fun x y H Q => if scal x y = true then Q (.bl (decide (x = y))) H else ∃ k, EqRef d H x y k ∧ Q (.bl k) H
def fNe (d : Nat) : R2 := fun x y H Q => if scal x y = true then Q (.bl (!decide (x = y))) H else ∃ k, EqRef d H x y k ∧ Q (.bl (!k)) H
theorem op_eq_f {d : Nat} (hu : X.A.units + 1 + d < cLine) : OpR X (compareOp .Eq) (fEq d) := by
 intro pins s σ H x y v u Q I rx ry h
 unfold fEq at h
 split at h
 · rename_i hs
   exact op_eq pins s σ H x y v u Q I rx ry ⟨hs, h⟩
 · obtain ⟨k, ⟨p, q, rfl, rfl, c⟩, hq⟩ := h
   obtain rfl : v = Value.ref p := rx
   obtain rfl : u = Value.ref q := ry
   rcases c with ⟨xs, ys, e, h1, h2, hl, he, rfl⟩ | ⟨xs, ys, h1, h2, hl, rfl⟩ | ⟨xs, ys, e, h1, h2, he, rfl⟩
   · obtain ⟨its, r1, p1, _⟩ := I.list (SqL.of (K := X.K) h1)
     obtain ⟨its2, r2, p2, _⟩ := I.list (SqL.of (K := X.K) h2)
     have e1 := r1.length
     have e2 := r2.length
     refine SeqAt.eq_listAt (e := e) p1.isList p2.isList (by rw [List.size_toArray, List.size_toArray, ← e1, ← e2]; exact hl) (by omega) (elems_at I r1 r2 he hu) ⟨.bl _, H, I, ?_, hq⟩
     rw [List.size_toArray, ← e1]; rfl
   · obtain ⟨its, r1, p1, _⟩ := I.list (SqL.of (K := X.K) h1)
     obtain ⟨its2, r2, p2, _⟩ := I.list (SqL.of (K := X.K) h2)
     have e1 := r1.length
     have e2 := r2.length
     exact SeqAt.eq_list_lengthsAt p1.isList p2.isList (by rw [List.size_toArray, List.size_toArray, ← e1, ← e2]; simpa using hl) (by omega) ⟨.bl _, H, I, rfl, hq⟩
   · obtain ⟨its, r1, p1, _⟩ := I.tuple (SqT.of (K := X.K) h1)
     obtain ⟨its2, r2, p2, _⟩ := I.tuple (SqT.of (K := X.K) h2)
     have e1 := r1.length
     have e2 := r2.length
     refine SeqAt.eq_tupleAt (e := e) (show s.heap.IsTuple p its.toArray from p1) (show s.heap.IsTuple q its2.toArray from p2) (by omega) (elems_at I r1 r2 he hu) ⟨.bl _, H, I, ?_, hq⟩
     rw [List.size_toArray, List.size_toArray, ← e1, ← e2]; rfl
theorem op_ne_f {d : Nat} (hu : X.A.units + 1 + d < cLine) : OpR X (compareOp .NotEq) (fNe d) := by
 intro pins s σ H x y v u Q I rx ry h
 unfold fNe at h
 split at h
 · rename_i hs
   exact op_ne pins s σ H x y v u Q I rx ry ⟨hs, h⟩
 · obtain ⟨k, ⟨p, q, rfl, rfl, c⟩, hq⟩ := h
   obtain rfl : v = Value.ref p := rx
   obtain rfl : u = Value.ref q := ry
   rcases c with ⟨xs, ys, e, h1, h2, hl, he, rfl⟩ | ⟨xs, ys, h1, h2, hl, rfl⟩ | ⟨xs, ys, e, h1, h2, he, rfl⟩
   · obtain ⟨its, r1, p1, _⟩ := I.list (SqL.of (K := X.K) h1)
     obtain ⟨its2, r2, p2, _⟩ := I.list (SqL.of (K := X.K) h2)
     have e1 := r1.length
     have e2 := r2.length
     refine EqBoolInt.of_rcne (SeqAt.RcNeAt.lists (e := e) p1.isList p2.isList (by rw [List.size_toArray, List.size_toArray, ← e1, ← e2]; exact hl) (by omega) (elems_at I r1 r2 he hu)) ⟨.bl _, H, I, ?_, hq⟩
     rw [List.size_toArray, ← e1]; rfl
   · obtain ⟨its, r1, p1, _⟩ := I.list (SqL.of (K := X.K) h1)
     obtain ⟨its2, r2, p2, _⟩ := I.list (SqL.of (K := X.K) h2)
     have e1 := r1.length
     have e2 := r2.length
     exact EqBoolInt.of_rcne (SeqAt.RcNeAt.lists_lengths p1.isList p2.isList (by rw [List.size_toArray, List.size_toArray, ← e1, ← e2]; simpa using hl) (by omega)) ⟨.bl _, H, I, rfl, hq⟩
   · obtain ⟨its, r1, p1, _⟩ := I.tuple (SqT.of (K := X.K) h1)
     obtain ⟨its2, r2, p2, _⟩ := I.tuple (SqT.of (K := X.K) h2)
     have e1 := r1.length
     have e2 := r2.length
     refine EqBoolInt.of_rcne (SeqAt.RcNeAt.tuples (e := e) (show s.heap.IsTuple p its.toArray from p1) (show s.heap.IsTuple q its2.toArray from p2) (by omega) (elems_at I r1 r2 he hu)) ⟨.bl _, H, I, ?_, hq⟩
     rw [List.size_toArray, List.size_toArray, ← e1, ← e2]; rfl
def NewTup (H : Hp) (q : Addr) (xs : List V) (H' : Hp) : Prop := (H' = H ∧ H q = some (.tup xs)) ∨ (H q = none ∧ H' = upd H q (.tup xs))
theorem NewTup.at {H H' : Hp} {q : Addr} {xs : List V} (h : NewTup H q xs H') : H' q = some (.tup xs) := by
 rcases h with ⟨rfl, h⟩ | ⟨_, rfl⟩
 · exact h
 · exact upd_same
theorem NewTup.same {H H' : Hp} {q : Addr} {xs : List V} (h : NewTup H q xs H') : Same H H' := by
 rcases h with ⟨rfl, h⟩ | ⟨n, rfl⟩
 · exact Same.refl _
 · exact fun b o e => by rw [upd_ne (ne_of_none e n)]; exact e
theorem cat_tup0 {prog : Program} {w : World} {A : Around} {E : Value → Shared → Prop} {s : Shared} {t b : Addr} {ws : List Value} {Q : Value → Shared → Prop} (ht : IsTup s.heap t ([] : List Value).toArray) (hb : IsTup s.heap b ws.toArray)
 (h1 : Q (.ref b) s) : wpAny (model prog w) A (binaryOp .Add (.ref t) (.ref b)) Q E s := by
 obtain ⟨⟨cls, dd, data, sl⟩, ho, hc, n, hd⟩ := id ht
 obtain ⟨⟨cls2, dd2, data2, sl2⟩, ho2, hc2, n2, hd2⟩ := id hb
 simp only at hc hd hc2 hd2
 subst hc hd hc2 hd2
 exact concat_meets ⟨_, ho, rfl⟩ ⟨_, ho2, rfl⟩ noFill_tuple_add seq_tuple_add PySem.F.slot_tuple_add PySem.F.entry_tuple_add (PySem.F.args_tuple_add_2 _ _)
  (tuple_addW0 t b ([] : List Value).toArray ws.toArray n n2 dd dd2 sl sl2 (by simp)) ⟨ho, ho2, h1⟩
def fAdd : R2 := fun x y H Q => match x with
 | .int i => ∃ j, y = .int j ∧ Q (.int (i + j)) H
 | .str z => ∃ z', y = .str z' ∧ z.length + z'.length ≤ sizeLine ∧ Q (.str (z ++ z')) H
 | .ref p => ∃ q, y = .ref q ∧ ((∃ xs ys, H p = some (.lst xs) ∧ H q = some (.lst ys) ∧ xs.length + ys.length ≤ sizeLine ∧ ∀ l, H l = none → Q (.ref l) (upd H l (.lst (xs ++ ys)))) ∨
  (∃ xs ys, H p = some (.tup xs) ∧ H q = some (.tup ys) ∧ xs.length + ys.length ≤ sizeLine ∧ ∀ l H', NewTup H l (xs ++ ys) H' → Q (.ref l) H'))
 | _ => False
theorem op_add_f : OpR X (binaryOp .Add) fAdd := by
 intro pins s σ H x y v u Q I rx ry h
 cases x with
 | int i =>
  obtain ⟨j, rfl, q⟩ := h
  exact op_add pins s σ H _ _ v u Q I rx ry ⟨i, j, rfl, rfl, q⟩
 | str z =>
  obtain ⟨z', rfl, hz, q⟩ := h
  exact op_add_str pins s σ H _ _ v u Q I rx ry ⟨z, z', rfl, rfl, hz, q⟩
 | ref p =>
  obtain ⟨q, rfl, c⟩ := h
  rcases c with ⟨xs, ys, h1, h2, hz, k⟩ | ⟨xs, ys, h1, h2, hz, k⟩
  · exact op_cat pins s σ H _ _ v u Q I rx ry ⟨p, q, xs, ys, rfl, rfl, h1, h2, hz, k⟩
  · by_cases hx : xs = []
    · subst hx
      obtain rfl : v = Value.ref p := rx
      obtain rfl : u = Value.ref q := ry
      obtain ⟨its, r1, p1, _⟩ := I.tuple (SqT.of (K := X.K) h1)
      obtain ⟨its2, r2, p2, _⟩ := I.tuple (SqT.of (K := X.K) h2)
      obtain rfl : its = [] := r1.zero
      exact cat_tup0 p1 p2 ⟨.ref q, H, I, rfl, k q H (.inl ⟨rfl, h2⟩)⟩
    · refine op_catT pins s σ H _ _ v u Q I rx ry ⟨p, q, xs, ys, rfl, rfl, .inl (.inl h1), .inl (.inl h2), hx, hz, fun e => ?_, fun _ l hl => k l _ (.inr ⟨hl, rfl⟩)⟩
      subst e
      exact k p H (.inl ⟨rfl, by rw [List.append_nil]; exact h1⟩)
 | _ => exact h.elim
def fMul : R2 := fun x y H Q => match x with
 | .int i => ∃ j, y = .int j ∧ CMul i j ∧ Q (.int (i * j)) H
 | .ref p => ∃ k xs, y = .int k ∧ H p = some (.lst xs) ∧ (-(2 ^ 63) ≤ k ∧ k < 2 ^ 63) ∧ xs.length * k.toNat ≤ sizeLine ∧ ∀ l, H l = none → Q (.ref l) (upd H l (.lst (List.replicate k.toNat xs).flatten))
 | _ => False
theorem op_mul_f : OpR X (binaryOp .Mult) fMul := by
 intro pins s σ H x y v u Q I rx ry h
 cases x with
 | int i =>
  obtain ⟨j, rfl, c, q⟩ := h
  exact op_mul pins s σ H _ _ v u Q I rx ry ⟨i, j, rfl, rfl, c, q⟩
 | ref p =>
  obtain ⟨k, xs, rfl, h1, ⟨h2, h3⟩, hz, q⟩ := h
  exact op_rep pins s σ H _ _ v u Q I rx ry ⟨p, k, xs, rfl, rfl, h1, h2, h3, hz, q⟩
 | _ => exact h.elim
def fSet : TSet := fun o i v H Q => match o with
 | .ref p => (∃ xs k j, H p = some (.lst xs) ∧ i = .int k ∧ ixN xs.length k = some j ∧ Q (upd H p (.lst (xs.set j v)))) ∨
  (∃ kvs k, H p = some (.dK kvs) ∧ keyV i = some k ∧ kvs.length < sizeLine ∧ Q (upd H p (.dK (putK kvs k v))))
 | _ => False
theorem set_f (hu : X.A.units + 1 < cLine) : PSet X fSet := by
 intro pins s σ H o i v ov iv u Q I ro ri rv h
 cases o with
 | ref p =>
  rcases h with ⟨xs, k, j, h1, rfl, hj, q⟩ | ⟨kvs, k, h1, ek, hz, q⟩
  · exact set_list pins s σ H _ _ v ov iv u Q I ro ri rv ⟨p, xs, k, j, rfl, rfl, h1, hj, q⟩
  · obtain rfl := keyV_eq ek
    obtain rfl : ov = Value.ref p := ro
    exact d_setItem hu I (.inl ⟨kvs, k, h1, rfl, hz, rfl⟩) ri rv fun s' I' => ⟨_, I', q⟩
 | _ => exact h.elim
def isLst (x : V) (H : Hp) : Prop := ∃ p xs, x = .ref p ∧ H p = some (.lst xs)
def isDct (x : V) (H : Hp) : Prop := ∃ p kvs, x = .ref p ∧ H p = some (.dK kvs)
theorem isLst.ty {K : PySem.W.Frag} {x : V} {H : Hp} (h : isLst x H) : tyV K "list" x H := by
 obtain ⟨p, xs, rfl, e⟩ := h
 exact .inl ⟨rfl, xs, SqL.of e⟩
theorem isDct.ty {K : PySem.W.Frag} {x : V} {H : Hp} (h : isDct x H) : tyV K "dict" x H := by
 obtain ⟨p, kvs, rfl, e⟩ := h
 exact .inr (.inr (.inl ⟨rfl, .inl ⟨kvs, e⟩⟩))
def tBMf (c : V → Hp → Prop) (r : V → List V → Hp → VK → Prop) (to : TE) (t : TA) : TE := fun σ H Q => to σ H fun x H1 => c x H1 ∧ t σ H1 fun xs H2 => r x xs H2 Q
def tBMf0 (c : V → Hp → Prop) (r : V → List V → Hp → VK → Prop) (to : TE) : TE := fun σ H Q => to σ H fun x H1 => c x H1 ∧ r x [] H1 Q
variable {es : List Expr} {t : TA} {name : Str} {T id : String} {r : V → List V → Hp → VK → Prop} {c : V → Hp → Prop}
theorem pe_bmf (hc : ∀ x H, c x H → tyV X.K T x H) (pa : PlainAttrs T) (slot : Slot T name id) (hty : typeOf (.builtin id) = pure (.type "method_descriptor")) (hm : MtM X id r) (ho : PE X o to) (ha : PA X (e :: es) t)
 (hbase : attributeBase o name X.env (eval o X.env) = eval o X.env := by rfl)
 (hfew : ((backTo cpos (starEach (e :: es) X.env)).all (fun x => !x.1) && (backToKw cpos (keywordEach [] X.env)).all (fun x => x.1.isSome)
   && decide ((e :: es).length + ([] : List Keyword).length + (if ([] : List Keyword).isEmpty then 0 else 1) < 30)) = true := by rfl)
 (hline : (apos.endLine == cpos.line) = true := by rfl) (hs : starEach (e :: es) X.env = (false, eval e X.env) :: starEach es X.env := by rfl) (hplain : (backTo cpos (starEach es X.env)).any (·.1) = false := by rfl) :
 PE X (.Call (.Attribute o name apos) (e :: es) [] cpos) (tBMf c r to t) := by
 intro pins s σ H Q I h
 refine wpAny_Call_method_late hbase hfew hline rfl (thn (ho pins s σ H _ I h) fun v s1 ⟨x, H1, I1, r1, ty, q1⟩ => ?_)
 obtain ⟨h1, h2⟩ := tyV_is I1 r1 (hc _ _ ty)
 refine ⟨T, id, pa, slot, hty, h1, h2, ?_⟩
 have hA := ha cpos pins s1 σ H1 _ I1 q1
 rw [hs] at hA ⊢
 refine Calls.callWith_builtin (by show (false || (backTo cpos (starEach es X.env)).any (·.1)) = false; rw [hplain] <;> rfl) (Calls.evalArgs_plain ?_)
 exact thn hA fun us s2 ⟨vs, H2, I2, r2, q2⟩ => hm pins s2 σ H2 x vs v us Q I2 r1 r2 q2
theorem pe_append (ho : PE X o to) (he : PE X e te)
 (hbase : attributeBase o "append" X.env (eval o X.env) = eval o X.env := by rfl)
 (hfew : ((backTo cpos (starEach [e] X.env)).all (fun x => !x.1) && (backToKw cpos (keywordEach [] X.env)).all (fun x => x.1.isSome)
   && decide (([e] : List Expr).length + ([] : List Keyword).length + (if ([] : List Keyword).isEmpty then 0 else 1) < 30)) = true := by rfl)
 (hline : (apos.endLine == cpos.line) = true := by rfl) (hs : starEach [e] X.env = (false, eval e X.env) :: starEach [] X.env := by rfl) (hplain : (backTo cpos (starEach [] X.env)).any (·.1) = false := by rfl) :
 PE X (.Call (.Attribute o "append" apos) [e] [] cpos) (tBMf isLst rAppend to (tCons te tNil)) :=
 pe_bmf (fun _ _ h => h.ty) PySem.F.plainAttrs_list PySem.F.slot_list_append PySem.F.type_list_append mt_append ho (pa_cons he pa_nil hs) hbase hfew hline hs hplain
def rGet2 : V → List V → Hp → VK → Prop := fun x vs H Q => ∃ p kvs y z k, x = .ref p ∧ vs = [y, z] ∧ H p = some (.dK kvs) ∧ keyV y = some k ∧ Q ((valV kvs k).getD z) H
def iSeq (K : PySem.W.Frag) (tl : TE) : TI := fun σ H R => tl σ H fun x H1 => ∃ p, x = .ref p ∧ match H1 p with
 | some (.tup _) => R (Itt K p) H1
 | o => ∃ xs, sqOf o = some xs ∧ R (Itl K p) H1
theorem pi_seq {tg l : Expr} {tl : TE} (hl : PE X l tl) : PI X tg l (iSeq X.K tl) := by
 intro pins s σ H R I h
 refine thn (hl pins s σ H _ I h) fun v s1 ⟨x, H1, I1, r1, p, ex, q1⟩ => ?_
 subst ex
 obtain rfl : v = Value.ref p := r1
 split at q1
 · rename_i xs e
   obtain ⟨its, rv, pt, hz⟩ := I1.tuple (SqT.of (K := X.K) e)
   refine wpAny_pyIter_tuple (show s1.heap.IsTuple p its.toArray from pt) ?_
   refine ⟨s1.heap.objs.size, [s1.heap.objs.size], _, _, H1, rfl, I1.kept (t' := s1.toks) fun b o e => Heap.get?_push_of_some _ e, turn_tuple p _, ⟨_, Heap.get?_push_size _ rfl, rfl, rfl⟩, fun b hb => ?_, q1⟩
   have e : b = s1.heap.objs.size := by simpa using hb
   subst e
   exact I1.fpOk (Nat.le_refl _) (I1.hok.fresh (Nat.le_refl _))
 · rename_i o ne
   obtain ⟨xs, e, q⟩ := q1
   have k : SqL X.K H1 p xs := by
    rcases sqOf_cases (K := X.K) e with k | k
    · exact k
    · cases e2 : H1 p with
      | none => rw [e2] at e; cases e
      | some o =>
       rw [e2] at e
       cases o with
       | tup ys => exact absurd e2 (ne ys)
       | lst ys => cases e; exact .inl (.inl e2)
       | frz ob u =>
        cases u with
        | lst ys => cases e; exact .inl (.inr ⟨ob, e2⟩)
        | _ => cases e
       | _ => cases e
   obtain ⟨its, rv, pt, hz⟩ := I1.list k
   refine wpAny_pyIter_list pt.isList ?_
   refine ⟨s1.heap.objs.size, [s1.heap.objs.size], _, _, H1, rfl, I1.kept (t' := s1.toks) fun b o e => Heap.get?_push_of_some _ e, turn_list p _, ⟨_, Heap.get?_push_size _ rfl, rfl, rfl⟩, fun b hb => ?_, q⟩
   have e : b = s1.heap.objs.size := by simpa using hb
   subst e
   exact I1.fpOk (Nat.le_refl _) (I1.hok.fresh (Nat.le_refl _))
end
theorem for_seq {K : PySem.W.Frag} {p : Addr} {xs : List V} {g : TG} {tb : TS} {D : Ends} {σ : St} {H : Hp} (hx : sqOf (H p) = some xs) (Pv : Nat → St → Hp → Prop) (h0 : Pv 0 σ H) (hl : ∀ i σ H', i ≤ xs.length → Pv i σ H' → H' p = H p)
 (hs : ∀ i x σ H, xs[i]? = some x → Pv i σ H → g x σ H fun σ2 H2 => tb { D with nx := Pv (i + 1), ct := Pv (i + 1), bk := D.nx } σ2 H2) (hd : ∀ σ H, Pv xs.length σ H → D.nx σ H) :
 match H p with
 | some (.tup _) => ∃ W : Nat → Nat → St → Hp → Prop, (∃ m, W 0 m σ H) ∧ ∀ i m σ H, W i m σ H →
  ((Itt K p).stop i H ∧ D.nx σ H) ∨ ((Itt K p).go i H ∧ ∃ N : St → Hp → Prop, (∀ σ' H', N σ' H' → ∃ m', m' < m ∧ W (i + 1) m' σ' H') ∧ ∀ x H', (Itt K p).yld i H x H' → g x σ H' fun σ2 H2 => tb { D with nx := N, ct := N, bk := D.nx } σ2 H2)
 | o => ∃ ys, sqOf o = some ys ∧ ∃ W : Nat → Nat → St → Hp → Prop, (∃ m, W 0 m σ H) ∧ ∀ i m σ H, W i m σ H →
  ((Itl K p).stop i H ∧ D.nx σ H) ∨ ((Itl K p).go i H ∧ ∃ N : St → Hp → Prop, (∀ σ' H', N σ' H' → ∃ m', m' < m ∧ W (i + 1) m' σ' H') ∧ ∀ x H', (Itl K p).yld i H x H' → g x σ H' fun σ2 H2 => tb { D with nx := N, ct := N, bk := D.nx } σ2 H2) := by
 split
 · rename_i ys e
   rw [e] at hx
   cases hx
   exact for_tup (xs := xs) Pv h0 (fun i σ' H' hi h => SqT.of ((hl i σ' H' hi h).trans e)) hs hd
 · rename_i o ne
   refine ⟨xs, hx, for_list (xs := xs) Pv h0 (fun i σ' H' hi h => ?_) hs hd⟩
   have k := hl i σ' H' hi h
   have hx' : sqOf (H' p) = some xs := by rw [k]; exact hx
   cases e2 : H p with
   | none => rw [e2] at hx; cases hx
   | some o =>
    rw [e2] at hx
    cases o with
    | tup ys => exact absurd e2 (ne ys)
    | lst ys => cases hx; exact .inl (.inl (k.trans e2))
    | frz ob u =>
     cases u with
     | lst ys => cases hx; exact .inl (.inr ⟨ob, k.trans e2⟩)
     | _ => cases hx
    | _ => cases hx
end L2
namespace L2
open PySem PySem.Spec PyProof.Rows
def blk (X : Cx) (pins : List (Addr × Obj)) (scope : Scope) (cl : List (Str × Addr)) (C : Addr) (s : Shared) (H : Hp) (fp : List Addr) : Cx :=
 { X with s₀ := s, H₀ := H, env := compEnvC scope cl C X.env, outer := X.stack, ex := fp, fn := fun _ => false, pn := X.pn ++ pins, xe := fun _ _ => False }
structure CompScope (X : Cx) (scope : Scope) (cl : List (Str × Addr)) (x : Str) : Prop where
 clos : closureFor scope X.env = pure cl
 nocell : ∀ y ∈ scope.names, y.2 ≠ .cell
 kind : scope.kind = .function
 names : ∀ y ∈ scope.names, y.2 = .local → scope.names.lookup y.1 = some .local
 var : scope.names.lookup x = some .local
 sub : ∀ y c, cl.lookup y = some c → X.env.cells.lookup y = some c
 has : ∀ y, ((relabel scope X.env).names.lookup y = some .cell ∨ (relabel scope X.env).names.lookup y = some .free) →
  (∃ c, cl.lookup y = some c) ∧ (X.env.kindOf y = some .cell ∨ X.env.kindOf y = some .free)
 loc : ∀ y, (relabel scope X.env).names.lookup y = some .local → y = x ∨ y ∉ X.N
section
variable {X : Cx} {pins : List (Addr × Obj)} {σ : St} {H : Hp} {s : Shared} {scope : Scope} {cl : List (Str × Addr)} {x : Str} {fp : List Addr} {i : Nat}
theorem blk_ok (S : CompScope X scope cl x) (I : Inv X pins σ H s) (hf : ∀ b ∈ fp, FpOk X pins H b) (ho : ∀ b ∈ fp, ∃ o, s.heap.get? b = some o) {C : Addr} (hC : s.heap.objs.size ≤ C) :
 (blk X pins scope cl C s H fp).Ok where
 mod := I.ok.mod
 kind := by show (relabel scope X.env).kind = _; exact S.kind
 glob := I.ok.glob
 blt := I.ok.blt
 above := hC
 inj := fun y z c h1 h2 => I.ok.inj y z c (S.sub y c h1) (S.sub z c h2)
 has := fun y hy => (S.has y hy).1
 cab := fun y c h _ => nomatch h
 hd := fun hc => by
  rcases I.hand hc with d | ⟨e, o, vs, d1, d2, d3, d4, d5⟩
  · exact .inl d
  · refine .inr ⟨e, o, vs, d1, d4, d5, .inl ⟨d2, d3, fun z => ?_, fun z => I.handFp hc (hf e z) d1⟩⟩
    obtain ⟨_, o2, e2, dn⟩ := I.stack.mem z
    rw [d2] at e2; cases e2
    exact dn vs d4
 frames := I.ok.frames
 stk := .inl rfl
 exf := fun b hb => by
  obtain ⟨o, e⟩ := ho b hb
  exact ⟨Nat.ne_of_lt (Nat.lt_of_lt_of_le (Heap.lt_size e) hC), fun y c e2 => (hf b hb).2.2.2.2.1 y c (S.sub y c e2)⟩
 bs := I.bs
 bsz := Nat.le_trans I.ok.bsz I.sz
 noex := fun b o e hb => by
  rcases (hf b hb).2.2.2.1 with z | z
  · exact I.ok.noex b o e z
  · exact absurd (Nat.lt_of_lt_of_le (Nat.lt_of_lt_of_le (Heap.lt_size e) I.ok.bsz) z) (Nat.lt_irrefl _)
 exfs := fun b hb z => (List.mem_cons.mp (I.stkSub b z)).elim (fun q => (hf b hb).2.1 q) (fun q => (hf b hb).2.2.1 q)
 funs := I.stack
 frf := I.stkFree
theorem blk_start (S : CompScope X scope cl x) (hN : X.N.Nodup) (hi : X.N[i]? = some x) (I : Inv X pins σ H s) (hf : ∀ b ∈ fp, FpOk X pins H b) (ho : ∀ b ∈ fp, ∃ o, s.heap.get? b = some o)
 {C D : Addr} {h' : Heap} {t' : Nat} {m : Str → Option Value} (hD : s.heap.objs.size ≤ D) (hC : s.heap.objs.size ≤ C) (hDC : C ≠ D) (k : ∀ b u, s.heap.get? b = some u → h'.get? b = some u) (hn : h'.Ns C m)
 (new : ObjOk X.prog X.w (upd H D (.lst [])) h' D (.lst [])) :
 Inv (blk X pins scope cl C s H fp) [] (σ.set i none) (upd H D (.lst [])) { s with heap := h', toks := t' } := by
 have hDn : H D = none := I.hok.fresh hD
 have ltD : ∀ b o, s.heap.get? b = some o → b ≠ D := fun b o e => Nat.ne_of_lt (Nat.lt_of_lt_of_le (Heap.lt_size e) hD)
 have ltC : ∀ b o, s.heap.get? b = some o → b ≠ C := fun b o e => Nat.ne_of_lt (Nat.lt_of_lt_of_le (Heap.lt_size e) hC)
 refine ⟨blk_ok S I hf ho hC, rfl, I.bare, Un.laid k hD hDn, ⟨m, hn, fun j y v h1 h2 h3 => ?_⟩, fun y c e => ?_, ?_, fun y c e => ?_, fun p hp => ?_, I.hok.laid k hD new, ?_⟩
 · have hj : j ≠ i := fun e => by
    subst e
    rw [List.getElem?_set_self' ] at h2
    cases q : σ[j]? with
    | none => rw [q] at h2; simp at h2
    | some a => rw [q] at h2; simp at h2
   have hv : σ[j]? = some (some v) := by rw [List.getElem?_set_ne (Ne.symm hj)] at h2; exact h2
   have hyx : y ≠ x := fun e => hj (nodup_ix hN (by rw [e] at h1; exact h1) hi)
   have nl : (relabel scope X.env).names.lookup y ≠ some .local := fun q => by
    rcases S.loc y q with z | z
    · exact hyx z
    · exact z (List.mem_of_getElem? h1)
   have hk : (relabel scope X.env).names.lookup y = some .cell ∨ (relabel scope X.env).names.lookup y = some .free := by
    rcases h3 with q | q | q
    · exact absurd q nl
    · exact .inl q
    · exact .inr q
   obtain ⟨⟨c, hc⟩, hko⟩ := S.has y hk
   obtain ⟨m0, hn0, hl0⟩ := I.loc
   have vis : Vis X.env.scope y := by
    rcases hko with q | q
    · exact .inr (.inl q)
    · exact .inr (.inr q)
   obtain ⟨u, r, l⟩ := hl0 j y v h1 hv vis
   refine ⟨u, r, .inr ⟨hk, c, hc, ?_⟩⟩
   rcases l with ⟨q, _⟩ | ⟨_, c', hc', o, ho, hd⟩
   · rcases hko with z | z <;> (rw [q] at z; cases z)
   · have e := S.sub y c hc
     rw [hc'] at e; cases e
     exact ⟨o, k _ o ho, hd⟩
 · obtain ⟨v, o, ho, hd⟩ := I.cell y c (S.sub y c e)
   exact ⟨v, o, k _ o ho, hd⟩
 · show upd H D (.lst []) C = none
   rw [upd_ne hDC]
   exact I.hok.fresh hC
 · show upd H D (.lst []) c = none
   obtain ⟨v, o, ho, hd⟩ := I.cell y c (S.sub y c e)
   rw [upd_ne (ltD c o ho)]
   exact I.freeC y c (S.sub y c e)
 · have hp' : p ∈ X.pn ++ pins := by simpa [blk] using hp
   obtain ⟨e, n, ne, nf, d⟩ := I.pin p hp'
   refine ⟨k _ _ e, ?_, ltC _ _ e, fun z => (List.mem_cons.mp (I.stkSub _ z)).elim ne nf, d⟩
   show upd H D (.lst []) p.1 = none
   rw [upd_ne (ltD _ _ e)]
   exact n
 · show (σ.set i none).length = X.N.length
   rw [List.length_set]; exact I.len
theorem blk_end {H' : Hp} {s' : Shared} {C : Addr} {h' : Heap} {σ' : St} (I : Inv X pins σ H s) (hf : ∀ b ∈ fp, FpOk X pins H b) (hC : s.heap.objs.size ≤ C)
 (J : Inv (blk X pins scope cl C s H fp) [] σ' H' s') (sb : Heap.SameBut C s'.heap h') : Inv X pins σ H' { s' with heap := h' } := by
 have hCn : H' C = none := J.free
 have nC : ∀ b o, s.heap.get? b = some o → b ≠ C := fun b o e => Nat.ne_of_lt (Nat.lt_of_lt_of_le (Heap.lt_size e) hC)
 have kp : ∀ b, b ≠ C → h'.get? b = s'.heap.get? b := fun b hb => sb.2 b hb
 have u := J.base
 refine I.call' (s' := { s' with heap := h' }) (ch := fp) J.os ?_ ?_ J.bare fun b hb => ⟨(hf b hb).2.2.2.1, (hf b hb).2.1, (hf b hb).2.2.2.2.1, (hf b hb).2.2.2.2.2⟩
 · refine ⟨fun b o e n hb hx => ?_, fun b o e n hb hx => ?_, u.free, fun b o e hx => ?_, u.tups, u.frzs, u.tbls⟩
   · show h'.get? b = _
     rw [kp b (nC b o e)]; exact u.keep b o e n hb hx
   · obtain ⟨sl, q⟩ := u.slot b o e n hb hx
     exact ⟨sl, by show h'.get? b = _; rw [kp b (nC b o e)]; exact q⟩
   · obtain ⟨o', q⟩ := u.there b o e hx
     exact ⟨o', by show h'.get? b = _; rw [kp b (nC b o e)]; exact q⟩
 · intro a o e
   refine (J.hok a o e).stay (fun b v hb q => ?_) (fun _ q => q) fun _ _ q => q
   show h'.get? b = _
   rw [kp b ?_]
   · exact q
   · rintro rfl
     rcases hb with z | z
     · rw [← z] at e; rw [hCn] at e; cases e
     · rw [hCn] at z; cases z
end
def PTs (X : Cx) (ifs : List Expr) (t : TT) : Prop :=
 ∀ (pins : List (Addr × Obj)) (s : Shared) (σ : St) (H : Hp) (Q : Bool → Hp → Prop), Inv X pins σ H s → t σ H Q →
  wpAny (model X.prog X.w) X.A (forIn ifs true fun c r => if r = true then do let ok ← isTrue c X.env (eval c X.env); pure (ForInStep.yield ok) else pure (ForInStep.yield r)) (TP X pins σ Q) X.xe s
def tTrue : TT := fun _ H Q => Q true H
theorem pts_nil {X : Cx} : PTs X [] tTrue := fun _ _ _ H _ I h => wpAny_tests_nil ⟨H, I, h⟩
theorem compLoopG {prog : Program} {w : World} {A : Around} {R : Result → Shared → Prop} {s : Shared} {elt target iter : Expr} {ifs : List Expr} {scope : Scope} {pos : Pos} {it acc : Value} {env : Env} (I : Nat → Shared → Prop)
 (turn : ∀ n s, I n s → wpAny (model prog w) A (pyNext it) (fun r s₁ => match r with
   | none => R (.ok .next) s₁
   | some v => wpAny (model prog w) A (letOwnedTupleGo target it v) (fun _ s₁ => wpAny (model prog w) A (assign target env v) (fun _ s₂ =>
    wpAny (model prog w) A (forIn ifs true fun c r => if r = true then do let ok ← isTrue c env (eval c env); pure (ForInStep.yield ok) else pure (ForInStep.yield r)) (fun ok s₃ =>
     if ok = true then wpAny (model prog w) A (eval elt env) (fun x s₄ =>
      wpAny (model prog w) A (call (.builtin "list.append") [acc, x]) (fun _ s₅ => ∃ m, m < n ∧ I m s₅) (fun _ _ => False) s₄) (fun _ _ => False) s₃
     else ∃ m, m < n ∧ I m s₃) (fun _ _ => False) s₂) (fun _ _ => False) s₁) (fun _ _ => False) s₁) (fun _ _ => False) s)
 (n : Nat) (h : I n s) :
 codeAny (model prog w) A (.compLoop (.ListComp elt [⟨target, iter, ifs, 0⟩] scope pos) 0 it acc env) R s := by
 refine codeAny_loop rfl I (fun n s hI => ?_) n h
 show wpAny _ A ((compTurn (.ListComp elt [⟨target, iter, ifs, 0⟩] scope pos) 0 it acc env).onRaise (fun x => do noteFrame x env; theTreesLotGoes x)) _ _ s
 refine wpAny_noted ?_
 rw [compTurn_list]
 refine wpAny_bind (wpAny_standAt (wpAny_bind (wpAny_mono (turn n s hI) (fun r s₁ h₁ => ?_) fun _ _ h' => h'.elim)))
 cases r with
 | none => exact wpAny_pure h₁
 | some v =>
  refine wpAny_bind (wpAny_mono h₁ (fun _ s₁' h₁' => ?_) fun _ _ h' => h'.elim)
  refine wpAny_bind (wpAny_mono h₁' (fun _ s₂ h₂ => wpAny_bind (wpAny_mono h₂ (fun ok s₃ h₃ => ?_) fun _ _ h' => h'.elim)) fun _ _ h' => h'.elim)
  cases ok with
  | false => exact wpAny_pure ⟨rfl, h₃⟩
  | true =>
   exact wpAny_bind (wpAny_bind (wpAny_mono h₃ (fun x s₄ h₄ => wpAny_bind (wpAny_mono h₄ (fun _ s₅ h₅ => wpAny_pure (wpAny_pure ⟨rfl, h₅⟩)) fun _ _ h' => h'.elim)) fun _ _ h' => h'.elim))
def tCompAt (i : Nat) (tt : TT) (te : TE) (D : Addr) (J : It) (σ : St) (H1 : Hp) (Q : Hp → Prop) : Prop :=
 ∃ W : Nat → Nat → List V → Hp → Prop, (∃ m, W 0 m [] (upd H1 D (.lst []))) ∧ ∀ j m ys H, W j m ys H → H D = some (.lst ys) ∧
  ((J.stop j H ∧ Q H) ∨ (J.go j H ∧ ∀ x H', J.yld j H x H' → tt (σ.set i (some x)) H' fun b H2 =>
    if b = true then te (σ.set i (some x)) H2 fun v H3 => H3 D = some (.lst ys) ∧ ys.length < sizeLine ∧ ∃ m', m' < m ∧ W (j + 1) m' (ys ++ [v]) (upd H3 D (.lst (ys ++ [v])))
    else ∃ m', m' < m ∧ W (j + 1) m' ys H2))
def tComp (i : Nat) (wi : TI) (tt : TT) (te : TE) : TE := fun σ H Q => wi σ H fun J H1 => ∀ D, H1 D = none → tCompAt i tt te D J σ H1 (Q (.ref D))
section
variable {X : Cx} {elt iter : Expr} {ifs : List Expr} {scope : Scope} {cl : List (Str × Addr)} {x : Str} {px pos : Pos} {i : Nat} {wi : TI} {tt : TT} {te : TE}
theorem set_set_same (σ : St) (i : Nat) (a b : Option V) : (σ.set i a).set i b = σ.set i b := by simp
theorem comp_loop {pins : List (Addr × Obj)} {σ : St} {H1 : Hp} {s₂ : Shared} {it : Addr} {fp : List Addr} {tn : Nat → Heap → Prop} {J : It} {Q : VK} {E : Value → Shared → Prop} {RR : Value → Addr → Result → Shared → Prop}
 (S : CompScope X scope cl x) (hN : X.N.Nodup) (hi : X.N[i]? = some x) (hc : X.calm = true)
 (ht : ∀ (C : Addr) (s : Shared) (H : Hp) (fp : List Addr), PTs (blk X pins scope cl C s H fp) ifs tt) (he : ∀ (C : Addr) (s : Shared) (H : Hp) (fp : List Addr), PE (blk X pins scope cl C s H fp) elt te)
 (I : Inv X pins σ H1 s₂) (T : Turn X.prog X.w X.K (.Name x px) J fp it tn) (st : tn 0 s₂.heap) (hf : ∀ b ∈ fp, FpOk X pins H1 b)
 (h : ∀ D, H1 D = none → tCompAt i tt te D J σ H1 (Q (.ref D)))
 (fin : ∀ (C D : Addr) (s' : Shared) (σ' : St) (H' : Hp), s₂.heap.objs.size ≤ C → H1 D = none → Inv (blk X pins scope cl C s₂ H1 fp) [] σ' H' s' → Q (.ref D) H' → (∀ h', Heap.SameBut C s'.heap h' → Inv X pins σ H' { s' with heap := h' }) → RR (.ref D) C (.ok .next) s') :
 wpAny (model X.prog X.w) X.A (newList []) (fun acc s₃ => wpAny (model X.prog X.w) X.A (newFunctionEnv scope X.env.globals cl [] X.env.qual none .none (some X.env)) (fun cenv s₄ =>
  codeAny (model X.prog X.w) X.A (.compStart (.ListComp elt [⟨.Name x px, iter, ifs, 0⟩] scope pos) 0 (.ref it) acc { cenv with scope := relabel scope X.env }) (RR acc cenv.locals) s₄) E s₃) E s₂ := by
 refine wpAny_newObj_type (wpAny_newFunctionEnv S.nocell (by intro y hy; simp at hy) (fun h₁ hns₁ hsb₁ => ?_) S.kind)
 dsimp only at hns₁ hsb₁ ⊢
 generalize hH2 : s₂.heap.push { cls := .type "list", dict := none, data := .seq ([] : List Value).toArray } = H2 at hns₁ hsb₁ ⊢
 have hC : H2.objs.size = s₂.heap.objs.size + 1 := by rw [← hH2, Heap.size_push]
 have hDC : H2.objs.size ≠ s₂.heap.objs.size := by rw [hC]; exact Nat.ne_of_gt (Nat.lt_succ_self _)
 have hCle : s₂.heap.objs.size ≤ H2.objs.size := by rw [hC]; exact Nat.le_succ _
 have old : ∀ b o, s₂.heap.get? b = some o → h₁.get? b = some o := fun b o e => hsb₁.extBut b o (Nat.ne_of_lt (Nat.lt_of_lt_of_le (Heap.lt_size e) hCle)) (Heap.get?_push_of_some _ (hH2 ▸ Heap.get?_push_of_some _ e))
 have hacc : h₁.get? s₂.heap.objs.size = some { cls := .type "list", dict := none, data := .seq ([] : List Value).toArray } := hsb₁.extBut _ _ (Ne.symm hDC) (Heap.get?_push_of_some _ (hH2 ▸ Heap.get?_push_size _ rfl))
 have hobj : ∀ b ∈ fp, ∃ o, s₂.heap.get? b = some o := fun b hb => let ⟨o, e, _⟩ := T.obj 0 _ st b hb; ⟨o, e⟩
 have hDn : H1 s₂.heap.objs.size = none := I.hok.fresh (Nat.le_refl _)
 obtain ⟨W, ⟨m0, w0⟩, turn⟩ := h s₂.heap.objs.size hDn
 have nfpD : ∀ b ∈ fp, b ≠ s₂.heap.objs.size := fun b hb => let ⟨o, e⟩ := hobj b hb; Nat.ne_of_lt (Heap.lt_size e)
 have fpk : ∀ {H' : Hp}, (∀ b ∈ fp, H' b = none) → ∀ b ∈ fp, FpOk (blk X pins scope cl H2.objs.size s₂ H1 fp) [] H' b := fun {H'} hn b hb => by
  refine ⟨hn b hb, ?_, ?_, .inl hb, fun y c e => (hf b hb).2.2.2.2.1 y c (S.sub y c e), fun p hp => (hf b hb).2.2.2.2.2 p (by simpa [blk] using hp)⟩
  · obtain ⟨o, e⟩ := hobj b hb
    exact Nat.ne_of_lt (Nat.lt_of_lt_of_le (Heap.lt_size e) hCle)
  · exact fun z => (List.mem_cons.mp (I.stkSub b z)).elim (fun q => (hf b hb).2.1 q) (fun q => (hf b hb).2.2.1 q)
 have loop : ∀ s₃ : Shared, s₃ = { s₂ with heap := h₁, toks := s₂.toks + ([] : List (Str × Value)).length } →
  codeAny (model X.prog X.w) X.A (.compLoop (.ListComp elt [⟨.Name x px, iter, ifs, 0⟩] scope pos) 0 (.ref it) (.ref s₂.heap.objs.size) (compEnvC scope cl H2.objs.size X.env))
   (RR (.ref s₂.heap.objs.size) H2.objs.size) s₃ := by
  rintro s₃ rfl
  have I0 : Inv (blk X pins scope cl H2.objs.size s₂ H1 fp) [] (σ.set i none) (upd H1 s₂.heap.objs.size (.lst [])) { s₂ with heap := h₁, toks := s₂.toks + ([] : List (Str × Value)).length } :=
   blk_start S hN hi I hf hobj (Nat.le_refl _) hCle hDC old hns₁ ⟨Nat.zero_le _, [], 0, .nil, hacc⟩
  refine compLoopG (fun n s' => ∃ j ys a H', Inv (blk X pins scope cl H2.objs.size s₂ H1 fp) [] (σ.set i a) H' s' ∧ tn j s'.heap ∧ (∀ b ∈ fp, H' b = none) ∧ W j n ys H') ?_ m0
   ⟨0, [], none, _, I0, T.keep _ _ _ st (fun b hb o e => old b o e), fun b hb => by rw [upd_ne (nfpD b hb)]; exact (hf b hb).1, w0⟩
  rintro n s' ⟨j, ys, a, H', Ij, stj, frj, wj⟩
  obtain ⟨hDl, tr⟩ := turn j n ys H' wj
  rcases tr with ⟨stop, q⟩ | ⟨go, step⟩
  · refine wpAny_mono (T.done (blk X pins scope cl H2.objs.size s₂ H1 fp) rfl rfl rfl hc j [] s' _ H' (fun _ _ => False) Ij (fpk frj) stj stop) (fun r s1 ⟨hr, I1⟩ => ?_) fun _ _ z => z.elim
    subst hr
    exact fin _ _ s1 _ H' hCle hDn I1 q fun h' sb => blk_end I hf hCle I1 sb
  · refine wpAny_mono (T.item (blk X pins scope cl H2.objs.size s₂ H1 fp) rfl rfl rfl hc j [] s' _ H' (fun _ _ => False) Ij (fpk frj) stj go) (fun r s1 ⟨u, hr, h4⟩ => ?_) fun _ _ z => z.elim
    subst hr
    refine wpAny_mono h4 (fun _ s1 ⟨y, H5, I5, r5, y5, st5, fr5⟩ => ?_) fun _ _ z => z.elim
    have I5' := I5.pinned (fpk fr5) (T.obj _ _ st5)
    have hkeep : ∀ {σ7 : St} {H7 : Hp} {s7 : Shared}, Inv (blk X pins scope cl H2.objs.size s₂ H1 fp) ([] ++ pinsAt fp s1.heap) σ7 H7 s7 → tn (j + 1) s7.heap ∧ ∀ b ∈ fp, H7 b = none := fun {σ7 H7 s7} I7 => by
     refine ⟨T.keep _ _ _ st5 fun b hb o e => (I7.pin (b, o) (List.mem_append_right _ (List.mem_append_right _ (mem_pinsAt hb e)))).1, fun b hb => ?_⟩
     obtain ⟨o, e, d⟩ := T.obj _ _ st5 b hb
     exact (I7.pin (b, o) (List.mem_append_right _ (List.mem_append_right _ (mem_pinsAt hb e)))).2.1
    have pg : PG (blk X pins scope cl H2.objs.size s₂ H1 fp) (.Name x px) (gName i) := pg_name (X := blk X pins scope cl H2.objs.size s₂ H1 fp) hN hi (.inl (lookup_relabel_local S.var)) (.inr (lookup_relabel_local S.var))
    refine wpAny_mono (pg _ s1 (σ.set i a) H5 y u (fun σ2 H2' => σ2 = σ.set i (some y) ∧ H2' = H5) I5' r5 ⟨set_set_same σ i a (some y), rfl⟩) (fun _ s6 ⟨σ6, H6, I6, e6, e6'⟩ => ?_) fun _ _ z => z.elim
    subst e6 e6'
    refine wpAny_mono (ht _ _ _ _ _ s6 _ _ _ I6 (step y _ y5)) (fun ok s7 ⟨H7, I7, q7⟩ => ?_) fun _ _ z => z.elim
    cases ok with
    | false =>
     rw [if_neg (by decide)] at q7 ⊢
     obtain ⟨m', hm, w7⟩ := q7
     obtain ⟨k1, k2⟩ := hkeep I7
     exact ⟨m', hm, j + 1, ys, some y, H7, I7.unpinned, k1, k2, w7⟩
    | true =>
     rw [if_pos rfl] at q7 ⊢
     refine wpAny_mono (he _ _ _ _ _ s7 _ _ _ I7 q7) (fun v s8 ⟨z, H8, I8, r8, h8, hz, m', hm, w8⟩ => ?_) fun _ _ z => z.elim
     refine wpAny_mono (mt_append (X := blk X pins scope cl H2.objs.size s₂ H1 fp) _ s8 _ H8 (.ref s₂.heap.objs.size) [z] (.ref s₂.heap.objs.size) [v] (fun r H9 => H9 = upd H8 s₂.heap.objs.size (.lst (ys ++ [z]))) I8 rfl (.cons r8 .nil) ⟨_, ys, z, rfl, rfl, h8, hz, rfl⟩)
      (fun _ s9 ⟨_, H9, I9, _, e9⟩ => ?_) fun _ _ z => z.elim
     subst e9
     obtain ⟨k1, k2⟩ := hkeep I9
     exact ⟨m', hm, j + 1, _, some y, _, I9.unpinned, k1, k2, w8⟩
 exact codeAny_compStart_list (loop _ rfl) (T.self _ 0 _ _ _ (T.keep _ _ _ st fun b hb o e => old b o e) (loop _ rfl))
theorem pe_comp (S : CompScope X scope cl x) (hN : X.N.Nodup) (hi : X.N[i]? = some x) (hc : X.calm = true) (hit : PI X (.Name x px) iter wi)
 (ht : ∀ (pins : List (Addr × Obj)) (C : Addr) (s : Shared) (H : Hp) (fp : List Addr), PTs (blk X pins scope cl C s H fp) ifs tt) (he : ∀ (pins : List (Addr × Obj)) (C : Addr) (s : Shared) (H : Hp) (fp : List Addr), PE (blk X pins scope cl C s H fp) elt te)
 (hs : ∀ v, foldedSetIterable iter X.env v = pure v := by intro _; rfl) : PE X (.ListComp elt [⟨.Name x px, iter, ifs, 0⟩] scope pos) (tComp i wi tt te) := by
 intro pins s σ H Q I h
 rw [eval_ListComp]
 refine wpAny_comprehension_free (use := none) rfl hs S.clos S.kind S.names (thn (hit pins s σ H _ I h) fun v s1 h1 => thn h1 fun itv s2 h2 => ?_)
 obtain ⟨it, fp, tn, J, H2, e, I2, T, st2, f2, hq⟩ := h2
 subst e
 refine comp_loop (Q := Q) (RR := fun acc C => compPost (model X.prog X.w) X.A X.xe none (EP X pins σ Q) acc C) S hN hi hc (ht pins) (he pins) I2 T st2 f2 hq ?_
 intro C D s' σ' H' hC hD J' q k
 obtain ⟨m, hn, _⟩ := J'.loc
 exact ⟨m, hn, fun h' sb => ⟨.ref D, H', k h' sb, rfl, q⟩⟩
def tSetComp (i j : Nat) (wi : TI) (tt : TT) (te : TE) : TS := fun D σ H => tComp i wi tt te σ H fun v H1 => D.nx (σ.set j (some v)) H1
end
end L2
namespace L2
open PySem PySem.Spec PyProof.Rows
section
variable {X : Cx} {D : Ends} {σ : St} {H : Hp} {Q : VK} {R : Bool → Hp → Prop} {S : List V → Hp → Prop} {t u : TS} {te ta tb tc : TE} {tt uu : TT} {tl tr : TA} {K : PySem.W.Frag} {g : TG} {gs : TGs} {i j : Nat} {v x y : V}
theorem ap_seq : tSeq t u D σ H = t { D with nx := u D } σ H := rfl
theorem ap_next : tNext D σ H = D.nx σ H := rfl
theorem ap_brk : tBreak D σ H = D.bk σ H := rfl
theorem ap_cont : tCont D σ H = D.ct σ H := rfl
theorem ap_drop : tDrop te D σ H = te σ H fun _ H1 => D.nx σ H1 := rfl
theorem ap_ret : tRet te D σ H = te σ H D.rt := rfl
theorem ap_retN : tRetN D σ H = D.rt .non H := rfl
theorem ap_ifS : tIfS tt t u D σ H = tt σ H fun b H1 => if b = true then t D σ H1 else u D σ H1 := rfl
theorem ap_asg : tAsg te g D σ H = te σ H fun x H1 => g x σ H1 D.nx := rfl
theorem ap_gName {P : St → Hp → Prop} : gName i v σ H P = P (σ.set i (some v)) H := rfl
theorem ap_gSub {ti : TE} {ts : TSet} {P : St → Hp → Prop} : gSub ta ti ts v σ H P = ta σ H fun o H1 => ti σ H1 fun k H2 => ts o k v H2 fun H3 => P σ H3 := rfl
theorem ap_gNil {vs : List V} {P : St → Hp → Prop} : gNil vs σ H P = (vs = [] ∧ P σ H) := rfl
theorem ap_gCons {vs : List V} {P : St → Hp → Prop} : gCons g gs vs σ H P = ∃ v r, vs = v :: r ∧ g v σ H fun σ' H' => gs r σ' H' P := rfl
theorem ap_test : tTest te σ H R = te σ H fun x H' => ∃ k, x = .bl k ∧ R k H' := rfl
theorem ap_B : tB te σ H R = te σ H fun x H1 => ∃ c, x = .bl c ∧ R c H1 := rfl
theorem ap_not : tNot tt σ H R = tt σ H fun c H1 => R (!c) H1 := rfl
theorem ap_and : tAnd tt uu σ H R = tt σ H fun c H1 => if c = true then uu σ H1 R else R false H1 := rfl
theorem ap_or : tOr tt uu σ H R = tt σ H fun c H1 => if c = true then R true H1 else uu σ H1 R := rfl
theorem ap_andV : tAndV ta tb σ H Q = ta σ H fun x H1 => ∃ c, x = .bl c ∧ if c = true then tb σ H1 Q else Q (.bl false) H1 := rfl
theorem ap_orV : tOrV ta tb σ H Q = ta σ H fun x H1 => ∃ c, x = .bl c ∧ if c = true then Q (.bl true) H1 else tb σ H1 Q := rfl
theorem ap_notV : tNotV ta σ H Q = ta σ H fun x H1 => ∃ c, x = .bl c ∧ Q (.bl (!c)) H1 := rfl
theorem ap_ifE : tIf tt ta tb σ H Q = tt σ H fun c H1 => if c = true then ta σ H1 Q else tb σ H1 Q := rfl
theorem ap_var : tVar i σ H Q = ∃ v, σ[i]? = some (some v) ∧ Q v H := rfl
theorem ap_C : tC v σ H Q = Q v H := rfl
theorem ap_op {r : R2} : tOp r ta tb σ H Q = ta σ H fun x H1 => tb σ H1 fun y H2 => r x y H2 Q := rfl
theorem ap_un {r : V → Hp → VK → Prop} : tUn r ta σ H Q = ta σ H fun x H1 => r x H1 Q := rfl
theorem ap_chain {r r' : R2} : tChain r r' ta tb tc σ H Q = ta σ H fun x H1 => tb σ H1 fun y H2 => r x y H2 fun z H3 => ∃ k, z = .bl k ∧ (if k = true then tc σ H3 fun w' H4 => r' y w' H4 Q else Q (.bl false) H3) := rfl
theorem ap_nil : tNil σ H S = S [] H := rfl
theorem ap_cons : tCons ta tl σ H S = ta σ H fun x H1 => tl σ H1 fun xs H2 => S (x :: xs) H2 := rfl
theorem ap_tup : tTup tl σ H Q = tl σ H fun xs H1 => xs.length ≤ sizeLine ∧ ∀ p, H1 p = none → Q (.ref p) (upd H1 p (.tup xs)) := rfl
theorem ap_lst : tLst tl σ H Q = tl σ H fun xs H1 => xs.length ≤ sizeLine ∧ ∀ p, H1 p = none → Q (.ref p) (upd H1 p (.lst xs)) := rfl
theorem ap_CB {r : List V → Hp → VK → Prop} : tCB r tl σ H Q = tl σ H fun vs H1 => r vs H1 Q := rfl
theorem ap_call {sp : Sp} {dvs : List V} {E : XK} : tCall sp dvs E tl σ H Q = tl σ H fun vs H1 => sp (vs ++ dvs) H1 Q E := rfl
theorem ap_meth {C : Addr} {m : Str} {sp : Sp} {dvs : List V} {E : XK} : tMeth C m sp dvs E ta tl σ H Q = ta σ H fun x H1 => ∃ a dx fs, x = .ref a ∧ H1 a = some (.ins C dx fs) ∧ fs.lookup m = none ∧ tl σ H1 fun vs H2 => sp (x :: (vs ++ dvs)) H2 Q E := rfl
theorem ap_make {C : Addr} {sp : Sp} {dvs : List V} {E : XK} : tMake C sp dvs E tl σ H Q = tl σ H fun vs H1 => ∀ x dx, H1 x = none → H1 dx = none → dx ≠ x →
 sp (.ref x :: (vs ++ dvs)) (upd (upd H1 dx (.own x)) x (.ins C dx [])) (fun v H2 => v = .non ∧ Q (.ref x) H2) E := rfl
theorem ap_fld {f : Str} : tFld K ta f σ H Q = ta σ H fun x H1 => ∃ a C dx fs v, x = .ref a ∧ H1 a = some (.ins C dx fs) ∧ Cls K C ∧ NoAttr K C f ∧ fs.lookup f = some v ∧ Q v H1 := rfl
theorem ap_sfld {f : Str} : sFld K ta tb f D σ H = tb σ H fun y H1 => ta σ H1 fun x H2 => ∃ a C dx fs, x = .ref a ∧ H2 a = some (.ins C dx fs) ∧ Cls K C ∧ NoAttr K C f ∧ fs.length < 1000 ∧ D.nx σ (upd H2 a (.ins C dx (putF f y fs))) := rfl
theorem ap_faug {f : Str} {rd : V → V → Hp → VK → Prop} : sFldAug K ta tb rd f D σ H = ta σ H fun x H1 => ∃ a C dx fs v, x = .ref a ∧ H1 a = some (.ins C dx fs) ∧ Cls K C ∧ NoAttr K C f ∧ fs.lookup f = some v ∧
 tb σ H1 fun y H2 => rd v y H2 fun z H3 => ∃ dx' fs', H3 a = some (.ins C dx' fs') ∧ fs'.length < 1000 ∧ D.nx σ (upd H3 a (.ins C dx' (putF f z fs'))) := rfl
theorem ap_aug {ti : TIp} : tAug i te ti D σ H = ∃ x, σ[i]? = some (some x) ∧ te σ H fun y H1 => ti x y H1 fun z H2 => D.nx (σ.set i (some z)) H2 := rfl
theorem ap_bmf {c : V → Hp → Prop} {r : V → List V → Hp → VK → Prop} : tBMf c r ta tl σ H Q = ta σ H fun x H1 => c x H1 ∧ tl σ H1 fun xs H2 => r x xs H2 Q := rfl
theorem ap_bmf0 {c : V → Hp → Prop} {r : V → List V → Hp → VK → Prop} : tBMf0 c r ta σ H Q = ta σ H fun x H1 => c x H1 ∧ r x [] H1 Q := rfl
theorem ap_dnew : tDNewK σ H Q = ∀ p, H p = none → Q (.ref p) (upd H p (.dK [])) := rfl
theorem ap_sl {r : V → Option Int → Option Int → Hp → VK → Prop} {tlo thi : TO} : tSl r te tlo thi σ H Q = te σ H fun x H1 => tlo σ H1 fun l H2 => thi σ H2 fun u H3 => r x l u H3 Q := rfl
theorem ap_noPart {P : Option Int → Hp → Prop} : tNoPart σ H P = P none H := rfl
theorem ap_part {P : Option Int → Hp → Prop} : tPart te σ H P = te σ H fun x H1 => ∃ i, x = .int i ∧ P (some i) H1 := rfl
theorem ap_true : tTrue σ H R = R true H := rfl
def ForW (J : It) (g : TG) (tb : TS) (D : Ends) (σ : St) (H : Hp) : Prop := ∃ W : Nat → Nat → St → Hp → Prop, (∃ m, W 0 m σ H) ∧ ∀ i m σ H, W i m σ H →
 (J.stop i H ∧ D.nx σ H) ∨ (J.go i H ∧ ∃ N : St → Hp → Prop, (∀ σ' H', N σ' H' → ∃ m', m' < m ∧ W (i + 1) m' σ' H') ∧ ∀ x H', J.yld i H x H' → g x σ H' fun σ2 H2 => tb { D with nx := N, ct := N, bk := D.nx } σ2 H2)
theorem ap_for1 {tbd : TS} : tFor (iRng1 tl) g tbd D σ H = tl σ H fun vs H1 => ∃ j : Int, vs = [.int j] ∧ -(2 ^ 62) ≤ j ∧ j < 2 ^ 62 ∧ ForW (Itr 0 j.toNat) g tbd D σ H1 := rfl
theorem ap_for2 {tbd : TS} : tFor (iRng2 tl) g tbd D σ H = tl σ H fun vs H1 => ∃ i j : Int, vs = [.int i, .int j] ∧ (-(2 ^ 62) ≤ i ∧ i < 2 ^ 62 ∧ -(2 ^ 62) ≤ j ∧ j < 2 ^ 62) ∧ ForW (Itr i (j - i).toNat) g tbd D σ H1 := rfl
def ForS (K : PySem.W.Frag) (p : Addr) (g : TG) (tb : TS) (D : Ends) (σ : St) (H : Hp) : Prop := match H p with
 | some (.tup _) => ForW (Itt K p) g tb D σ H
 | o => ∃ xs, sqOf o = some xs ∧ ForW (Itl K p) g tb D σ H
theorem ap_forS {tbd : TS} : tFor (iSeq K te) g tbd D σ H = te σ H fun x H1 => ∃ p, x = .ref p ∧ ForS K p g tbd D σ H1 := rfl
theorem forW_range {lo : Int} {n : Nat} {tbd : TS} (Pv : Nat → St → Hp → Prop) (h0 : Pv 0 σ H)
 (hs : ∀ i σ H, i < n → Pv i σ H → g (.int (lo + i)) σ H fun σ2 H2 => tbd { D with nx := Pv (i + 1), ct := Pv (i + 1), bk := D.nx } σ2 H2) (hd : ∀ σ H, Pv n σ H → D.nx σ H) : ForW (Itr lo n) g tbd D σ H := for_range Pv h0 hs hd
theorem forS_seq {p : Addr} {xs : List V} {tbd : TS} (hx : sqOf (H p) = some xs) (Pv : Nat → St → Hp → Prop) (h0 : Pv 0 σ H) (hl : ∀ i σ H', i ≤ xs.length → Pv i σ H' → H' p = H p)
 (hs : ∀ i x σ H, xs[i]? = some x → Pv i σ H → g x σ H fun σ2 H2 => tbd { D with nx := Pv (i + 1), ct := Pv (i + 1), bk := D.nx } σ2 H2) (hd : ∀ σ H, Pv xs.length σ H → D.nx σ H) : ForS K p g tbd D σ H := by
 have q := for_seq (K := K) (g := g) (tb := tbd) (D := D) hx Pv h0 hl hs hd
 unfold ForS ForW
 exact q
end
end L2
namespace L2
open PySem
theorem new_at {H H2 : Hp} {t : Addr} {o : HO} (e : upd H t o = H2) : H2 t = some o := by rw [← e]; exact upd_same
theorem same_new {H : Hp} {p : Addr} (h : H p = none) (o : HO) : Same H (upd H p o) := fun b u q => by rw [upd_ne (ne_of_none q h)]; exact q
theorem new_same {H H2 : Hp} {t : Addr} {o : HO} (ht : H t = none) (e : upd H t o = H2) : Same H H2 := by rw [← e]; exact same_new ht o
theorem wr_ne {H H2 : Hp} {t b : Addr} {o : HO} (e : upd H t o = H2) (h : b ≠ t) : H2 b = H b := by rw [← e]; exact upd_ne h
end L2
namespace L2
open PySem PySem.Spec PyProof.Rows
def Trc (h : Heap) (a T : Addr) (cls : Value) : Prop :=
 ∃ a0 oe vs oT ts, h.get? a = some oe ∧ (oe.cls = cls ∧ vs[0]? = some a0) ∧ oe.data = .fields vs ∧ vs[1]? = some (.ref T) ∧ T ≠ a ∧ h.get? T = some oT ∧ oT.data = .fields ts ∧ ts[3]? = some .none
def CXo (P : Program) (w : World) : List Env → Hp → Shared → XK → Value → Shared → Prop := fun outer H s E e s' => ∃ (a T : Addr) (cls : Value) (H' : Hp), e = .ref a ∧ s'.os = s.os ∧ AllBare s'.gens ∧ Un (frs outer) [] H H' s.heap s'.heap ∧ HOk P w H' s'.heap ∧
 s.heap.get? a = none ∧ s.heap.get? T = none ∧ H' a = none ∧ H' T = none ∧ Trc s'.heap a T cls ∧ E cls none H'
def CXe (P : Program) (w : World) : CXT := fun hv outer H s E e s' => CXo P w outer H s E e s' ∧ (hv = none → ∀ a, e = .ref a → F2 a s'.heap)
theorem ObjOk.there {P : Program} {w : World} {H : Hp} {h : Heap} {a : Addr} {o : HO} (x : ObjOk P w H h a o) : ∃ ob, h.get? a = some ob := by
 cases o with
 | lst xs => obtain ⟨_, _, _, _, e⟩ := x; exact ⟨_, e⟩
 | tup xs => obtain ⟨_, _, _, ob, e, _⟩ := x; exact ⟨ob, e⟩
 | dK kvs => obtain ⟨_, _, _, _, o, _, _, e, _⟩ := x; exact ⟨o, e⟩
 | dT kvs => obtain ⟨_, _, _, _, o, _, _, e, _⟩ := x; exact ⟨o, e⟩
 | set S n => obtain ⟨o, _, _, _, e, _⟩ := x; exact ⟨o, e⟩
 | ins C dx fs => obtain ⟨_, _, _, e, _⟩ := x; exact ⟨_, e⟩
 | own y => exact x
 | xd fs => obtain ⟨_, ⟨o, _, _, e, _⟩, _⟩ := x; exact ⟨o, e⟩
 | rng lo hi => obtain ⟨_, _, _, e⟩ := x; exact ⟨_, e⟩
 | frz ob u => obtain ⟨e, _⟩ := x; exact ⟨_, e⟩
 | tbl ps => exact ⟨_, x⟩
 | met f y => exact ⟨_, x⟩
 | ext φ => obtain ⟨_, e, _⟩ := x; exact e
section
variable {X : Cx} {pins : List (Addr × Obj)} {σ : List (Option V)} {H H' : Hp} {s : Shared} {h' : Heap}
theorem Inv.stepN {ch : List Addr} (I : Inv X pins σ H s)
 (hch : ∀ b ∈ ch, (b ∈ X.ex ∨ X.s₀.heap.get? b = none) ∧ b ≠ X.env.locals ∧ (∀ x c, X.env.cells.lookup x = some c → c ≠ b) ∧ ∀ p ∈ X.pn ++ pins, p.1 ≠ b)
 (keep : ∀ b o, b ≠ X.env.locals → b ∉ X.fs → b ∉ ch → s.heap.get? b = some o → H b = none → h'.get? b = some o)
 (slot : ∀ b o, b ≠ X.env.locals → b ∈ X.fs → b ∉ ch → s.heap.get? b = some o → H b = none → ∃ sl, h'.get? b = some { o with slots := sl })
 (there : ∀ b o, b ∉ ch → s.heap.get? b = some o → ∃ o', h'.get? b = some o')
 (ns : ∀ m, s.heap.Ns X.env.locals m → h'.Ns X.env.locals m) (hok : HOk X.prog X.w H h') :
 Inv X pins σ H { s with heap := h' } := by
 have neL : ∀ b o, X.s₀.heap.get? b = some o → b ≠ X.env.locals := fun b o e => Nat.ne_of_lt (Nat.lt_of_lt_of_le (Heap.lt_size e) I.ok.above)
 have neC : ∀ b o, X.s₀.heap.get? b = some o → b ∉ X.ex → b ∉ ch := fun b o e hx hb => by
  rcases (hch b hb).1 with z | z
  · exact hx z
  · rw [z] at e; cases e
 have cellK : ∀ x c, X.env.cells.lookup x = some c → ∀ v, s.heap.IsCell c v → h'.IsCell c v := fun x c e v ⟨o, ho, hd⟩ => by
  have nch : c ∉ ch := fun z => (hch c z).2.2.1 x c e rfl
  by_cases hc : c ∈ X.fs
  · obtain ⟨sl, q⟩ := slot c o (I.cne x c e) hc nch ho (I.freeC x c e)
    exact ⟨_, q, hd⟩
  · exact ⟨o, keep c o (I.cne x c e) hc nch ho (I.freeC x c e), hd⟩
 refine ⟨I.ok, I.os, I.bare, ⟨fun b o e n hb hx => ?_, fun b o e n hb hx => ?_, fun b o e n hx => I.base.free b o e n hx, fun b o e hx => ?_, fun b xs e => I.base.tups b xs e, fun b o xs e => I.base.frzs b o xs e, fun b ps e => I.base.tbls b ps e⟩, ?_, fun x c e => ?_, I.free, fun x c e => I.freeC x c e, fun p hp => ?_, hok, I.len⟩
 · exact keep b o (neL b o e) hb (neC b o e hx) (I.base.keep b o e n hb hx) (I.base.free b o e n hx)
 · obtain ⟨sl, e1⟩ := I.base.slot b o e n hb hx
   obtain ⟨sl', e2⟩ := slot b _ (neL b o e) hb (neC b o e hx) e1 (I.base.free b o e n hx)
   exact ⟨sl', e2⟩
 · obtain ⟨o', e1⟩ := I.base.there b o e hx
   exact there b o' (neC b o e hx) e1
 · obtain ⟨m, hn, hl⟩ := I.loc
   refine ⟨m, ns m hn, fun i x v e1 e2 e3 => ?_⟩
   obtain ⟨u, r, l⟩ := hl i x v e1 e2 e3
   refine ⟨u, r, ?_⟩
   rcases l with l | ⟨k, c, e, z⟩
   · exact .inl l
   · exact .inr ⟨k, c, e, cellK x c e _ z⟩
 · obtain ⟨v, z⟩ := I.cell x c e
   exact ⟨v, cellK x c e v z⟩
 · obtain ⟨e, n, ne, nf, d⟩ := I.pin p hp
   have nch : p.1 ∉ ch := fun z => (hch p.1 z).2.2.2 p hp rfl
   exact ⟨keep p.1 p.2 ne nf nch e n, n, ne, nf, d⟩
theorem Inv.noted {ch : List Addr} (I : Inv X pins σ H s) (hn : ∀ b ∈ ch, X.s₀.heap.get? b = none) (hf : ∀ b ∈ ch, H b = none) (hd : ∀ b ∈ ch, ∃ o vs, s.heap.get? b = some o ∧ o.data = .fields vs) (hp : ∀ b ∈ ch, ∀ p ∈ X.pn ++ pins, p.1 ≠ b)
 (stay : (PySem.W.hideAll s.heap (ch ++ frs X.stack)).StaysIn h') (slots : ∀ b o, s.heap.get? b = some o → (∀ vs, o.data ≠ .fields vs) → ∃ sl, h'.get? b = some { o with slots := sl }) :
 Inv X pins σ H { s with heap := h' } := by
 obtain ⟨m, hL, _⟩ := id I.loc
 obtain ⟨oL, es, ep, hoL, hdL, rL⟩ := hL
 have stk : ∀ b ∈ frs X.stack, ∃ o, s.heap.get? b = some o ∧ ∀ vs, o.data ≠ .fields vs := fun b hb => (I.stack.mem hb).2
 have old : ∀ b o, b ∉ ch → b ∉ frs X.stack → s.heap.get? b = some o → h'.get? b = some o := fun b o h1 h2 e => stay b o (PySem.W.hideAll_get _ e fun z => (List.mem_append.mp z).elim h1 h2)
 have sub : ∀ b, b ≠ X.env.locals → b ∉ X.fs → b ∉ frs X.stack := fun b h1 h2 z => (List.mem_cons.mp (I.stkSub b z)).elim h1 h2
 refine I.stepN (ch := ch) (fun b hb => ⟨.inr (hn b hb), ?_, fun x c e z => ?_, hp b hb⟩) (fun b o h1 h2 h3 e _ => old b o h3 (sub b h1 h2) e) (fun b o h1 h2 h3 e _ => ?_) (fun b o h3 e => ?_) (fun m' hm => ?_) (fun b o e => ?_)
 · rintro rfl
   obtain ⟨o, vs, e, d⟩ := hd _ hb
   rw [hoL] at e; cases e; rw [hdL] at d; cases d
 · obtain ⟨o, vs, e1, d⟩ := hd _ hb
   obtain ⟨v, o2, e2, d2⟩ := I.cell x c e
   rw [z, e1] at e2; cases e2; rw [d] at d2; cases d2
 · obtain ⟨_, o2, e2, d2⟩ := I.funs.mem h2
   rw [e] at e2; cases e2
   exact slots b o e d2
 · by_cases hb : b ∈ frs X.stack
   · obtain ⟨o2, e2, d2⟩ := stk b hb
     rw [e] at e2; cases e2
     obtain ⟨sl, q⟩ := slots b o e d2
     exact ⟨_, q⟩
   · exact ⟨o, old b o h3 hb e⟩
 · obtain ⟨o2, es2, ep2, e2, d2, r2⟩ := hm
   obtain ⟨sl, q⟩ := slots _ o2 e2 fun vs z => by rw [d2] at z; cases z
   exact ⟨_, es2, ep2, q, d2, r2⟩
 · refine (I.hok b o e).stay (fun c v hc q => ?_) (fun _ q => q) fun _ _ q => q
   have hcH : H c ≠ none := by
    rcases hc with z | z
    · rw [z, e]; exact fun z => nomatch z
    · rw [z]; exact fun z => nomatch z
   exact old c v (fun z => hcH (hf c z)) (fun z => hcH (I.stkFree c z)) q
end
theorem frames_hide {X : Cx} {pins : List (Addr × Obj)} {σ : St} {H : Hp} {s : Shared} {ch : List Addr} (I : Inv X pins σ H s) : s.heap.FunFrames (PySem.W.hideAll s.heap (ch ++ frs X.stack)) X.stack :=
 PySem.W.funFrames_hide I.stack fun env he a ha => List.mem_append_right _ (List.mem_filterMap.mpr ⟨env, he, ha⟩)
def RaiseOk (X : Cx) (E : XK) : Prop := ∀ (pins : List (Addr × Obj)) (σ : St) (H : Hp) (s : Shared) (h' : Heap) (a C : Addr), Inv X pins σ H s → MadeX X.A s.heap h' a (.ref C) → E (.ref C) none H → X.xe (.ref a) { s with heap := h' }
section
variable {P : Program} {w : World} {K : PySem.W.Frag} {mg : Str → Option Value} {base : Heap} {N : List Str} {qual : Str} {scope : Scope} {f : Addr} {cd : Value} {A : Around} {outer : List Env} {s₀ : Shared} {H₀ : Hp} {E : XK}
theorem left_out {X : Cx} {pins : List (Addr × Obj)} {σ : St} {H : Hp} {s : Shared} {h' : Heap} {a : Addr} {ch : List Addr} {cls a0 : Value} {env : Env} (hX : X.ex = []) (he : X.stack = env :: outer) (hfs : X.fs = frs outer)
 (I : Inv X pins σ H s) (ha : a ∈ ch) (hn : ∀ b ∈ ch, X.s₀.heap.get? b = none) (hf : ∀ b ∈ ch, H b = none) (hd : ∀ b ∈ ch, ∃ o vs, s.heap.get? b = some o ∧ o.data = .fields vs) (hp : ∀ b ∈ ch, ∀ p ∈ X.pn ++ pins, p.1 ≠ b)
 (L : Heap.LeftW (PySem.W.hideAll s.heap (ch ++ frs X.stack)) (env :: outer) a cls a0 s.heap h') (q : E cls none H) : CXo X.prog X.w outer X.H₀ X.s₀ E (.ref a) { s with heap := h' } := by
 obtain ⟨stay, funs, tr, slots⟩ := L
 have J : Inv X pins σ H { s with heap := h' } := I.noted hn hf hd hp stay slots
 obtain ⟨oe, vs, T, oT, ts, h1, h2, h3, h4, h5, h6, h7, h8, h9⟩ := tr
 have hT : T ∈ ch ∨ s.heap.get? T = none := by
  by_cases hc : T ∈ ch
  · exact .inl hc
  · refine .inr ?_
    by_cases hs : T ∈ frs X.stack
    · exfalso
      obtain ⟨_, o, eo, dn⟩ := I.stack.mem hs
      obtain ⟨sl, e2⟩ := slots T o eo dn
      rw [h7] at e2
      cases e2
      exact dn ts h8
    · cases e : s.heap.get? T with
      | none => rfl
      | some o =>
       have := PySem.W.hideAll_get (ch ++ frs X.stack) e fun z => (List.mem_append.mp z).elim hc hs
       rw [h5] at this; cases this
 have n0 : ∀ b, s.heap.get? b = none → X.s₀.heap.get? b = none := fun b hb => by
  cases e : X.s₀.heap.get? b with
  | none => rfl
  | some o =>
   obtain ⟨o', h⟩ := I.base.there b o e (by rw [hX]; exact fun z => nomatch z)
   rw [hb] at h; cases h
 have hTn : X.s₀.heap.get? T = none := hT.elim (hn T) (n0 T)
 have hTf : H T = none := hT.elim (hf T) fun z => by
  cases e : H T with
  | none => rfl
  | some o =>
   obtain ⟨ob, h⟩ := (I.hok T o e).there
   rw [z] at h; cases h
 have u := J.base
 rw [hX, hfs] at u
 exact ⟨a, T, cls, H, rfl, J.os, J.bare, u, J.hok, hn a ha, hTn, hf a ha, hTf, ⟨a0, oe, vs, oT, ts, h1, h2, h3, h4, h6, h7, h8, h9⟩, q⟩
theorem passE : Passes (CXe P w) (cxOf (CXe P w) P w K mg base N qual scope f cd A outer s₀ H₀ E) E := by
 intro pins σ H s e s' I cx
 obtain ⟨⟨a, T, cls, H', rfl, os, bare, un, hok, na, nT, fa, fT, tr, q⟩, ctx⟩ := cx
 have I' : Inv (cxOf (CXe P w) P w K mg base N qual scope f cd A outer s₀ H₀ E) pins σ H' s' := I.call' os un hok bare (fun b z => nomatch z)
 have n0 : ∀ b, s.heap.get? b = none → s₀.heap.get? b = none := fun b hb => by
  cases e : s₀.heap.get? b with
  | none => rfl
  | some o =>
   obtain ⟨o', h⟩ := I.base.there b o e (fun z => nomatch z)
   rw [hb] at h; cases h
 have hp : ∀ b ∈ [a, T], ∀ p ∈ (cxOf (CXe P w) P w K mg base N qual scope f cd A outer s₀ H₀ E).pn ++ pins, p.1 ≠ b := fun b hb p hp z => by
  obtain ⟨e, _⟩ := I.pin p hp
  rcases List.mem_cons.mp hb with r | r
  · rw [z, r, na] at e; cases e
  · rw [z, List.mem_singleton.mp r, nT] at e; cases e
 obtain ⟨a0, oe, vs, oT, ts, h1, h2, h3, h4, h6, h7, h8, h9⟩ := tr
 show wpAny (model P w) (A.deeper (envOfC qual scope s₀.heap.objs.size f cd)) (leaving (envOfC qual scope s₀.heap.objs.size f cd) (.ref a)) _ _ s'
 refine wpAny_mono (safe_anyC (φ := F2 a) (c := A.handled = none) (Q := fun _ s2 => CXo P w outer H₀ s₀ E (.ref a) s2) (E := fun _ _ => False) safe_leaving (fun z => ctx z a rfl) ?_) (fun _ s2 z => ⟨z.1, fun y b eb => by cases eb; exact z.2 y⟩) fun _ _ z => z.1.elim
 refine wpAny_leaving_nextW (E := fun _ _ => False) (a0 := a0) (base := PySem.W.hideAll s'.heap ([a, T] ++ frs (cxOf (CXe P w) P w K mg base N qual scope f cd A outer s₀ H₀ E).stack)) (outer := outer) (L := s₀.heap.objs.size) (cls := cls) I.ok.frames (frames_hide I') rfl
  ⟨oe, vs, T, oT, ts, h1, h2, h3, h4, PySem.W.hideAll_none _ (by simp), h6, h7, h8, h9⟩ (fun b o z => PySem.W.of_hideAll _ z) (PySem.W.hideAll_none _ (by simp)) fun h'' L => ?_
 refine left_out (X := cxOf (CXe P w) P w K mg base N qual scope f cd A outer s₀ H₀ E) (ch := [a, T]) (env := envOfC qual scope s₀.heap.objs.size f cd) rfl rfl rfl I' (by simp) (fun b hb => ?_) (fun b hb => ?_) (fun b hb => ?_) hp L q
 · rcases List.mem_cons.mp hb with r | r
   · rw [r]; exact n0 a na
   · rw [List.mem_singleton.mp r]; exact n0 T nT
 · rcases List.mem_cons.mp hb with r | r
   · rw [r]; exact fa
   · rw [List.mem_singleton.mp r]; exact fT
 · rcases List.mem_cons.mp hb with r | r
   · rw [r]; exact ⟨oe, vs, h1, h3⟩
   · rw [List.mem_singleton.mp r]; exact ⟨oT, ts, h7, h8⟩
theorem raiseE : RaiseOk (cxOf (CXe P w) P w K mg base N qual scope f cd A outer s₀ H₀ E) E := by
 intro pins σ H s h' a C I me q
 have I' : Inv (cxOf (CXe P w) P w K mg base N qual scope f cd A outer s₀ H₀ E) pins σ H { s with heap := h' } := I.kept (t' := s.toks) me.keeps
 have n0 : ∀ b, s.heap.get? b = none → s₀.heap.get? b = none := fun b hb => by
  cases e : s₀.heap.get? b with
  | none => rfl
  | some o =>
   obtain ⟨o', h⟩ := I.base.there b o e (fun z => nomatch z)
   rw [hb] at h; cases h
 obtain ⟨oe, vs, a0, h1, h2, h3, h4, h5⟩ := me.there
 rw [← h2] at q
 show wpAny (model P w) (A.deeper (envOfC qual scope s₀.heap.objs.size f cd)) (leaving (envOfC qual scope s₀.heap.objs.size f cd) (.ref a)) _ _ { s with heap := h' }
 refine wpAny_mono (safe_anyC (φ := F2 a) (c := A.handled = none) (Q := fun _ s2 => CXo P w outer H₀ s₀ E (.ref a) s2) (E := fun _ _ => False) safe_leaving (fun z => me.f2 z) ?_) (fun _ s2 z => ⟨z.1, fun y b eb => by cases eb; exact z.2 y⟩) fun _ _ z => z.1.elim
 refine wpAny_leaving_firstW (E := fun _ _ => False) (base := PySem.W.hideAll h' ([a] ++ frs (cxOf (CXe P w) P w K mg base N qual scope f cd A outer s₀ H₀ E).stack)) (outer := outer) (L := s₀.heap.objs.size) I.ok.frames (frames_hide I') rfl
  h1 (fun b o z => PySem.W.of_hideAll _ z) (PySem.W.hideAll_none _ (by simp)) h3 h5 h4 fun h'' L => ?_
 refine left_out (X := cxOf (CXe P w) P w K mg base N qual scope f cd A outer s₀ H₀ E) (ch := [a]) (env := envOfC qual scope s₀.heap.objs.size f cd) rfl rfl rfl I' (by simp) (fun b hb => ?_) (fun b hb => ?_) (fun b hb => ?_) (fun b hb p hp z => ?_) L q
 · rw [List.mem_singleton.mp hb]; exact n0 a me.new
 · rw [List.mem_singleton.mp hb]
   cases e : H a with
   | none => rfl
   | some o =>
    obtain ⟨ob, h⟩ := (I.hok a o e).there
    rw [me.new] at h; cases h
 · rw [List.mem_singleton.mp hb]; exact ⟨_, _, h1, h3⟩
 · obtain ⟨e, _⟩ := I.pin p hp
   rw [z, List.mem_singleton.mp hb, me.new] at e; cases e
end
end L2
namespace L2
open PySem PySem.Spec PyProof.Rows
abbrev bmV : List Value := [.type "ValueError", .type "Exception", .type "BaseException", .type "object"]
theorem own_obj {K : PySem.W.Frag} {h : Heap} {C : Addr} {bmB : List Value} {newId : String} (X : K.In h) (q : PySem.W.excIn K C bmB newId = true) :
 ∃ bm N nm qn bs hdct sn sub ab col dd k0 k1 k2 k3 k5 mN, h.get? C = some (excClassObj nm qn C N bs bm hdct sn sub ab col dd k0 k1 k2 k3 k5 newId) ∧ h.Ns N mN ∧ mN "__init__" = none ∧ OwnTail h bmB bm := by
 unfold PySem.W.excIn at q
 split at q
 · rename_i dd cd sl ho
   split at q
   · rename_i C' bm k0 k1 k2 k3 n k5 hm hs
     simp only [Bool.and_eq_true, beq_iff_eq, Bool.not_eq_true'] at q
     obtain ⟨⟨⟨⟨⟨rfl, rfl⟩, hdel⟩, ht⟩, hok⟩, hni⟩ := q
     obtain ⟨nm, bs, mro, ns, qn, hd, sn, sub, ab, col, del⟩ := cd
     dsimp only at hm hdel hok hni
     subst hm hdel
     have hsl : sl = #[k0, k1, k2, k3, some (.builtin n), k5] := by
      obtain ⟨l⟩ := sl
      simp only at hs
      rw [hs]
     subst hsl
     exact ⟨bm, ns, nm, qn, bs, hd, sn, sub, ab, col, dd, k0, k1, k2, k3, k5, _, X _ _ ho, .of_isNs (PySem.W.isNs_of_in X hok), PySem.W.nsMap_none_of_in X hok hni, PySem.W.tail_of_in X ht⟩
   · cases q
 · cases q
section
variable {X : Cx} {x : Str} {np cpos pos : Pos} {e₀ : Expr} {rest : List Expr} {C : Addr} {t : TA} {E : XK}
def tRaise (C : Addr) (E : XK) (t : TA) : TS := fun _ σ H => t σ H fun vs H1 => vs.length ≤ sizeLine ∧ E (.ref C) none H1
theorem ps_raise (hg : Gl X x) (hm : X.mg x = some (.ref C)) (q : PySem.W.excIn X.K C bmV "ValueError.__new__" = true) (hc : X.calm = true) (hr : RaiseOk X E) (ha : PA X (e₀ :: rest) t)
 (hd : (x == ("__debug__" : Str)) = false := by decide) (he : starEach (e₀ :: rest) X.env = (false, eval e₀ X.env) :: starEach rest X.env := by rfl) (hplain : (backTo cpos (starEach rest X.env)).any (·.1) = false := by rfl) :
 PS X (.Raise (some (.Call (.Name x np) (e₀ :: rest) [] cpos)) none pos) (tRaise C E t) := by
 intro pins s σ H D I h
 obtain ⟨tl, N, nm, qn, bs, hdct, sn, sub, ab, col, dd, k0, k1, k2, k3, k5, mN, hC, hN, hni, T⟩ := own_obj I.mod.kin q
 refine raise_sub (C := C) (nm := nm) (q := qn) (N := N) (bs := bs) (bm := tl) (hdct := hdct) (sn := sn) (sub := sub) (ab := ab) (col := col) (dd := dd) (k0 := k0) (k1 := k1) (k2 := k2) (k3 := k3) (k5 := k5)
  PySem.F.excBase_ValueError (mN := mN) (T.hasType PySem.F.excBase_ValueError.hasBase) (by rw [he]; show (false || (backTo cpos (starEach rest X.env)).any (·.1)) = false; rw [hplain]; rfl) hni (ld_glob I hg hm ⟨rfl, ?_⟩ hd)
 have hA := ha cpos pins s σ H _ I h
 rw [he] at hA ⊢
 exact Calls.evalArgs_plain (wpAny_mono hA (fun us s₂ ⟨vs, H2, I2, r2, hz, q2⟩ => ⟨rfl, by rw [← r2.length]; exact hz, I2.handAt hc, I2.bk _ _ hC, hN.keeps I2.bk, T.keeps I2.bk, fun h' e me => hr pins σ H2 s₂ h' e C I2 me q2⟩) fun _ _ y => y)
end
def XP (X : Cx) (pins : List (Addr × Obj)) (Ex : St → XK) (e : Value) (s' : Shared) : Prop := ∃ σ H1 s1, Inv X pins σ H1 s1 ∧ CXe X.prog X.w X.A.handled X.stack H1 s1 (Ex σ) e s'
def PEx (X : Cx) (e : Expr) (t : XK → TE) : Prop :=
 ∀ (pins : List (Addr × Obj)) (s : Shared) (σ : St) (H : Hp) (Q : VK) (Ex : St → XK), Inv X pins σ H s → t (Ex σ) σ H Q → wpAny (model X.prog X.w) X.A (eval e X.env) (EP X pins σ Q) (XP X pins Ex) s
def PSx (X : Cx) (st : Stmt) (t : (St → XK) → TS) : Prop :=
 ∀ (pins : List (Addr × Obj)) (s : Shared) (σ : St) (H : Hp) (D : Ends) (Ex : St → XK), Inv X pins σ H s → t Ex D σ H → wpAny (model X.prog X.w) X.A (exec st X.env) (SP X pins D) (XP X pins Ex) s
def PSsx (X : Cx) (st : List Stmt) (t : (St → XK) → TS) : Prop :=
 ∀ (pins : List (Addr × Obj)) (s : Shared) (σ : St) (H : Hp) (D : Ends) (Ex : St → XK), Inv X pins σ H s → t Ex D σ H → wpAny (model X.prog X.w) X.A (execs st X.env) (SP X pins D) (XP X pins Ex) s
theorem EP.unwish {X : Cx} {E : Value → Shared → Prop} {pins : List (Addr × Obj)} {σ : St} {Q : VK} {u : Value} {s' : Shared} (h : EP (X.wish E) pins σ Q u s') : EP X pins σ Q u s' := by
 obtain ⟨v, H', I, r, q⟩ := h
 exact ⟨v, H', I.unwish, r, q⟩
section
variable {X : Cx} {k : Nat} {f C : Addr} {fd : FuncData} {ps : List Str} {sp : Sp} {dvs : List V} {ds : List Value} {x m : Str} {p pos apos : Pos} {e o : Expr} {es : List Expr} {ta : TE} {t : TA}
theorem run_fnE {pins : List (Addr × Obj)} {σ : St} {H : Hp} {s : Shared} {Q : VK} {us : List Value} {vs : List V} {Ex : St → XK} (F : FnOk X.prog X.w X.K X.mg X.base (CXe X.prog X.w) k f fd ps sp) (hr : Room k X.A) (hb : Binds X.K fd ps ds) (hd : Vals dvs ds)
 (I : Inv X pins σ H s) (r : Vals vs us) (h : sp (vs ++ dvs) H Q (Ex σ)) (hc : X.calm = true := by rfl) : wpAny (model X.prog X.w) X.A (call (.ref f) us) (EP X pins σ Q) (XP X pins Ex) s := by
 have r2 : Vals (vs ++ dvs) (us ++ ds) := r.append hd
 have hl : (us ++ ds).length = ps.length := by rw [← r2.length]; exact F.len _ _ _ _ h
 refine wpAny_call (codeAny_mono (F.run X.A X.stack s H ⟨us, []⟩ (us ++ ds) (vs ++ dvs) Q (Ex σ) hr (I.env0 hc) (hb s us I.kIn hl) r2 h) fun r s' hq => ?_)
 cases r with
 | error e => exact ⟨σ, H, s, I, hq⟩
 | ok fl =>
  cases fl with
  | ret u => exact I.after hq
  | next => exact False.elim hq
  | brk => exact False.elim hq
  | cont => exact False.elim hq
theorem pex_call (F : FnOk X.prog X.w X.K X.mg X.base (CXe X.prog X.w) k f fd ps sp) (hr : Room k X.A) (hg : Gl X x) (hm : X.mg x = some (.ref f)) (hk : PySem.W.keepIn X.K (.ref f) = true) (hb : Binds X.K fd ps ds) (hd : Vals dvs ds)
 (ha : PA X.nox (e :: es) t) (hdb : (x == ("__debug__" : Str)) = false := by decide) (he : starEach (e :: es) X.env = (false, eval e X.env) :: starEach es X.env := by rfl) (hpl : (backTo pos (starEach es X.env)).any (·.1) = false := by rfl) (hc : X.calm = true := by rfl) :
 PEx X (.Call (.Name x p) (e :: es) [] pos) (fun E => tCall sp dvs E t) := by
 intro pins s σ H Q Ex I h
 refine wpAny_Call_Name_kw (ld_glob I hg hm ?_ hdb)
 refine PySem.W.callWith_K (h₀ := X.base) I.ok.mod.kin hk (wpAny_mono (ha pos pins s σ H _ (I.wish _) h) (fun us s1 ⟨vs, H1, I1, r, q⟩ => ⟨I1.unwish.kIn, ?_⟩) fun _ _ z => z.elim) he hpl
 exact run_fnE (hc := hc) F hr hb hd I1.unwish r q
variable {te : XK → TE} {st : Stmt} {rest a b : List Stmt} {tx ux : (St → XK) → TS} {ts : TS} {tc : TT} {cnd : Expr}
theorem psx_expr (he : PEx X e te) (hs : swapsWith e none pos.line X.env = pure false := by rfl) : PSx X (.Expr e pos) (fun Ex D σ H => te (Ex σ) σ H fun _ H1 => D.nx σ H1) := by
 intro pins s σ H D Ex I h
 exact wpAny_Expr_any (thn (he pins s σ H _ Ex I h) fun v s1 ⟨x, H1, I1, r1, q1⟩ => ⟨σ, H1, I1, q1⟩) I.quiet hs
theorem psx_set {i : Nat} {pos' : Pos} (hN : X.N.Nodup) (hi : X.N[i]? = some x) (hx : Loc X.env.scope x) (he : PEx X e te) (hs : swapsWith e (some (.Name x pos')) pos.line X.env = pure false := by rfl) (hf : X.fn x = true ∨ X.env.scope.names.lookup x = some .local := by first | exact .inl rfl | exact .inr rfl | assumption) :
 PSx X (.Assign [.Name x pos'] e pos) (fun Ex D σ H => te (Ex σ) σ H fun v H1 => D.nx (σ.set i (some v)) H1) := by
 intro pins s σ H D Ex I h
 refine wpAny_Assign_Name (thn (he pins s σ H _ Ex I h) fun v s1 ⟨y, H1, I1, r1, q1⟩ => ?_) hs
 exact store_ok I1 hN hi hx r1 (fun s2 I2 => ⟨_, H1, I2, q1⟩) hf
theorem pssx_one (h1 : PSx X st tx) : PSsx X [st] tx := by
 intro pins s σ H D Ex I h
 refine wpAny_execs_cons (thn (h1 pins s σ H D Ex I h) fun f s1 q => ?_)
 cases f with
 | next => exact wpAny_execs_nil q
 | ret v => exact q
 | brk => exact q
 | cont => exact q
end
end L2
namespace L2
open PySem PySem.Spec PyProof.Rows
abbrev Cx.hnd (X : Cx) (a : Addr) : Cx := { X with A := X.A.mark (some (.ref a)), calm := false, xe := fun _ _ => False }
theorem Inv.hnd {X : Cx} {pins : List (Addr × Obj)} {σ : St} {H : Hp} {s : Shared} (I : Inv X pins σ H s) (a : Addr) : Inv (X.hnd a) pins σ H s :=
 ⟨⟨I.ok.mod, I.ok.kind, I.ok.glob, I.ok.blt, I.ok.above, I.ok.inj, I.ok.has, I.ok.cab, (fun h => nomatch h), I.ok.frames, I.ok.stk, I.ok.exf, I.ok.bs, I.ok.bsz, I.ok.noex, I.ok.exfs, I.ok.funs, I.ok.frf⟩,
  I.os, I.bare, I.base, I.loc, I.cell, I.free, I.freeC, I.pin, I.hok, I.len⟩
theorem Inv.unhnd {X : Cx} {pins : List (Addr × Obj)} {σ σ' : St} {H H' : Hp} {s s' : Shared} {a : Addr} (J : Inv X pins σ' H' s') (I : Inv (X.hnd a) pins σ H s) : Inv X pins σ H s :=
 ⟨J.ok, I.os, I.bare, I.base, I.loc, I.cell, I.free, I.freeC, I.pin, I.hok, I.len⟩
structure Caught (X : Cx) (pins : List (Addr × Obj)) (σ : St) (H : Hp) (a : Addr) (cls : Value) (s : Shared) : Prop where
 ex : ∃ (s1 : Shared) (T : Addr) (a0 : Value), Inv X pins σ H s1 ∧ X.s₀.heap.get? a = none ∧ X.s₀.heap.get? T = none ∧ H a = none ∧ H T = none ∧ (∀ p ∈ X.pn ++ pins, p.1 ≠ a ∧ p.1 ≠ T) ∧
  (∃ o vs, s1.heap.get? a = some o ∧ o.data = .fields vs) ∧ (∃ o vs, s1.heap.get? T = some o ∧ o.data = .fields vs) ∧ s = { s1 with heap := s.heap } ∧
  Heap.FlyingW (PySem.W.hideAll s1.heap ([a, T] ++ frs X.stack)) X.stack a cls a0 s.heap ∧ s1.heap.UpToSlots s.heap
 f2 : X.A.handled = none → F2 a s.heap
theorem Caught.inv {X : Cx} {pins : List (Addr × Obj)} {σ : St} {H : Hp} {a : Addr} {cls : Value} {s : Shared} (c : Caught X pins σ H a cls s) : Inv X pins σ H s := by
 obtain ⟨s1, T, a0, I, n1, n2, f1, f2, hp, d1, d2, es, fl, sl⟩ := c.ex
 rw [es]
 refine I.noted (ch := [a, T]) (fun b hb => ?_) (fun b hb => ?_) (fun b hb => ?_) (fun b hb p hq => ?_) fl.1 sl
 · rcases List.mem_cons.mp hb with r | r
   · rw [r]; exact n1
   · rw [List.mem_singleton.mp r]; exact n2
 · rcases List.mem_cons.mp hb with r | r
   · rw [r]; exact f1
   · rw [List.mem_singleton.mp r]; exact f2
 · rcases List.mem_cons.mp hb with r | r
   · rw [r]; exact d1
   · rw [List.mem_singleton.mp r]; exact d2
 · rcases List.mem_cons.mp hb with r | r
   · rw [r]; exact (hp p hq).1
   · rw [List.mem_singleton.mp r]; exact (hp p hq).2
def PH (X : Cx) (hs : List ExceptHandler) (th : Value → TS) : Prop :=
 ∀ (pins : List (Addr × Obj)) (σ : St) (H : Hp) (D : Ends) (a : Addr) (cls : Value) (s : Shared), Caught X pins σ H a cls s → th cls D σ H → wpAny (model X.prog X.w) X.A (handleBy (.ref a) X.env hs) (SP X pins D) X.xe s
section
variable {X : Cx} {x : Str} {np pos : Pos} {b₀ : Stmt} {suite : List Stmt} {rest : List ExceptHandler} {c : Value} {tb : TS} {th : Value → TS}
theorem ph_nil : PH X [] (fun _ _ _ _ => False) := fun _ _ _ _ _ _ _ _ h => h.elim
def tHand (K : PySem.W.Frag) (c : Value) (tb : TS) (th : Value → TS) : Value → TS := fun cls D σ H => ∃ b, PySem.W.exmOne K cls c = some b ∧ if b = true then tb D σ H else th cls D σ H
def tTry (tx : (St → XK) → TS) (th : Value → TS) : TS := fun D σ H => tx (fun σ' cls _ H' => th cls D σ' H') D σ H
theorem ps_try {body : List Stmt} {h₀ : ExceptHandler} {hs : List ExceptHandler} {tx : (St → XK) → TS} (hst : X.stack = X.env :: X.outer) (hfr : X.env.frame = some X.env.locals) (hex : X.ex = []) (hb : PSsx X body tx) (hh : PH X (h₀ :: hs) th) :
 PS X (.Try body (h₀ :: hs) [] [] pos) (tTry tx th) := by
 intro pins s σ H D I h
 refine wpAny_Try_except (wpAny_mono (hb pins s σ H D (fun σ' cls _ H' => th cls D σ' H') I h) (fun f s1 q => ?_) fun e s' q => ?_)
 · cases f with
   | next => exact wpAny_execs_nil q
   | brk => exact q
   | cont => exact q
   | ret u => exact q
 · obtain ⟨σ', H1, s1, I1, ⟨a, T, cls, H', rfl, os, bare, un, hok, na, nT, fa, fT, tr, q⟩, ctx⟩ := q
   have I' : Inv X pins σ' H' s' := I1.call' os un hok bare (fun b z => nomatch z)
   have n0 : ∀ b, s1.heap.get? b = none → X.s₀.heap.get? b = none := fun b hb => by
    cases e : X.s₀.heap.get? b with
    | none => rfl
    | some o =>
     obtain ⟨o', h⟩ := I1.base.there b o e (by rw [hex]; exact fun z => nomatch z)
     rw [hb] at h; cases h
   have hp : ∀ p ∈ X.pn ++ pins, p.1 ≠ a ∧ p.1 ≠ T := fun p hp => by
    obtain ⟨e, _⟩ := I1.pin p hp
    exact ⟨(fun z => by rw [z, na] at e; cases e), (fun z => by rw [z, nT] at e; cases e)⟩
   obtain ⟨a0, oe, vs, oT, ts, h1, h2, h3, h4, h6, h7, h8, h9⟩ := tr
   have fl0 : Heap.FlyingW (PySem.W.hideAll s'.heap ([a, T] ++ frs X.stack)) (X.env :: X.outer) a cls a0 s'.heap :=
    ⟨fun b o z => PySem.W.of_hideAll _ z, PySem.W.hideAll_none _ (by simp), by rw [← hst]; exact frames_hide I', oe, vs, T, oT, ts, h1, h2, h3, h4, PySem.W.hideAll_none _ (by simp), h6, h7, h8, h9⟩
   refine wpAny_mono (safe_anyC (φ := F2 a) (c := X.A.handled = none) safe_note (fun z => ctx z a rfl) (wpAny_looks_onW (Q := fun _ s2 => ∃ h4', s2 = { s' with heap := h4' } ∧ Heap.HeldW _ (X.env :: X.outer) a cls a0 X.env.locals h4' ∧ s'.heap.UpToSlots h4') (E := fun _ _ => False) (L := X.env.locals) (by rw [I.ok.frames, hst]) hfr fl0 fun h4' hd4 sl4 => ⟨h4', rfl, hd4, sl4⟩)) (fun _ s2 z => ?_) fun _ _ z => z.1.elim
   obtain ⟨⟨h4', rfl, hd4, sl4⟩, c4⟩ := z
   refine wpAny_mono (safe_anyC (φ := F2 a) (c := X.A.handled = none) safe_flight c4 (wpAny_landsW (Q := fun _ s2 => ∃ h5, s2 = { s' with heap := h5 } ∧ Heap.FlyingW _ (X.env :: X.outer) a cls a0 h5 ∧ h4'.UpToSlots h5) (E := fun _ _ => False) (s := { s' with heap := h4' }) hd4 fun h5 fl5 sl5 => ⟨h5, rfl, fl5, sl5⟩)) (fun _ s2 z => ?_) fun _ _ z => z.1.elim
   obtain ⟨⟨h5, rfl, fl5, sl5⟩, c5⟩ := z
   refine hh pins σ' H' D a cls _ ⟨⟨s', T, a0, I', n0 a na, n0 T nT, fa, fT, hp, ⟨oe, vs, h1, h3⟩, ⟨oT, ts, h7, h8⟩, rfl, by rw [hst]; rw [hst] at fl5; exact fl5, sl4.trans sl5⟩, c5⟩ q
end
theorem Fun.okE {P : Program} {w : World} {K : PySem.W.Frag} {mg : Str → Option Value} {base : Heap} {x qual : Str} {st : Stmt} {f : Addr} {fd : FuncData} {N ps : List Str} {k : Nat} {sp : Sp} (F : Fun K x qual st f fd) (S : FnScope N ps (defScope st)) (len : ∀ vs H Q E, sp vs H Q E → vs.length = ps.length)
 (hbody : ∀ (cdv : Value) (A : Around) (outer : List Env) (s : Shared) (H : Hp) (vs : List V) (Q : VK) (E : XK), Room k (A.deeper (envOfC qual (defScope st) s.heap.objs.size f cdv)) → sp vs H Q E →
   ∃ t, PSs (cxOf (CXe P w) P w K mg base N qual (defScope st) f cdv A outer s H E) (defBody st) t ∧ t { nx := fun _ H' => Q .non H', rt := Q } (start N vs) H) : FnOk P w K mg base (CXe P w) (k + 1) f fd ps sp := by
 obtain ⟨oc, od, kV, doc, pm, an, cdv, ct, osl, rfl, lk, hcd⟩ := F.ex
 exact fn_of lk hcd S len fun A outer s H vs Q E hr hsp => hbody cdv A outer s H vs Q E hr hsp
theorem Fun.okN {P : Program} {w : World} {K : PySem.W.Frag} {mg : Str → Option Value} {base : Heap} {x qual : Str} {st : Stmt} {f : Addr} {fd : FuncData} {N ps : List Str} {k : Nat} {sp : Sp} (F : Fun K x qual st f fd) (S : FnScope N ps (defScope st)) (len : ∀ vs H Q E, sp vs H Q E → vs.length = ps.length)
 (hbody : ∀ (cdv : Value) (A : Around) (outer : List Env) (s : Shared) (H : Hp) (vs : List V) (Q : VK) (E : XK), Room k (A.deeper (envOfC qual (defScope st) s.heap.objs.size f cdv)) → sp vs H Q E →
   ∃ t, PSs (cxOf (CXe P w) P w K mg base N qual (defScope st) f cdv A outer s H E).nox (defBody st) t ∧ t { nx := fun _ H' => Q .non H', rt := Q } (start N vs) H) : FnOk P w K mg base (CXe P w) (k + 1) f fd ps sp := by
 refine F.okE S len fun cdv A outer s H vs Q E hr hsp => ?_
 obtain ⟨t, h, q⟩ := hbody cdv A outer s H vs Q E hr hsp
 exact ⟨t, h.nox, q⟩
theorem passN {P : Program} {w : World} {X : Cx} : Passes (CXe P w) X E0 := by
 intro _ _ _ _ _ _ _ h
 obtain ⟨⟨_, _, _, _, _, _, _, _, _, _, _, _, _, _, h⟩, _⟩ := h
 exact h.elim
end L2
namespace L2
open PySem PySem.Spec PyProof.Rows
section
variable {H : Hp} {Q : VK} {p q : Addr} {i j k : Int} {x y v : V} {z z' : Str} {xs ys : List V} {kvs : List (Key × V)} {C dx : Addr} {fs : List (Str × V)} {c c' : Bool} {d : Nat} {o : Option HO}
theorem sq_lst : sqOf (some (.lst xs)) = some xs := rfl
theorem sq_tup : sqOf (some (.tup xs)) = some xs := rfl
theorem sq_frz {ob : Obj} : sqOf (some (.frz ob (.lst xs))) = some xs := rfl
theorem sq_dK : sqOf (some (.dK kvs)) = none := rfl
theorem sq_ins : sqOf (some (.ins C dx fs)) = none := rfl
def ixAt (s : Option (List V)) (o : Option HO) (y : V) (H : Hp) (Q : VK) : Prop := match s with
 | some xs => ∃ i v, y = .int i ∧ atI xs i = some v ∧ Q v H
 | none => ∃ kvs k v, o = some (.dK kvs) ∧ keyV y = some k ∧ valV kvs k = some v ∧ Q v H
theorem w_ix_ref : fIx (.ref p) y H Q = ixAt (sqOf (H p)) (H p) y H Q := rfl
theorem w_ix_sq : ixAt (some xs) o (.int i) H Q ↔ ∃ v, atI xs i = some v ∧ Q v H := by simp [ixAt]
theorem w_ix_dki : ixAt none (some (.dK kvs)) (.int i) H Q ↔ ∃ v, valV kvs (Sum.inl i) = some v ∧ Q v H := by simp [ixAt, keyV]
theorem w_ix_dks : ixAt none (some (.dK kvs)) (.str z) H Q ↔ ∃ v, valV kvs (Sum.inr z) = some v ∧ Q v H := by simp [ixAt, keyV]
theorem w_ix_str : fIx (.str z) (.int i) H Q ↔ (z.length ≤ sizeLine ∧ ∃ c, atI z.cps.toList i = some c ∧ Q (.str ⟨#[c]⟩) H) := by
 simp only [fIx]
 constructor
 · rintro ⟨i', c, e, h1, h2, h3⟩; cases e; exact ⟨h1, c, h2, h3⟩
 · rintro ⟨h1, c, h2, h3⟩; exact ⟨i, c, rfl, h1, h2, h3⟩
def slAt (o : Option HO) (lo hi : Option Int) (H : Hp) (Q : VK) : Prop := match o with
 | some (.tup xs) => ¬ (HT.sIx xs.length 0 lo = 0 ∧ HT.sIx xs.length xs.length hi = xs.length) ∧ ∀ q, H q = none → Q (.ref q) (upd H q (.tup (cutV xs lo hi)))
 | o => ∃ xs, sqOf o = some xs ∧ ∀ q, H q = none → Q (.ref q) (upd H q (.lst (cutV xs lo hi)))
theorem w_sl {lo hi : Option Int} : fSl (.ref p) lo hi H Q = slAt (H p) lo hi H Q := rfl
theorem w_sl_tup {lo hi : Option Int} : slAt (some (.tup xs)) lo hi H Q = (¬ (HT.sIx xs.length 0 lo = 0 ∧ HT.sIx xs.length xs.length hi = xs.length) ∧ ∀ q, H q = none → Q (.ref q) (upd H q (.tup (cutV xs lo hi)))) := rfl
theorem w_sl_lst {lo hi : Option Int} : slAt (some (.lst xs)) lo hi H Q ↔ ∀ q, H q = none → Q (.ref q) (upd H q (.lst (cutV xs lo hi))) := by simp [slAt, sqOf]
theorem w_sl_frz {lo hi : Option Int} {ob : Obj} : slAt (some (.frz ob (.lst xs))) lo hi H Q ↔ ∀ q, H q = none → Q (.ref q) (upd H q (.lst (cutV xs lo hi))) := by simp [slAt, sqOf]
def lenAt (s : Option (List V)) (o : Option HO) (H : Hp) (Q : VK) : Prop := match s with
 | some ys => Q (.int ys.length) H
 | none => ∃ kvs, o = some (.dK kvs) ∧ Q (.int kvs.length) H
theorem w_len_ref : fLen [.ref p] H Q = lenAt (sqOf (H p)) (H p) H Q := rfl
theorem w_len_sq : lenAt (some xs) o H Q = Q (.int xs.length) H := rfl
theorem w_len_dk : lenAt none (some (.dK kvs)) H Q ↔ Q (.int kvs.length) H := by simp [lenAt]
theorem w_len_str : fLen [.str z] H Q = (z.length ≤ sizeLine ∧ Q (.int z.length) H) := rfl
theorem w_list : fList [.ref p] H Q ↔ ∃ ys, sqOf (H p) = some ys ∧ ∀ l, H l = none → Q (.ref l) (upd H l (.lst ys)) := by
 constructor
 · rintro ⟨p', ys, e, h1, h2⟩; cases e; exact ⟨ys, h1, h2⟩
 · rintro ⟨ys, h1, h2⟩; exact ⟨p, ys, rfl, h1, h2⟩
def tupAt (o : Option HO) (p : Addr) (H : Hp) (Q : VK) : Prop := match o with
 | some (.tup _) => Q (.ref p) H
 | some (.lst ys) => ∀ l, H l = none → Q (.ref l) (upd H l (.tup ys))
 | _ => False
theorem w_tuple : fTuple [.ref p] H Q ↔ tupAt (H p) p H Q := by
 constructor
 · rintro ⟨p', e, h⟩; cases e; exact h
 · intro h; exact ⟨p, rfl, h⟩
theorem w_tuple_tup : tupAt (some (.tup xs)) p H Q = Q (.ref p) H := rfl
theorem w_tuple_lst : tupAt (some (.lst xs)) p H Q = ∀ l, H l = none → Q (.ref l) (upd H l (.tup xs)) := rfl
def inAt (neg : Bool) (s : Option (List V)) (o : Option HO) (x : V) (H : Hp) (Q : VK) : Prop := match s with
 | some xs => flatV x = true ∧ xs.all flatV = true ∧ Q (.bl (if neg then !inV x xs else inV x xs)) H
 | none => ∃ kvs k, o = some (.dK kvs) ∧ keyV x = some k ∧ Q (.bl (if neg then !(valV kvs k).isSome else (valV kvs k).isSome)) H
theorem w_in {neg : Bool} : fIn neg x (.ref p) H Q = inAt neg (sqOf (H p)) (H p) x H Q := rfl
theorem w_in_sq : inAt false (some xs) o x H Q = (flatV x = true ∧ xs.all flatV = true ∧ Q (.bl (inV x xs)) H) := rfl
theorem w_notin_sq : inAt true (some xs) o x H Q = (flatV x = true ∧ xs.all flatV = true ∧ Q (.bl (!inV x xs)) H) := rfl
theorem w_in_dki : inAt false none (some (.dK kvs)) (.int i) H Q ↔ Q (.bl (valV kvs (Sum.inl i)).isSome) H := by simp [inAt, keyV]
theorem w_notin_dki : inAt true none (some (.dK kvs)) (.int i) H Q ↔ Q (.bl (!(valV kvs (Sum.inl i)).isSome)) H := by simp [inAt, keyV]
theorem w_is_non : fIs false x .non H Q = Q (.bl (decide (x = .non))) H := rfl
theorem w_isnot_non : fIs true x .non H Q = Q (.bl (!decide (x = .non))) H := rfl
theorem w_is_bl : fIs false x (.bl c) H Q = Q (.bl (decide (x = .bl c))) H := rfl
theorem w_isnot_bl : fIs true x (.bl c) H Q = Q (.bl (!decide (x = .bl c))) H := rfl
def tyR : Option HO → Option String
 | some (.lst _) => some "list"
 | some (.frz _ (.lst _)) => some "list"
 | some (.tup _) => some "tuple"
 | some (.dK _) => some "dict"
 | _ => none
theorem ty_ref : tyN (.ref p) H = tyR (H p) := by
 show (match H p with | some (.lst _) => some "list" | some (.frz _ (.lst _)) => some "list" | some (.tup _) => some "tuple" | some (.dK _) => some "dict" | _ => none) = tyR (H p)
 cases H p with
 | none => rfl
 | some o =>
  cases o with
  | frz ob u => cases u <;> rfl
  | _ => rfl
theorem ty_non : tyN .non H = some "NoneType" := rfl
theorem ty_bl : tyN (.bl c) H = some "bool" := rfl
theorem ty_int : tyN (.int i) H = some "int" := rfl
theorem ty_str : tyN (.str z) H = some "str" := rfl
theorem tyR_lst : tyR (some (.lst xs)) = some "list" := rfl
theorem tyR_frz {ob : Obj} : tyR (some (.frz ob (.lst xs))) = some "list" := rfl
theorem tyR_tup : tyR (some (.tup xs)) = some "tuple" := rfl
theorem tyR_dK : tyR (some (.dK kvs)) = some "dict" := rfl
theorem w_isi {s : String} : fIsi [x, .ty s] H Q ↔ (okT s = true ∧ ∃ t, tyN x H = some t ∧ Q (.bl (subT t s)) H) := by
 constructor
 · rintro ⟨x', c, t, e, h1, h2, h3⟩
   have e1 : x = x' := by injection e
   have e2 : s = c := by injection e with _ e; injection e with e; injection e
   subst e1 e2
   exact ⟨h1, t, h2, h3⟩
 · rintro ⟨h1, t, h2, h3⟩; exact ⟨x, s, t, rfl, h1, h2, h3⟩
theorem w_eq_int : fEq d (.int i) (.int j) H Q ↔ Q (.bl (decide (i = j))) H := by
 show (if true = true then _ else _) ↔ _
 rw [if_pos rfl]
 simp only [V.int.injEq]
theorem w_eq_str : fEq d (.str z) (.str z') H Q ↔ Q (.bl (decide (z = z'))) H := by
 show (if true = true then _ else _) ↔ _
 rw [if_pos rfl]
 simp only [V.str.injEq]
theorem w_eq_bl : fEq d (.bl c) (.bl c') H Q ↔ Q (.bl (decide (c = c'))) H := by
 show (if true = true then _ else _) ↔ _
 rw [if_pos rfl]
 simp only [V.bl.injEq]
theorem w_eq_ni : fEq d .non (.int j) H Q ↔ Q (.bl false) H := by
 show (if true = true then _ else _) ↔ _
 rw [if_pos rfl]
 simp only [reduceCtorEq, decide_false]
theorem w_eq_in : fEq d (.int j) .non H Q ↔ Q (.bl false) H := by
 show (if true = true then _ else _) ↔ _
 rw [if_pos rfl]
 simp only [reduceCtorEq, decide_false]
theorem w_eq_nn : fEq d .non .non H Q ↔ Q (.bl true) H := by
 show (if true = true then _ else _) ↔ _
 rw [if_pos rfl]
 simp only [decide_true]
theorem w_eq_ref : fEq d (.ref p) (.ref q) H Q ↔ ∃ k, EqRef d H (.ref p) (.ref q) k ∧ Q (.bl k) H := by
 show (if false = true then _ else _) ↔ _
 rw [if_neg Bool.false_ne_true]
theorem w_ne_int : fNe d (.int i) (.int j) H Q ↔ Q (.bl (!decide (i = j))) H := by
 show (if true = true then _ else _) ↔ _
 rw [if_pos rfl]
 simp only [V.int.injEq]
theorem w_ne_str : fNe d (.str z) (.str z') H Q ↔ Q (.bl (!decide (z = z'))) H := by
 show (if true = true then _ else _) ↔ _
 rw [if_pos rfl]
 simp only [V.str.injEq]
theorem w_ne_bl : fNe d (.bl c) (.bl c') H Q ↔ Q (.bl (!decide (c = c'))) H := by
 show (if true = true then _ else _) ↔ _
 rw [if_pos rfl]
 simp only [V.bl.injEq]
theorem w_ne_ni : fNe d .non (.int j) H Q ↔ Q (.bl true) H := by
 show (if true = true then _ else _) ↔ _
 rw [if_pos rfl]
 simp only [reduceCtorEq, decide_false, Bool.not_false]
theorem w_ne_in : fNe d (.int j) .non H Q ↔ Q (.bl true) H := by
 show (if true = true then _ else _) ↔ _
 rw [if_pos rfl]
 simp only [reduceCtorEq, decide_false, Bool.not_false]
theorem w_ne_nn : fNe d .non .non H Q ↔ Q (.bl false) H := by
 show (if true = true then _ else _) ↔ _
 rw [if_pos rfl]
 simp only [decide_true, Bool.not_true]
theorem w_ne_ref : fNe d (.ref p) (.ref q) H Q ↔ ∃ k, EqRef d H (.ref p) (.ref q) k ∧ Q (.bl (!k)) H := by
 show (if false = true then _ else _) ↔ _
 rw [if_neg Bool.false_ne_true]
theorem w_add_int : fAdd (.int i) (.int j) H Q ↔ Q (.int (i + j)) H := by simp [fAdd]
theorem w_add_str : fAdd (.str z) (.str z') H Q ↔ (z.length + z'.length ≤ sizeLine ∧ Q (.str (z ++ z')) H) := by simp [fAdd]
def addAt (o o' : Option HO) (H : Hp) (Q : VK) : Prop :=
 (∃ xs ys, o = some (.lst xs) ∧ o' = some (.lst ys) ∧ xs.length + ys.length ≤ sizeLine ∧ ∀ l, H l = none → Q (.ref l) (upd H l (.lst (xs ++ ys)))) ∨
 (∃ xs ys, o = some (.tup xs) ∧ o' = some (.tup ys) ∧ xs.length + ys.length ≤ sizeLine ∧ ∀ l H', NewTup H l (xs ++ ys) H' → Q (.ref l) H')
theorem w_add_ref : fAdd (.ref p) (.ref q) H Q ↔ addAt (H p) (H q) H Q := by simp [fAdd, addAt]
theorem w_add_lst : addAt (some (.lst xs)) (some (.lst ys)) H Q ↔ (xs.length + ys.length ≤ sizeLine ∧ ∀ l, H l = none → Q (.ref l) (upd H l (.lst (xs ++ ys)))) := by simp [addAt]
theorem w_add_tup : addAt (some (.tup xs)) (some (.tup ys)) H Q ↔ (xs.length + ys.length ≤ sizeLine ∧ ∀ l H', NewTup H l (xs ++ ys) H' → Q (.ref l) H') := by simp [addAt]
theorem w_mul_int : fMul (.int i) (.int j) H Q ↔ (CMul i j ∧ Q (.int (i * j)) H) := by simp [fMul]
def mulAt (o : Option HO) (k : Int) (H : Hp) (Q : VK) : Prop := ∃ xs, o = some (.lst xs) ∧ (-(2 ^ 63) ≤ k ∧ k < 2 ^ 63) ∧ xs.length * k.toNat ≤ sizeLine ∧ ∀ l, H l = none → Q (.ref l) (upd H l (.lst (List.replicate k.toNat xs).flatten))
theorem w_mul_ref : fMul (.ref p) (.int k) H Q ↔ mulAt (H p) k H Q := by
 unfold mulAt
 constructor
 · rintro ⟨k', xs, e, h⟩; cases e; exact ⟨xs, h⟩
 · rintro ⟨xs, h⟩; exact ⟨k, xs, rfl, h⟩
theorem w_mul_lst : mulAt (some (.lst xs)) k H Q ↔ ((-(2 ^ 63) ≤ k ∧ k < 2 ^ 63) ∧ xs.length * k.toNat ≤ sizeLine ∧ ∀ l, H l = none → Q (.ref l) (upd H l (.lst (List.replicate k.toNat xs).flatten))) := by
 unfold mulAt
 constructor
 · rintro ⟨ys, e, h⟩; cases e; exact h
 · intro h; exact ⟨xs, rfl, h⟩
def setAt (o : Option HO) (p : Addr) (i v : V) (H : Hp) (R : Hp → Prop) : Prop :=
 (∃ xs k j, o = some (.lst xs) ∧ i = .int k ∧ ixN xs.length k = some j ∧ R (upd H p (.lst (xs.set j v)))) ∨ (∃ kvs k, o = some (.dK kvs) ∧ keyV i = some k ∧ kvs.length < sizeLine ∧ R (upd H p (.dK (putK kvs k v))))
theorem w_set {R : Hp → Prop} : fSet (.ref p) x v H R = setAt (H p) p x v H R := rfl
theorem w_set_lst {R : Hp → Prop} : setAt (some (.lst xs)) p (.int k) v H R ↔ ∃ j, ixN xs.length k = some j ∧ R (upd H p (.lst (xs.set j v))) := by simp [setAt]
theorem w_set_dki {R : Hp → Prop} : setAt (some (.dK kvs)) p (.int i) v H R ↔ (kvs.length < sizeLine ∧ R (upd H p (.dK (putK kvs (Sum.inl i) v)))) := by simp [setAt, keyV]
theorem w_min {Q : VK} : (∃ a b, ([V.int i, V.int j] : List V) = [V.int a, V.int b] ∧ Q (.int (if b < a then b else a)) H) ↔ Q (.int (if j < i then j else i)) H := by
 constructor
 · rintro ⟨a, b, e, h⟩; cases e; exact h
 · intro h; exact ⟨i, j, rfl, h⟩
end
end L2
namespace L2
open PySem PySem.Spec PyProof.Rows
def Scr (K : PySem.W.Frag) (H : Hp) (a : Addr) (L : List V) : Prop := (∃ o, H a = some (.frz o (.lst L))) ∨
 ∃ (o : Obj) (its : Array Value) (n : Nat), K.lookup a = some o ∧ o.cls = .type "list" ∧ o.dict = none ∧ o.data = .seq its n ∧ its.size ≤ sizeLine ∧ Vals L its.toList
theorem Scr.sq {K : PySem.W.Frag} {H : Hp} {a : Addr} {L : List V} (h : Scr K H a L) : SqL K H a L := by
 rcases h with ⟨o, h⟩ | h
 · exact .inl (.inr ⟨o, h⟩)
 · exact .inr h
theorem Scr.of {K : PySem.W.Frag} {H : Hp} {a : Addr} {L : List V} (hO : Only H) (h : SqL K H a L) : Scr K H a L := by
 rcases h with (h | ⟨o, h⟩) | h
 · rcases hO a with z | ⟨o, xs, z⟩
   · rw [h] at z; cases z
   · rw [h] at z; cases z
 · exact .inl ⟨o, h⟩
 · exact .inr h
theorem Scr.same {K : PySem.W.Frag} {H H' : Hp} {a : Addr} {L : List V} (h : Scr K H a L) (s : Same H H') : Scr K H' a L := by
 rcases h with ⟨o, h⟩ | h
 · exact .inl ⟨o, s _ _ h⟩
 · exact .inr h
section
variable {X : Cx} {s b : Expr} {ta tb : TE} {pos p2 p : Pos} {a : Addr} {L : List V}
def rIxS' (K : PySem.W.Frag) (a : Addr) (L : List V) : R2 := fun x y H Q => x = .ref a ∧ Scr K H a L ∧ ∃ i v, y = .int i ∧ atI L i = some v ∧ Q v H
theorem pe_ixS (a : Addr) (L : List V) (ha : PE X s ta) (hb : PE X b tb) (hs : PlainIx b) : PE X (.Subscript s b pos) (tOp (rIxS' X.K a L) ta tb) :=
 pe_ix (r := rIxS' X.K a L) (fun value slice pins st σ H x y v u Q I rx ry h hs => by
  obtain ⟨rfl, hS, i, z, rfl, hv, q⟩ := h
  exact ix_list value slice pins st σ H _ _ v u Q I rx ry ⟨a, L, i, z, rfl, rfl, hS.sq, hv, q⟩ hs) ha hb hs
def rLenS (K : PySem.W.Frag) (a : Addr) (L : List V) : List V → Hp → VK → Prop := fun xs H Q => xs = [.ref a] ∧ Scr K H a L ∧ Q (.int L.length) H
theorem call_lenS (a : Addr) (L : List V) : CallR X (.builtin "len") (rLenS X.K a L) := fun pins st σ H xs us Q I r ⟨e, hS, q⟩ => call_len_seq pins st σ H xs us Q I r ⟨a, L, e, .inl hS.sq, q⟩
def rSlS (K : PySem.W.Frag) (a : Addr) (L : List V) : V → Option Int → Option Int → Hp → VK → Prop := fun x lo hi H Q => x = .ref a ∧ Scr K H a L ∧ ∀ q, H q = none → Q (.ref q) (upd H q (.lst (cutV L lo hi)))
theorem sl_S (a : Addr) (L : List V) : SlR X (rSlS X.K a L) := fun pins st σ H x v vl vu lo hi sl Q I rx hs pl pu ⟨e, hS, q⟩ => by
 subst e
 exact sl_list pins st σ H _ v vl vu lo hi sl Q I rx hs pl pu ⟨a, L, rfl, hS.sq, q⟩
end
end L2
namespace L2
open PySem PySem.Spec PyProof.Rows
theorem cx_K {CX : CXT} {P : Program} {w : World} {K : PySem.W.Frag} {mg : Str → Option Value} {base : Heap} {N : List Str} {qual : Str} {scope : Scope} {f : Addr} {cd : Value} {A : Around} {outer : List Env} {s : Shared} {H : Hp} {E : XK} :
 (cxOf CX P w K mg base N qual scope f cd A outer s H E).K = K := rfl
end L2
namespace L2
open PySem
theorem ex_bn {P : Bool → Prop} {b : Bool} : (∃ k, b = !k ∧ P k) ↔ P (!b) := ⟨fun ⟨k, e, h⟩ => by rw [e, Bool.not_not]; exact h, fun h => ⟨!b, (Bool.not_not b).symm, h⟩⟩
theorem PS.nox {X : Cx} {st : Stmt} {t : TS} (h : PS X.nox st t) : PS X st t := fun pins s σ H D I hw =>
 wpAny_mono (h pins s σ H D (I.wish _) hw) (fun f s' q => q.unwish) fun _ _ z => z.elim
def compOk (fsc scope : Scope) (clN N : List Str) (x : Str) : Bool :=
 decide (scope.kind = .function) && scope.names.all (fun y => !decide (y.2 = .cell)) && scope.names.all (fun y => !decide (y.2 = .local) || decide (scope.names.lookup y.1 = some .local)) && decide (scope.names.lookup x = some .local) &&
 scope.names.all (fun y => if y.2 = .free then clN.contains y.1 && (decide (fsc.names.lookup y.1 = some .cell) || decide (fsc.names.lookup y.1 = some .free)) else if y.2 = .local then decide (y.1 = x) || !N.contains y.1 else true)
theorem lookup_mem {β : Type} : ∀ {l : List (Str × β)} {y : Str} {b : β}, l.lookup y = some b → (y, b) ∈ l
 | [], _, _, h => nomatch h
 | (z, c) :: l, y, b, h => by
  rw [List.lookup_cons] at h
  by_cases e : (y == z) = true
  · rw [e] at h
    cases h
    rw [eq_of_beq e]; exact .head _
  · rw [Bool.eq_false_iff.mpr e] at h
    exact .tail _ (lookup_mem h)
theorem mem_lookup {β : Type} : ∀ {l : List (Str × β)} {y : Str}, y ∈ l.map (·.1) → ∃ b, l.lookup y = some b
 | [], _, h => nomatch h
 | (z, c) :: l, y, h => by
  rw [List.lookup_cons]
  by_cases e : (y == z) = true
  · rw [e]; exact ⟨_, rfl⟩
  · rw [Bool.eq_false_iff.mpr e]
    rcases List.mem_cons.mp h with q | q
    · exact absurd (by rw [q]; exact beq_self_eq_true _) e
    · exact mem_lookup q
theorem CompScope.mk' {X : Cx} {scope fsc : Scope} {cl : List (Str × Addr)} {x : Str} {clN N : List Str} (e1 : X.env.scope = fsc) (clos : closureFor scope X.env = pure cl) (sub : ∀ y c, cl.lookup y = some c → X.env.cells.lookup y = some c) (hn : cl.map (·.1) = clN) (hN : X.N = N)
 (H : compOk fsc scope clN N x = true) : CompScope X scope cl x := by
 simp only [compOk, Bool.and_eq_true, decide_eq_true_eq, List.all_eq_true, Bool.not_eq_true', decide_eq_false_iff_not, Bool.or_eq_true] at H
 obtain ⟨⟨⟨⟨h1, h2⟩, h3⟩, h4⟩, h5⟩ := H
 have rel : ∀ y k, (relabel scope X.env).names.lookup y = some k → ∃ k0, (y, k0) ∈ scope.names ∧ ((k0 = .free ∧ (k = .cell ∨ k = .free)) ∨ k = k0) := fun y k h => by
  have hm := lookup_mem h
  obtain ⟨⟨z, k0⟩, hz, e⟩ := List.mem_map.mp hm
  simp only at e
  split at e
  · rename_i q
    simp only [Bool.and_eq_true, beq_iff_eq] at q
    cases e
    exact ⟨_, hz, .inl ⟨q.1.1, .inl rfl⟩⟩
  · cases e
    exact ⟨_, hz, .inr rfl⟩
 refine ⟨clos, h2, h1, fun y hy hl => ?_, h4, sub, fun y h => ?_, fun y h => ?_⟩
 · rcases h3 y hy with q | q
   · exact absurd hl q
   · exact q
 · have hf : (y, NameKind.free) ∈ scope.names := by
    rcases h with h | h
    · obtain ⟨k0, hk, q | q⟩ := rel y _ h
      · rw [← q.1]; exact hk
      · exact absurd q.symm (h2 _ hk)
    · obtain ⟨k0, hk, q | q⟩ := rel y _ h
      · rw [← q.1]; exact hk
      · rw [q]; exact hk
   have := h5 _ hf
   simp only [if_true, Bool.and_eq_true, Bool.or_eq_true, decide_eq_true_eq] at this
   refine ⟨mem_lookup (by rw [hn]; exact List.contains_iff_mem.mp this.1), ?_⟩
   unfold Env.kindOf
   rw [e1]; exact this.2
 · obtain ⟨k0, hk, q | q⟩ := rel y _ h
   · rcases q.2 with z | z <;> cases z
   · subst q
     have := h5 _ hk
     simp only [reduceCtorEq, if_false, if_true, Bool.or_eq_true, decide_eq_true_eq, Bool.not_eq_true'] at this
     rcases this with z | z
     · exact .inl z
     · refine .inr fun hm => ?_
       rw [hN] at hm
       rw [List.contains_iff_mem.mpr hm] at z
       cases z
theorem sub_nil {cells : List (Str × Addr)} : ∀ p ∈ ([] : List (Str × Addr)), cells.lookup p.1 = some p.2 := fun _ h => nomatch h
theorem sub_of {cells cl : List (Str × Addr)} (h : ∀ p ∈ cl, cells.lookup p.1 = some p.2) (y : Str) (c : Addr) (e : cl.lookup y = some c) : cells.lookup y = some c := h (y, c) (lookup_mem e)
def CompS (K : PySem.W.Frag) (p : Addr) (i : Nat) (tt : TT) (te : TE) (σ : St) (H : Hp) (Q : VK) : Prop := match H p with
 | some (.tup _) => ∀ D, H D = none → tCompAt i tt te D (Itt K p) σ H (Q (.ref D))
 | o => ∃ xs, sqOf o = some xs ∧ ∀ D, H D = none → tCompAt i tt te D (Itl K p) σ H (Q (.ref D))
section
variable {K : PySem.W.Frag} {i j : Nat} {tt : TT} {te tl : TE} {σ : St} {H : Hp} {Q : VK} {ta : TA} {D : Ends}
theorem ap_compS : tComp i (iSeq K tl) tt te σ H Q = tl σ H fun x H1 => ∃ p, x = .ref p ∧ CompS K p i tt te σ H1 Q := rfl
theorem ap_compR : tComp i (iRng1 ta) tt te σ H Q = ta σ H fun vs H1 => ∃ j : Int, vs = [.int j] ∧ -(2 ^ 62) ≤ j ∧ j < 2 ^ 62 ∧ ∀ D, H1 D = none → tCompAt i tt te D (Itr 0 j.toNat) σ H1 (Q (.ref D)) := rfl
theorem comp_go {p : Addr} {xs : List V} {J : It} (hst : ∀ j H', H' p = H p → xs.length ≤ j → J.stop j H') (hgo : ∀ j H' x, H' p = H p → xs[j]? = some x → J.go j H' ∧ ∀ y H'', J.yld j H' y H'' → H'' = H' ∧ y = x) {D : Addr}
 (Pv : Nat → List V → Hp → Prop) (h0 : Pv 0 [] (upd H D (.lst []))) (hl : ∀ j ys H', j ≤ xs.length → Pv j ys H' → H' D = some (.lst ys) ∧ H' p = H p)
 (hs : ∀ j x ys H' (N : List V → Hp → Prop), (∀ ys' H'', Pv (j + 1) ys' H'' → N ys' H'') → xs[j]? = some x → Pv j ys H' →
   tt (σ.set i (some x)) H' fun b H2 => if b = true then te (σ.set i (some x)) H2 fun v H3 => H3 D = some (.lst ys) ∧ ys.length < sizeLine ∧ N (ys ++ [v]) (upd H3 D (.lst (ys ++ [v]))) else N ys H2)
 (hd : ∀ ys H', Pv xs.length ys H' → Q (.ref D) H') : tCompAt i tt te D J σ H (Q (.ref D)) := by
 refine ⟨fun j m ys H' => j ≤ xs.length ∧ m = xs.length - j ∧ Pv j ys H', ⟨_, Nat.zero_le _, rfl, h0⟩, fun j m ys H' ⟨hj, hm, hp⟩ => ?_⟩
 obtain ⟨e1, e2⟩ := hl j ys H' hj hp
 refine ⟨e1, ?_⟩
 by_cases hlt : j < xs.length
 · have ex : xs[j]? = some xs[j] := List.getElem?_eq_getElem hlt
   refine .inr ⟨(hgo j H' _ e2 ex).1, fun x H'' hy => ?_⟩
   obtain ⟨rfl, rfl⟩ := (hgo j H' _ e2 ex).2 x H'' hy
   have := hs j _ ys H'' (fun ys' H2 => ∃ m', m' < m ∧ (j + 1 ≤ xs.length ∧ m' = xs.length - (j + 1) ∧ Pv (j + 1) ys' H2)) (fun ys' H2 q => ⟨xs.length - (j + 1), by omega, by omega, rfl, q⟩) ex hp
   exact this
 · refine .inl ⟨hst j H' e2 (by omega), ?_⟩
   obtain rfl : j = xs.length := by omega
   exact hd ys H' hp
theorem comp_seq {p : Addr} {xs : List V} (hx : sqOf (H p) = some xs) (h : ∀ D, H D = none → ∃ Pv : Nat → List V → Hp → Prop, Pv 0 [] (upd H D (.lst [])) ∧ (∀ j ys H', j ≤ xs.length → Pv j ys H' → H' D = some (.lst ys) ∧ H' p = H p) ∧
 (∀ j x ys H' (N : List V → Hp → Prop), (∀ ys' H'', Pv (j + 1) ys' H'' → N ys' H'') → xs[j]? = some x → Pv j ys H' →
   tt (σ.set i (some x)) H' fun b H2 => if b = true then te (σ.set i (some x)) H2 fun v H3 => H3 D = some (.lst ys) ∧ ys.length < sizeLine ∧ N (ys ++ [v]) (upd H3 D (.lst (ys ++ [v]))) else N ys H2) ∧
 ∀ ys H', Pv xs.length ys H' → Q (.ref D) H') : CompS K p i tt te σ H Q := by
 unfold CompS
 split
 · rename_i ys e
   rw [e] at hx
   cases hx
   intro D hD
   obtain ⟨Pv, h0, hl, hs, hd⟩ := h D hD
   exact comp_go (p := p) (xs := xs) (J := Itt K p) (fun j H' e2 hj => ⟨xs, SqT.of (e2.trans e), hj⟩) (fun j H' x e2 hx => ⟨⟨xs, x, SqT.of (e2.trans e), hx⟩, fun y H'' ⟨z1, z2⟩ => ⟨z1, by have := z2 xs (SqT.of (e2.trans e)); rw [hx] at this; cases this; rfl⟩⟩) Pv h0 hl hs hd
 · rename_i o ne
   refine ⟨xs, hx, fun D hD => ?_⟩
   obtain ⟨Pv, h0, hl, hs, hd⟩ := h D hD
   have sq : ∀ H', H' p = H p → SqL K H' p xs := fun H' k => by
    cases e2 : H p with
    | none => rw [e2] at hx; cases hx
    | some o =>
     rw [e2] at hx
     cases o with
     | tup ys => exact absurd e2 (ne ys)
     | lst ys => cases hx; exact .inl (.inl (k.trans e2))
     | frz ob u =>
      cases u with
      | lst ys => cases hx; exact .inl (.inr ⟨ob, k.trans e2⟩)
      | _ => cases hx
     | _ => cases hx
   exact comp_go (p := p) (xs := xs) (J := Itl K p) (fun j H' e2 hj => ⟨xs, sq H' e2, hj⟩) (fun j H' x e2 hx => ⟨⟨xs, x, sq H' e2, hx⟩, fun y H'' ⟨z1, z2⟩ => ⟨z1, by have := z2 xs (sq H' e2); rw [hx] at this; cases this; rfl⟩⟩) Pv h0 hl hs hd
end
end L2
namespace L2
open PySem
section
variable {X : Cx}
end
end L2
namespace L2
open PySem
structure Nms (N : List Str) (bs : List Bool) (sc : Scope) : Prop where
 loc : ∀ p ∈ N.zip bs, p.2 = true → sc.names.lookup p.1 = some .local ∨ sc.names.lookup p.1 = some .cell
 dbg : ∀ x ∈ N, (x == ("__debug__" : Str)) = false
 cld : ∀ x ∈ N, (x == ("__classdict__" : Str)) = false
theorem Nms.of {N : List Str} {bs : List Bool} {sc : Scope} (n : Nms N bs sc) {i : Nat} {x : Str} (hi : N[i]? = some x) (hb : bs[i]? = some true) : Loc sc x :=
 n.loc (x, true) (List.mem_of_getElem? (i := i) (by rw [List.getElem?_zip_eq_some]; exact ⟨hi, hb⟩)) rfl
theorem Nms.at {X : Cx} {N : List Str} {bs : List Bool} {sc : Scope} (n : Nms N bs sc) (hs : X.env.scope = sc) {i : Nat} {x : Str} (hi : N[i]? = some x) (hb : bs[i]? = some true) : Loc X.env.scope x := by
 rw [hs]; exact n.of hi hb
theorem pvn {X : Cx} {N : List Str} {bs : List Bool} {sc : Scope} (n : Nms N bs sc) (hN : X.N = N) (hs : X.env.scope = sc) (i : Nat) {x : Str} {pos : Pos} (hi : N[i]? = some x) (hb : bs[i]? = some true) : PE X (.Name x pos) (tVar i) := by
 have hm := List.mem_of_getElem? hi
 refine pe_var (by rw [hN]; exact hi) ?_ (n.dbg x hm) (n.cld x hm)
 rw [hs]
 rcases n.of hi hb with h | h
 · exact .inl h
 · exact .inr (.inl h)
end L2
namespace L2
open PySem
section
variable {i j : Nat} {tt : TT} {te : TE} {wi : TI} {σ : St} {H : Hp} {D : Ends}
theorem ap_setC : tSetComp i j wi tt te D σ H = tComp i wi tt te σ H fun v H1 => D.nx (σ.set j (some v)) H1 := rfl
end
end L2
namespace L2
theorem step1 {s u : TS} {D : Ends} {σ : St} {H : Hp} (h : ∀ D' : Ends, (∀ σ H, u D σ H → D'.nx σ H) → (∀ v H, D.rt v H → D'.rt v H) → (∀ σ H, D.bk σ H → D'.bk σ H) → (∀ σ H, D.ct σ H → D'.ct σ H) → s D' σ H) : tSeq s u D σ H :=
 h { D with nx := u D } (fun _ _ x => x) (fun _ _ x => x) (fun _ _ x => x) (fun _ _ x => x)
theorem stepF {tt : TT} {a u : TS} {D : Ends} {σ : St} {H : Hp} (ht : ∀ R : Bool → Hp → Prop, R false H → tt σ H R) (k : u D σ H) : tSeq (tIfS tt a tNext) u D σ H := ht _ (by
 show if false = true then _ else _
 rw [if_neg Bool.false_ne_true]; exact k)
theorem stepT {tt : TT} {a b u : TS} {D : Ends} {σ : St} {H : Hp} (ht : ∀ R : Bool → Hp → Prop, R true H → tt σ H R) (k : ∀ D' : Ends, (∀ σ H, u D σ H → D'.nx σ H) → (∀ v H, D.rt v H → D'.rt v H) → (∀ σ H, D.bk σ H → D'.bk σ H) → (∀ σ H, D.ct σ H → D'.ct σ H) → a D' σ H) : tSeq (tIfS tt a b) u D σ H := ht _ (by
 show if true = true then _ else _
 rw [if_pos rfl]
 exact k { D with nx := u D } (fun _ _ x => x) (fun _ _ x => x) (fun _ _ x => x) (fun _ _ x => x))
end L2
namespace L2
end L2
namespace L2
theorem stepFs {tt : TT} {a u : TS} {D : Ends} {σ : St} {H : Hp} (ht : ∀ R : Bool → Hp → Prop, (∀ H1, Same H H1 → R false H1) → tt σ H R) (k : ∀ H1, Same H H1 → u D σ H1) : tSeq (tIfS tt a tNext) u D σ H := ht _ (fun H1 s => by
 show if false = true then _ else _
 rw [if_neg Bool.false_ne_true]; exact k H1 s)
theorem stepTs {tt : TT} {a b u : TS} {D : Ends} {σ : St} {H : Hp} (ht : ∀ R : Bool → Hp → Prop, (∀ H1, Same H H1 → R true H1) → tt σ H R) (k : ∀ (D' : Ends) (H1 : Hp), Same H H1 → (∀ σ H, u D σ H → D'.nx σ H) → (∀ v H, D.rt v H → D'.rt v H) → (∀ σ H, D.bk σ H → D'.bk σ H) → (∀ σ H, D.ct σ H → D'.ct σ H) → a D' σ H1) : tSeq (tIfS tt a b) u D σ H := ht _ (fun H1 s => by
 show if true = true then _ else _
 rw [if_pos rfl]
 exact k { D with nx := u D } H1 s (fun _ _ x => x) (fun _ _ x => x) (fun _ _ x => x) (fun _ _ x => x))
end L2
namespace L2
open PySem PySem.Spec PyProof.Rows
section
variable {X : Cx} {o e : Expr} {to te : TE} {apos cpos : Pos}
end
end L2
namespace L2
open PySem PySem.W PySem.Calls PyProof.Rows Builtin Builtin.ObjectAttr Builtin.Getset_descriptor
structure ExcCls (K : Frag) (C : Addr) : Prop where
 ga : findIn K (.ref C) "__getattribute__" = some (some (.builtin "BaseException.__getattribute__"))
 hk : findIn K (.ref C) "__getattr__" = some none
 ha : findIn K (.ref C) "__class__" = some (some (.builtin "object.__class__"))
 hm : mroIn K C (.type "object") = some true
 hb : mroIn K C (.type "BaseException") = some true
structure ClsGet (K : Frag) : Prop where
 hn : specialIn K (.builtin "object.__class__") "__get__" = some (some (.builtin "getset_descriptor.__get__"))
 ht : takesIn K (.builtin "object.__class__") = some true
section
variable {prog : Program} {w : World} {A : Around} {E : Value → Shared → Prop} {s : Shared} {K : Frag} {x C : Addr}
theorem x_get {R : Result → Shared → Prop} {tp : Value} (X : K.In s.heap) (L0 : Looks (model prog w) s.heap (typeOf (.ref x)) (.ref C)) (hm : mroIn K C (.type "object") = some true) (h : R (.ok (.ret (.ref C))) s) :
 codeAny (model prog w) A (.call (.builtin "getset_descriptor.__get__") ⟨[.builtin "object.__class__", .ref x, tp], []⟩) R s := by
 obtain ⟨hh, g, dr, t, os⟩ := s; have L1 := looks_mroIn (M := model prog w) X hm
 refine codeAny_call_builtin KF.slot_gs.plain KF.entry_gs (KF.slot_gs.check _ _ _ _ _ _ _ _ KF.type_class (KF.args_gs _ _ _) ?_); unfold Builtin.«getset_descriptor.__get__» descrGet; rw [dga_obj]
 refine wpAny_bind (wpAny_pure ?_); unfold descrGetter descrCheckInstance descrNameAndClass isInstance; simp only [KF.owner_class]
 repeat lk
 refine ⟨Code.quiet_builtin _ (by decide +kernel), codeAny_builtin KF.entry_class ?_⟩; unfold Builtin.«object.__class__» shownTypeOf
 repeat lk
 exact h
theorem x_find {M : Model} {h : Heap} (X : K.In h) (c : ExcCls K C) (g : ClsGet K) : Looks M h (find (.ref x) (.ref C) "__class__") (.bind (.builtin "getset_descriptor.__get__") (.builtin "object.__class__")) := by
 have L1 := looks_findIn (M := M) X c.ha
 have L2 : Looks M h (getOf (some (.builtin "object.__class__"))) (some (.builtin "getset_descriptor.__get__")) := looks_specialIn X g.hn
 have L3 := looks_takesIn (M := M) X g.ht
 refine L1.andThen (L2.andThen (Looks.andThen (a := some (Value.builtin "getset_descriptor.__get__", Value.builtin "object.__class__")) ?_ (Looks.tag .now)))
 exact L3.andThen .now
theorem x_check {nv : Value} {Q : Unit → Shared → Prop} (X : K.In s.heap) (L0 : Looks (model prog w) s.heap (typeOf (.ref x)) (.ref C)) (c : ExcCls K C) (h : Q () s) : wpAny (model prog w) A (checkBuiltinCall "BaseException.__getattribute__" ⟨[.ref x, nv], []⟩) Q E s := by
 obtain ⟨hh, g, dr, t, os⟩ := s
 have k1 : builtinKind "BaseException.__getattribute__" = some .slot := by decide +kernel
 have k2 : splitId "BaseException.__getattribute__" = some ("BaseException", "__getattribute__") := by decide +kernel
 have LI : Looks (model prog w) hh (isInstance (.ref x) (.type "BaseException")) true := L0.andThen (looks_mroIn X c.hb)
 have k3 := F.args_bexc_ga (.ref x) nv
 simp only [checkBuiltinCall, k1, k2]
 refine wpAny_bind (LI.at ?_)
 rw [if_neg (by decide)]
 unfold argsOk at k3
 refine (show ∀ z : Sem Unit, z = pure () → wpAny (model prog w) A z Q E _ from fun z e => by rw [e]; exact wpAny_pure h) _ ?_
 exact k3
theorem x_attr {Q : Option Value → Shared → Prop} (X : K.In s.heap) (L0 : Looks (model prog w) s.heap (typeOf (.ref x)) (.ref C)) (c : ExcCls K C) (g : ClsGet K) (h : Q (some (.ref C)) { s with toks := s.toks + 1 }) : wpAny (model prog w) A (getAttr? (.ref x) "__class__") Q E s := by
 obtain ⟨hh, gg, d, t, os⟩ := s
 have L1 := looks_findIn (M := model prog w) X c.ga
 have L2 := looks_findIn (M := model prog w) X c.hk
 have L3 := x_find (M := model prog w) (x := x) X c g
 unfold getAttr? getAttrBy? getAttrBy; refine wpAny_bind (wpAny_mkText (wpAny_bind (wpAny_attempt (wpAny_holding (wpAny_bind (L0.at (wpAny_bind (L1.at ?_))))))))
 have ne : (onTheHeap (.ref C) && Value.builtin "BaseException.__getattribute__" == Value.builtin "object.__getattribute__") = false := by
  rw [show (Value.builtin "BaseException.__getattribute__" == Value.builtin "object.__getattribute__") = false by decide +kernel]; rfl
 dsimp only
 rw [if_neg (by rw [ne]; exact Bool.false_ne_true)]
 unfold getAttrByItsOwn hookBefore
 refine wpAny_bind ?_
 rw [if_pos (show onTheHeap (.ref C) = true from rfl)]
 refine L2.at (wpAny_bind (wpAny_attempt (wpAny_holding ?_)))
 unfold callGetattribute boundAndCalled
 rw [if_neg (by decide), F.excAttr_ValueError.ga.bind]
 refine wpAny_bind (wpAny_pure ?_)
 refine wpAny_call (codeAny_call_builtin F.excAttr_ValueError.ga.plain F.entry_bexc_ga (x_check X L0 c ?_))
 refine wpAny_bind (show wpAny _ _ (pure (Value.ref x, [Value.str "__class__" t])) _ _ _ from wpAny_pure ?_)
 refine wpAny_bind (show wpAny _ _ (pure ("__class__" : Str)) _ _ _ from wpAny_pure ?_)
 refine wpAny_bind (L0.at (wpAny_bind (L3.at ?_)))
 show wpAny _ _ (holding [Value.builtin "object.__class__"] (call (Value.builtin "getset_descriptor.__get__") [.builtin "object.__class__", .ref x, .ref C]) >>= ret) _ _ _
 refine wpAny_bind (wpAny_holding (wpAny_call (x_get X L0 c.hm (wpAny_pure ?_))))
 exact handed_on rfl (wpAny_pure h)
def ExcIs (x C : Addr) (h : Heap) : Prop := ∃ o, h.get? x = some o ∧ o.cls = .ref C
theorem mro_cls {r : Bool} {b : Value} (e : mroIn K C b = some r) : ∃ oc od cd sl, K.lookup C = some ⟨oc, od, .cls cd, sl⟩ := by
 obtain ⟨cd, hc, _⟩ := Option.bind_eq_some_iff.mp e
 unfold clsIn at hc
 split at hc
 · exact ⟨_, _, _, _, by assumption⟩
 · cases hc
theorem kitx_exc (c : ExcCls K C) (g : ClsGet K) : KitX K (.ref x) (.ref C) (ExcIs x C) := by
 obtain ⟨oc, od, cd, sl, hl⟩ := mro_cls c.hm
 have ty : ∀ (M : Model) (h : Heap), ExcIs x C h → Looks M h (typeOf (.ref x)) (.ref C) := fun M h ⟨o, h1, h2⟩ => by rw [← h2]; exact (Looks.ld h1).andThen .now
 refine ⟨fun M h _ p => ty M h p, fun M h X _ A' Q' E' s' k q => ?_, fun h tp dd its n sl' X htp => ?_, fun X p k => x_attr X (ty _ _ p) c g k⟩
 · unfold isType loadHead
   exact wpAny_bind (wpAny_loadPart (k _ _ (X _ _ hl)) (wpAny_pure q))
 · cases hq : (Value.ref C == Value.ref tp) with
   | false => rfl
   | true =>
    obtain rfl : C = tp := by injection beq_iff_eq.mp hq
    have := (X _ _ hl).symm.trans htp
    cases this
end
end L2
namespace L2
open PySem PySem.Spec PyProof.Rows
def excO (a C : Addr) : HO := .ext (ExcIs a C)
theorem excO_ok {P : Program} {w : World} {H : Hp} {h : Heap} {a C : Addr} (e : ExcIs a C h) : ObjOk P w H h a (excO a C) :=
 ⟨e, (let ⟨o, h1, _⟩ := e; ⟨o, h1⟩), fun _ _ ⟨o, h1, h2⟩ k => ⟨o, k o h1, h2⟩⟩
section
variable {X : Cx} {pins : List (Addr × Obj)} {σ : St} {H : Hp} {s : Shared}
theorem Inv.seen {a : Addr} {o : HO} (I : Inv X pins σ H s) (ha : H a = none) (na : X.s₀.heap.get? a = none) (hp : ∀ p ∈ X.pn ++ pins, p.1 ≠ a) (hL : X.env.locals ≠ a) (hc : ∀ x c, X.env.cells.lookup x = some c → c ≠ a) (new : ObjOk X.prog X.w (upd H a o) s.heap a o) : Inv X pins σ (upd H a o) s := by
 have up : ∀ {b : Addr} {u : HO}, H b = some u → upd H a o b = some u := fun {b u} e => by
  rw [upd_ne (fun z => by rw [z, ha] at e; cases e)]; exact e
 refine ⟨I.ok, I.os, I.bare, ⟨I.base.keep, I.base.slot, fun b ob e n hx => ?_, I.base.there, fun b xs e => up (I.base.tups b xs e), fun b ob u e => up (I.base.frzs b ob u e), fun b ps e => ?_⟩, I.loc, I.cell, ?_, fun x c e => ?_, fun p h => ?_, fun b u e => ?_, I.len⟩
 · rw [upd_ne (fun z => by rw [z, na] at e; cases e)]; exact I.base.free b ob e n hx
 · obtain ⟨more, z⟩ := I.base.tbls b ps e
   exact ⟨more, up z⟩
 · rw [upd_ne hL]; exact I.free
 · rw [upd_ne (hc x c e)]; exact I.freeC x c e
 · obtain ⟨e, n, ne, nf, d⟩ := I.pin p h
   exact ⟨e, by rw [upd_ne (hp p h)]; exact n, ne, nf, d⟩
 · by_cases hb : b = a
   · subst hb; rw [upd_same] at e; cases e; exact new
   · rw [upd_ne hb] at e
     exact (I.hok b u e).stay (fun _ _ _ q => q) (fun c q => up q) fun c xs q => up q
theorem unname_ok {M : Model} {A : Around} {E : Value → Shared → Prop} {i : Nat} {x : Str} {pos : Pos} {Q : Unit → Shared → Prop} (I : Inv X pins σ H s) (hN : X.N.Nodup) (hi : X.N[i]? = some x) (hk : X.env.scope.names.lookup x = some .local)
 (h : ∀ s', Inv X pins (σ.set i none) H s' → Q () s') : wpAny M A (do bindName X.env x .none; unbindBehindTheSuite X.env x pos) Q E s := by
 obtain ⟨m, hn, hl⟩ := id I.loc
 have hiσ : i < σ.length := by rw [I.len]; exact (List.getElem?_eq_some_iff.mp hi).1
 have cne := I.cne
 refine wpAny_nameGoes_keeps hk hn (by rw [I.ok.kind]; rfl) fun h' v hn' hs => ?_
 obtain ⟨oL, _, _, hoL, _⟩ := id hn
 have lo : ∀ {b : Addr} {o : Obj}, X.s₀.heap.get? b = some o → b ≠ X.env.locals := fun e => Nat.ne_of_lt (Nat.lt_of_lt_of_le (Heap.lt_size e) I.ok.above)
 refine h _ ⟨I.ok, I.os, I.bare, ⟨fun b o e n hb hx => (hs.2 b (lo e)).trans (I.base.keep b o e n hb hx), fun b o e n hb hx => ?_, I.base.free, fun b o e hx => ?_, I.base.tups, I.base.frzs, I.base.tbls⟩, ⟨_, hn', fun j y v' e1 e2 e3 => ?_⟩, fun y c e => ?_, I.free, I.freeC, fun p hp => ?_, fun b ob e => ?_, by simpa using I.len⟩
 · obtain ⟨sl, e1⟩ := I.base.slot b o e n hb hx
   exact ⟨sl, (hs.2 b (lo e)).trans e1⟩
 · obtain ⟨o', e1⟩ := I.base.there b o e hx
   exact ⟨o', (hs.2 b (lo e)).trans e1⟩
 · by_cases hj : j = i
   · subst hj
     rw [List.getElem?_set_self hiσ] at e2
     cases e2
   · rw [List.getElem?_set_ne (Ne.symm hj)] at e2
     obtain ⟨u', r', q⟩ := hl j y v' e1 e2 e3
     refine ⟨u', r', ?_⟩
     rcases q with ⟨k, e⟩ | ⟨k, c, e, z⟩
     · refine .inl ⟨k, ?_⟩
       have : y ≠ x := fun e => hj (nodup_ix hN e1 (e ▸ hi))
       simp [this, e]
     · exact .inr ⟨k, c, e, z.sameBut hs (cne y c e)⟩
 · obtain ⟨w', z⟩ := I.cell y c e
   exact ⟨w', z.sameBut hs (cne y c e)⟩
 · obtain ⟨e, n, ne, nf, d⟩ := I.pin p hp
   exact ⟨(hs.2 p.1 ne).trans e, n, ne, nf, d⟩
 · refine (I.hok b ob e).stay (fun c w' hc q => (hs.2 c ?_).trans q) (fun _ q => q) fun _ _ q => q
   rintro rfl
   have hf := I.free
   rcases hc with rfl | hc
   · rw [hf] at e; cases e
   · rw [hf] at hc; cases hc
end
section
variable {X : Cx} {x n : Str} {np pos : Pos} {b₀ : Stmt} {suite : List Stmt} {rest : List ExceptHandler} {c : Value} {tb : TS} {th : Value → TS}
def tHandAs (K : PySem.W.Frag) (c : Value) (i : Nat) (tb : TS) (th : Value → TS) : Value → TS := fun cls D σ H => ∃ b, PySem.W.exmOne K cls c = some b ∧
 if b = true then ∃ C, cls = .ref C ∧ ∀ a, H a = none → tb { D with nx := fun σ H => D.nx (σ.set i none) H, bk := fun σ H => D.bk (σ.set i none) H, ct := fun σ H => D.ct (σ.set i none) H } (σ.set i (some (.ref a))) (upd H a (excO a C)) else th cls D σ H
theorem ph_as {i : Nat} (hg : Gl X x) (hm : X.mg x = some c) (hN : X.N.Nodup) (hi : X.N[i]? = some n) (hl : X.env.scope.names.lookup n = some .local) (hb : ∀ a, PSs (X.hnd a) (b₀ :: suite) tb) (hr : PH X rest th) (hd : (x == ("__debug__" : Str)) = false := by decide) :
 PH X (.ExceptHandler (some (.Name x np)) (some n) (b₀ :: suite) pos :: rest) (tHandAs X.K c i tb th) := by
 intro pins σ H D a cls s cg h
 obtain ⟨b, eb, h⟩ := h
 have I := cg.inv
 refine wpAny_handleBy_cons (codeAny_handlers_test (ld_glob (X := X.hnd a) (I.hnd a) hg hm ?_ hd)) (by intro q; cases q)
 have ty : PySem.W.Looks (model X.prog X.w) s.heap (typeOf (.ref a)) cls := by
  obtain ⟨_, _, _, _, _, _, _, _, _, _, _, _, fl, _⟩ := cg.ex
  obtain ⟨ob, e1, e2⟩ := fl.there
  subst e2
  exact (PySem.W.Looks.ld e1).andThen .now
 refine PySem.W.exm_one I.kIn ty eb _ _ _ _ (fun _ _ z => z) ?_
 cases b with
 | false =>
  rw [if_neg Bool.false_ne_true] at h
  exact hr pins σ H D a cls s cg h
 | true =>
  rw [if_pos rfl] at h
  refine codeAny_handlers_suite_as ?_
  obtain ⟨s1, T, a0, I1, n1, n2, f1, f2, hp, d1, d2, es, fl, sl⟩ := cg.ex
  refine wpAny_mono (safe_anyC (φ := F2 a) (c := X.A.handled = none) safe_flight (fun z => cg.f2 z) (lands_againW (Q := fun _ s2 => ∃ h6, s2 = { s with heap := h6 } ∧ Heap.FlyingW _ X.stack a cls a0 h6 ∧ s.heap.UpToSlots h6) (E := fun _ _ => False) fl fun h6 fl6 sl6 => ⟨h6, rfl, fl6, sl6⟩)) (fun _ s2 z => ?_) fun _ _ z => z.1.elim
  obtain ⟨⟨h6, rfl, fl6, sl6⟩, cf⟩ := z
  have cg6 : Caught X pins σ H a cls { s with heap := h6 } := ⟨⟨s1, T, a0, I1, n1, n2, f1, f2, hp, d1, d2, by rw [es], fl6, sl.trans sl6⟩, fun z => cf z⟩
  obtain ⟨C, rfl, h⟩ := h
  have I6 := cg6.inv
  obtain ⟨_, _, _, oe, vs, T', oT, ts, g1, g2, g3, _⟩ := fl6
  obtain ⟨m, hL, _⟩ := id I6.loc
  obtain ⟨oL, es', ep, hoL, hdL, rL⟩ := hL
  have I7 := I6.seen (a := a) (o := excO a C) f1 n1 (fun p hq => (hp p hq).1) (fun z => by
   have z1 := (congrArg h6.get? z).symm.trans hoL
   rw [show h6.get? a = some oe from g1] at z1; cases z1; rw [g3] at hdL; cases hdL) (fun y c' e z => by
   obtain ⟨v, o2, e2, dd2⟩ := I6.cell y c' e
   rw [z, show h6.get? a = some oe from g1] at e2; cases e2; rw [g3] at dd2; cases dd2) (excO_ok ⟨oe, g1, g2.1⟩)
  refine store_ok (X := X.hnd a) (I7.hnd a) hN hi (.inl hl) (show RelV (.ref a) (Value.ref a) from rfl) (fun s8 I8 => ?_) (.inr hl)
  refine wpAny_mono (hb a pins s8 _ _ _ I8 (h a f1)) (fun f s' q => ?_) fun _ _ z => z.elim
  cases f with
  | next => obtain ⟨σ', H', J, q⟩ := q; exact unname_ok (I.unhnd J) hN hi hl fun s9 I9 => ⟨_, H', I9, q⟩
  | brk => obtain ⟨σ', H', J, q⟩ := q; exact unname_ok (I.unhnd J) hN hi hl fun s9 I9 => ⟨_, H', I9, q⟩
  | cont => obtain ⟨σ', H', J, q⟩ := q; exact unname_ok (I.unhnd J) hN hi hl fun s9 I9 => ⟨_, H', I9, q⟩
  | ret u => obtain ⟨v, σ', H', J, r, q⟩ := q; exact unname_ok (I.unhnd J) hN hi hl fun s9 I9 => ⟨v, _, H', I9, r, q⟩
end
section
variable {X : Cx} {o e : Expr} {to te : TE} {apos cpos : Pos}
def fIsiX (K : PySem.W.Frag) : List V → Hp → VK → Prop := fun xs H Q => ∃ a C v b, xs = [.ref a, v] ∧ H a = some (excO a C) ∧ ExcCls K C ∧ ClsGet K ∧ (∀ u, RelV v u → PySem.W.kitOne K (.ref C) u = some b) ∧ Q (.bl b) H
theorem call_isi_x {K : PySem.W.Frag} (hK : X.K = K) : CallR X (.builtin "isinstance") (fIsiX K) := by
 subst hK
 intro pins s σ H xs us Q I r h
 obtain ⟨a, C, v, b, rfl, ha, c, g, hb, q⟩ := h
 obtain ⟨u, w', rfl, ru, rw'⟩ := vals2 r
 obtain rfl : u = Value.ref a := ru
 have hx := (show ObjOk X.prog X.w H s.heap a (excO a C) from I.hok a _ ha).1
 exact PySem.W.kia_one (kitx_exc c g) I.kIn hx (hb w' rw') (fun z => nomatch z) fun tk => ⟨.bl _, H, I.tok tk, rfl, q⟩
theorem bools_at {k : Bool} : ∀ {bs : List Bool} {its : List Value}, Vals (bs.map V.bl) its → its = bs.map Value.bool
 | [], _, .nil => rfl
 | _ :: _, _, .cons r t => by
  obtain rfl := r
  rw [bools_at (k := k) t]; rfl
def rCount : V → List V → Hp → VK → Prop := fun x vs H Q => ∃ (l : Addr) (bs : List Bool) (k : Bool), x = .ref l ∧ vs = [.bl k] ∧ H l = some (.lst (bs.map V.bl)) ∧ Q (.int (bs.count k : Nat)) H
theorem mt_count : MtM X "list.count" rCount := by
 intro pins s σ H x vs v us Q I rx rv h
 obtain ⟨l, bs, k, rfl, rfl, hH, q⟩ := h
 cases rx
 obtain ⟨u, rfl, ru⟩ := rv.one
 obtain rfl : u = Value.bool k := ru
 obtain ⟨z, its, n, r, hl, e⟩ := I.lstM hH
 obtain rfl := bools_at (k := k) r
 have ec : ((bs.map Value.bool).toArray.toList.countP (isBoolOf k)) = bs.count k := by
  rw [List.toList_toArray, List.countP_map]; rfl
 refine call_meets F.slot_list_count ⟨_, e, rfl⟩ F.entry_list_count (F.args_list_count_2 _ _) (SeqAt.list_countAt l (bs.map Value.bool).toArray n none #[] (.bool k) (isBoolOf k)) ⟨e, fun y hy => ?_, ?_⟩
 · obtain ⟨b, _, rfl⟩ := List.mem_map.mp (show y ∈ bs.map Value.bool by simpa using hy)
   exact SeqAt.EqAt.bool_bool b k
 · rw [ec]
   exact ⟨.int (bs.count k : Nat), H, I.tok _, ⟨_, rfl⟩, q⟩
theorem pe_count (ho : PE X o to) (he : PE X e te)
 (hbase : attributeBase o "count" X.env (eval o X.env) = eval o X.env := by rfl)
 (hfew : ((backTo cpos (starEach [e] X.env)).all (fun x => !x.1) && (backToKw cpos (keywordEach [] X.env)).all (fun x => x.1.isSome)
   && decide (([e] : List Expr).length + ([] : List Keyword).length + (if ([] : List Keyword).isEmpty then 0 else 1) < 30)) = true := by rfl)
 (hline : (apos.endLine == cpos.line) = true := by rfl) (hs : starEach [e] X.env = (false, eval e X.env) :: starEach [] X.env := by rfl) (hplain : (backTo cpos (starEach [] X.env)).any (·.1) = false := by rfl) :
 PE X (.Call (.Attribute o "count" apos) [e] [] cpos) (tBMf isLst rCount to (tCons te tNil)) :=
 pe_bmf (fun _ _ h => h.ty) PySem.F.plainAttrs_list PySem.F.slot_list_count PySem.F.type_list_count mt_count ho (pa_cons he pa_nil hs) hbase hfew hline hs hplain
theorem w_count {l : Addr} {k : Bool} {H : Hp} {Q : VK} : rCount (.ref l) [.bl k] H Q ↔ ∃ bs : List Bool, H l = some (.lst (bs.map V.bl)) ∧ Q (.int (bs.count k : Nat)) H := by
 constructor
 · rintro ⟨l, bs, k, e1, e2, h⟩; cases e1; cases e2; exact ⟨bs, h⟩
 · rintro ⟨bs, h⟩; exact ⟨l, bs, k, rfl, rfl, h⟩
end
end L2
namespace L2
open PySem PySem.Spec PyProof.Rows
abbrev Cx.hnc (X : Cx) (a : Addr) (o : Obj) : Cx := { X with A := X.A.mark (some (.ref a)), pn := (a, o) :: X.pn, xe := fun _ _ => False }
theorem Inv.hnc {X : Cx} {pins : List (Addr × Obj)} {σ : St} {H : Hp} {s : Shared} {a : Addr} {o : Obj} {vs : Array Value} (I : Inv X pins σ H s) (e : s.heap.get? a = some o) (d : o.data = .fields vs) (z : vs[2]? = some .none) (ha : H a = none) : Inv (X.hnc a o) pins σ H s := by
 refine ⟨⟨I.ok.mod, I.ok.kind, I.ok.glob, I.ok.blt, I.ok.above, I.ok.inj, I.ok.has, I.ok.cab, (fun _ => .inr ⟨a, o, vs, rfl, d, z, .inr (List.mem_cons_self ..)⟩), I.ok.frames, I.ok.stk, I.ok.exf, I.ok.bs, I.ok.bsz, I.ok.noex, I.ok.exfs, I.ok.funs, I.ok.frf⟩,
  I.os, I.bare, I.base, I.loc, I.cell, I.free, I.freeC, fun p hp => ?_, I.hok, I.len⟩
 rcases List.mem_cons.mp hp with hp | hp
 · subst hp
   obtain ⟨m, hL, _⟩ := I.loc
   obtain ⟨oL, es, ep, hoL, hdL, rL⟩ := hL
   refine ⟨e, ha, fun y => ?_, fun y => ?_, fun v y => by rw [d] at y; cases y⟩
   · have y : a = X.env.locals := y
     rw [← y, e] at hoL; cases hoL; rw [d] at hdL; cases hdL
   · obtain ⟨_, o2, e2, dn⟩ := I.funs.mem y
     rw [e] at e2; cases e2; exact dn vs d
 · exact I.pin p hp
theorem Inv.unhnc {X : Cx} {pins : List (Addr × Obj)} {σ σ' : St} {H H' : Hp} {s s' : Shared} {a : Addr} {o : Obj} (J : Inv X pins σ' H' s') (I : Inv (X.hnc a o) pins σ H s) : Inv X pins σ H s :=
 ⟨J.ok, I.os, I.bare, I.base, I.loc, I.cell, I.free, I.freeC, fun p hp => I.pin p (List.mem_cons_of_mem _ hp), I.hok, I.len⟩
section
variable {X : Cx} {x : Str} {np pos : Pos} {b₀ : Stmt} {suite : List Stmt} {rest : List ExceptHandler} {c : Value} {tb : TS} {th : Value → TS}
theorem ph_calls (hh : X.A.handled = none) (hg : Gl X x) (hm : X.mg x = some c) (hb : ∀ a o, PSs (X.hnc a o) (b₀ :: suite) tb) (hr : PH X rest th) (hd : (x == ("__debug__" : Str)) = false := by decide) :
 PH X (.ExceptHandler (some (.Name x np)) none (b₀ :: suite) pos :: rest) (tHand X.K c tb th) := by
 intro pins σ H D a cls s cg h
 obtain ⟨b, eb, h⟩ := h
 have I := cg.inv
 refine wpAny_handleBy_cons (codeAny_handlers_test (ld_glob (X := X.hnd a) (I.hnd a) hg hm ?_ hd)) (by intro q; cases q)
 have ty : PySem.W.Looks (model X.prog X.w) s.heap (typeOf (.ref a)) cls := by
  obtain ⟨_, _, _, _, _, _, _, _, _, _, _, _, fl, _⟩ := cg.ex
  obtain ⟨ob, e1, e2⟩ := fl.there
  subst e2
  exact (PySem.W.Looks.ld e1).andThen .now
 refine PySem.W.exm_one I.kIn ty eb _ _ _ _ (fun _ _ z => z) ?_
 cases b with
 | false =>
  rw [if_neg Bool.false_ne_true] at h
  exact hr pins σ H D a cls s cg h
 | true =>
  rw [if_pos rfl] at h
  refine codeAny_handlers_suite ?_; obtain ⟨s1, T, a0, I1, n1, n2, f1, f2, hp, d1, d2, es, fl, sl⟩ := cg.ex
  refine wpAny_mono (safe_anyC (φ := F2 a) (c := X.A.handled = none) safe_flight (fun z => cg.f2 z) (lands_againW (Q := fun _ s2 => ∃ h6, s2 = { s with heap := h6 } ∧ Heap.FlyingW _ X.stack a cls a0 h6 ∧ s.heap.UpToSlots h6) (E := fun _ _ => False) fl fun h6 fl6 sl6 => ⟨h6, rfl, fl6, sl6⟩)) (fun _ s2 z => ?_) fun _ _ z => z.1.elim
  obtain ⟨⟨h6, rfl, fl6, sl6⟩, cf⟩ := z
  have cg6 : Caught X pins σ H a cls { s with heap := h6 } := ⟨⟨s1, T, a0, I1, n1, n2, f1, f2, hp, d1, d2, by rw [es], fl6, sl.trans sl6⟩, fun z => cf z⟩
  obtain ⟨oe, vs, e1, e2, e3⟩ := cf hh
  refine wpAny_mono (hb a oe pins { s with heap := h6 } σ H D (cg6.inv.hnc e1 e2 e3 f1) h) (fun f s' q => ?_) fun _ _ z => z.elim
  cases f with
  | next => obtain ⟨σ', H', J, q⟩ := q; exact ⟨σ', H', I.unhnc J, q⟩
  | brk => obtain ⟨σ', H', J, q⟩ := q; exact ⟨σ', H', I.unhnc J, q⟩
  | cont => obtain ⟨σ', H', J, q⟩ := q; exact ⟨σ', H', I.unhnc J, q⟩
  | ret u => obtain ⟨v, σ', H', J, r, q⟩ := q; exact ⟨v, σ', H', I.unhnc J, r, q⟩
end
end L2
namespace L2
open PySem PySem.Spec PyProof.Rows
theorem strs_of : ∀ {ts : List Str} {its : List Value}, Vals (ts.map V.str) its → StrsAre its ts
 | [], _, .nil => .nil
 | _ :: _, _, .cons r t => by
  obtain ⟨u, rfl⟩ := r
  exact .cons _ _ (strs_of t)
theorem vals_num : ∀ (l : List (Str × Tok)), Vals ((l.map (·.1)).map V.str) (strValues l)
 | [] => .nil
 | (x, t) :: r => .cons ⟨t, rfl⟩ (vals_num r)
section
variable {X : Cx} {o e : Expr} {to te : TE} {apos cpos : Pos}
def isTxt (x : V) (_ : Hp) : Prop := ∃ z, x = .str z
theorem isTxt.ty {K : PySem.W.Frag} {x : V} {H : Hp} (h : isTxt x H) : tyV K "str" x H := by
 obtain ⟨z, rfl⟩ := h
 rfl
def rJoin : V → List V → Hp → VK → Prop := fun x vs H Q => ∃ (sep : Str) (l : Addr) (ts : List Str), x = .str sep ∧ vs = [.ref l] ∧ H l = some (.lst (ts.map V.str)) ∧ (ts.map (·.length)).sum + ts.length * sep.length ≤ 16777216 ∧ Q (.str (Txt.join sep ts)) H
theorem mt_join : MtM X "str.join" rJoin := by
 intro pins s σ H x vs v us Q I rx rv h
 obtain ⟨sep, l, ts, rfl, rfl, hH, hz, q⟩ := h
 obtain ⟨t, rfl⟩ := rx
 obtain ⟨u, rfl, ru⟩ := rv.one
 obtain rfl : u = Value.ref l := ru
 obtain ⟨_, its, n, r, hl, eo⟩ := I.lstM hH
 exact join_list (items := its.toArray) ⟨_, eo, rfl, n, rfl⟩ (strs_of r) hz fun t' k => ⟨.str _, H, I.tok k, ⟨_, rfl⟩, q⟩
def rSplit : V → List V → Hp → VK → Prop := fun x vs H Q => ∃ (z y : Str), x = .str z ∧ vs = [.str y] ∧ (y.length == 0) = false ∧ z.length + 2 ≤ sizeLine ∧ ∀ p, H p = none → Q (.ref p) (upd H p (.lst ((Txt.split z y).map V.str)))
theorem mt_split : MtM X "str.split" rSplit := by
 intro pins s σ H x vs v us Q I rx rv h
 obtain ⟨z, y, rfl, rfl, hy, hz, q⟩ := h
 obtain ⟨t, rfl⟩ := rx
 obtain ⟨u, rfl, ru⟩ := rv.one
 obtain ⟨t', rfl⟩ := ru
 have hn : (Txt.split z y).length ≤ sizeLine := Nat.le_trans (split_le z y) hz
 have fin : ∀ (l : List (Str × Tok)) (k : Nat), l.map (·.1) = Txt.split z y → EP X pins σ Q (.ref s.heap.objs.size) { s with toks := k, heap := s.heap.push { cls := .type "list", data := .seq (strValues l).toArray } } := fun l k el => by
  have hv := vals_num l
  rw [el] at hv
  refine ⟨.ref s.heap.objs.size, _, I.laid (a := s.heap.objs.size) (o := .lst ((Txt.split z y).map V.str)) (fun _ _ e => Heap.get?_push_of_some _ e) (Nat.le_refl _) ⟨by rw [List.length_map]; exact hn, _, 0, hv, Heap.get?_push_size _ rfl⟩, rfl, q _ (I.hok.fresh (Nat.le_refl _))⟩
 cases h1 : (decide (z.length < y.length) || decide (Builtin.Str.strKind z < Builtin.Str.strKind y)) with
 | true =>
  refine call_meets F.slot_str_split (typeIs_str _ _ _) F.entry_str_split (F.args_str_split_2 _ _) (meets_str_split_cannot_occur z y t t' h1) ?_
  exact fin [(z, t)] s.toks (by unfold Txt.split; rw [if_pos h1]; rfl)
 | false =>
  have n1 : ¬ (decide (z.length < y.length) || decide (Builtin.Str.strKind z < Builtin.Str.strKind y)) = true := by rw [h1]; exact Bool.false_ne_true
  cases hf : (Builtin.Str.occurrences z y 0 z.length (z.length + 1)).isEmpty with
  | true =>
   refine call_meets F.slot_str_split (typeIs_str _ _ _) F.entry_str_split (F.args_str_split_2 _ _) (meets_str_split_not_found z y t t' h1 hy hf) ?_
   exact fin [(z, t)] s.toks (by unfold Txt.split; rw [if_neg n1, if_pos hf]; rfl)
  | false =>
   have n2 : ¬ (Builtin.Str.occurrences z y 0 z.length (z.length + 1)).isEmpty = true := by rw [hf]; exact Bool.false_ne_true
   have es : Txt.split z y = Builtin.Str.partsBetween z (Builtin.Str.occurrences z y 0 z.length (z.length + 1)) y.length := by unfold Txt.split; rw [if_neg n1, if_neg n2]
   refine call_meets F.slot_str_split (typeIs_str _ _ _) F.entry_str_split (F.args_str_split_2 _ _) (meets_str_split_sep z y t t' h1 hy hf (by omega) (by rw [← es]; exact hn)) ?_
   rw [strsFrom_eq]
   exact fin _ _ ((numbered_texts _ _).trans es.symm)
theorem pe_join (ho : PE X o to) (he : PE X e te)
 (hbase : attributeBase o "join" X.env (eval o X.env) = eval o X.env := by rfl)
 (hfew : ((backTo cpos (starEach [e] X.env)).all (fun x => !x.1) && (backToKw cpos (keywordEach [] X.env)).all (fun x => x.1.isSome)
   && decide (([e] : List Expr).length + ([] : List Keyword).length + (if ([] : List Keyword).isEmpty then 0 else 1) < 30)) = true := by rfl)
 (hline : (apos.endLine == cpos.line) = true := by rfl) (hs : starEach [e] X.env = (false, eval e X.env) :: starEach [] X.env := by rfl) (hplain : (backTo cpos (starEach [] X.env)).any (·.1) = false := by rfl) :
 PE X (.Call (.Attribute o "join" apos) [e] [] cpos) (tBMf isTxt rJoin to (tCons te tNil)) :=
 pe_bmf (fun _ _ h => h.ty) PySem.F.plainAttrs_str PySem.F.slot_str_join PySem.F.type_str_join mt_join ho (pa_cons he pa_nil hs) hbase hfew hline hs hplain
theorem pe_split (ho : PE X o to) (he : PE X e te)
 (hbase : attributeBase o "split" X.env (eval o X.env) = eval o X.env := by rfl)
 (hfew : ((backTo cpos (starEach [e] X.env)).all (fun x => !x.1) && (backToKw cpos (keywordEach [] X.env)).all (fun x => x.1.isSome)
   && decide (([e] : List Expr).length + ([] : List Keyword).length + (if ([] : List Keyword).isEmpty then 0 else 1) < 30)) = true := by rfl)
 (hline : (apos.endLine == cpos.line) = true := by rfl) (hs : starEach [e] X.env = (false, eval e X.env) :: starEach [] X.env := by rfl) (hplain : (backTo cpos (starEach [] X.env)).any (·.1) = false := by rfl) :
 PE X (.Call (.Attribute o "split" apos) [e] [] cpos) (tBMf isTxt rSplit to (tCons te tNil)) :=
 pe_bmf (fun _ _ h => h.ty) PySem.F.plainAttrs_str PySem.F.slot_str_split PySem.F.type_str_split mt_split ho (pa_cons he pa_nil hs) hbase hfew hline hs hplain
theorem w_isTxt {z : Str} {H : Hp} : isTxt (.str z) H ↔ True := ⟨fun _ => trivial, fun _ => ⟨z, rfl⟩⟩
theorem w_join {sep : Str} {l : Addr} {H : Hp} {Q : VK} : rJoin (.str sep) [.ref l] H Q ↔ ∃ ts : List Str, H l = some (.lst (ts.map V.str)) ∧ (ts.map (·.length)).sum + ts.length * sep.length ≤ 16777216 ∧ Q (.str (Txt.join sep ts)) H := by
 constructor
 · rintro ⟨a, b, ts, e1, e2, h⟩; cases e1; cases e2; exact ⟨ts, h⟩
 · rintro ⟨ts, h⟩; exact ⟨sep, l, ts, rfl, rfl, h⟩
theorem w_split {z y : Str} {H : Hp} {Q : VK} : rSplit (.str z) [.str y] H Q ↔ (y.length == 0) = false ∧ z.length + 2 ≤ sizeLine ∧ ∀ p, H p = none → Q (.ref p) (upd H p (.lst ((Txt.split z y).map V.str))) := by
 constructor
 · rintro ⟨a, b, e1, e2, h⟩; cases e1; cases e2; exact h
 · intro h; exact ⟨z, y, rfl, rfl, h⟩
def fAll : List V → Hp → VK → Prop := fun xs H Q => ∃ (l : Addr) (bs : List Bool), xs = [.ref l] ∧ H l = some (.lst (bs.map V.bl)) ∧ Q (.bl (bs.all id)) H
theorem all_range (bs : List Bool) : (List.range bs.length).all (fun i => bs.getD i true) = bs.all id := by
 apply Bool.eq_iff_iff.mpr
 rw [List.all_eq_true, List.all_eq_true]
 constructor
 · intro h b hb
   obtain ⟨i, hi, rfl⟩ := List.mem_iff_getElem.mp hb
   have y := h i (List.mem_range.mpr hi); simpa [List.getD_eq_getElem?_getD, List.getElem?_eq_getElem hi] using y
 · intro h i hi
   have hi := List.mem_range.mp hi
   have y := h bs[i] (List.getElem_mem hi); simpa [List.getD_eq_getElem?_getD, List.getElem?_eq_getElem hi] using y
theorem call_all_f (hc : X.calm = true) : CallR X (.builtin "all") fAll := by
 intro pins s σ H xs us Q I r h
 obtain ⟨l, bs, rfl, hH, q⟩ := h
 obtain ⟨u, rfl, ru⟩ := vals1 r
 obtain rfl : u = Value.ref l := ru
 obtain ⟨_, its, n, rv, hl, eo⟩ := I.lstM hH
 obtain rfl := bools_at (k := true) rv
 have il : s.heap.IsList l (bs.map Value.bool).toArray := ⟨_, eo, rfl, n, rfl⟩
 refine call_all_walk (wpAny_pyIter_list il ?_)
 have hlt : l < s.heap.objs.size := Heap.lt_size eo
 have W := walks_list (prog := X.prog) (w := X.w) (A := X.A.in1) s.heap.objs.size l (Nat.ne_of_lt hlt) ((I.handAt hc).new (Heap.get?_none_of_le (Nat.le_refl _))) (bs.map Value.bool).toArray
 refine ⟨s.heap.objs.size, _, _, _, _, _, fun i => bs.getD i true, rfl, W, ⟨⟨⟨_, Heap.get?_push_size _ rfl, rfl, rfl⟩, il.at fun o e => Heap.get?_push_of_some _ e⟩, (I.handAt hc).in1.keep fun e o _ k => Heap.get?_push_of_some _ k⟩, fun i v s' Q' E' hv hq => ?_, fun h' tk hk => ?_⟩
 · have hv : (bs.map Value.bool)[i]? = some v := by simpa using hv
   rw [List.getElem?_map] at hv
   cases e : bs[i]? with
   | none => rw [e] at hv; cases hv
   | some b =>
    rw [e] at hv; cases hv
    have eb : bs.getD i true = b := by rw [List.getD_eq_getElem?_getD, e]; rfl
    have hq : Q' (bs.getD i true) s' := hq
    rw [eb] at hq
    exact wpAny_pure hq
 · have ea : (List.range (bs.map Value.bool).toArray.size).all (fun i => bs.getD i true) = bs.all id := by
    rw [List.size_toArray, List.length_map]; exact all_range bs
   rw [ea]
   refine ⟨.bl _, H, I.kept (t' := tk) fun b o e => hk b o (fun z => ?_) (Heap.get?_push_of_some _ e), rfl, q⟩
   rw [List.mem_singleton.mp z] at e
   exact Nat.lt_irrefl _ (Heap.lt_size e)
end
def Its (x : Str) : It := ⟨fun i _ => i < x.cps.size, fun i H v H' => H' = H ∧ ∀ c, x.cps[i]? = some c → v = .str ⟨#[c]⟩, fun i _ => x.cps.size ≤ i⟩
theorem turn_text {P : Program} {w : World} {K : PySem.W.Frag} {tg : Expr} (x : Str) (t : Tok) (it : Addr) : Turn P w K tg (Its x) [it] it (fun i h => h.IsStrIter it "str_ascii_iterator" x t i) where
 mem := by simp
 obj := fun i h st b hb => by
  have e : b = it := by simpa using hb
  subst e
  obtain ⟨o, e, c, d⟩ := st
  exact ⟨o, e, fun v z => by rw [d] at z; cases z⟩
 keep := fun i h h' st k => by
  obtain ⟨o, e, c, d⟩ := st
  exact ⟨o, k it (by simp) o e, c, d⟩
 item := by
  intro X hP hw hK hc i pins s σ H E I hf st hg
  subst hP hw hK
  have hg : i < x.cps.size := hg
  obtain ⟨f0, f1, f2, f3, f4, f5⟩ := hf it (by simp)
  have hx : x.cps[i]? = some x.cps[i] := Array.getElem?_eq_getElem hg
  refine wpAny_pyNext_ascii_item st hx fun h' st' sb => ?_
  have I1 : Inv X pins σ H { s with heap := h', toks := s.toks + 1 } := I.turned (t' := s.toks + 1) (fun b o hb e => (sb.2 b hb).trans e) f0 f1 f3 f4 f5
  obtain ⟨o, e, c, d⟩ := id st'
  exact ⟨_, rfl, go_of (s := { s with heap := h', toks := s.toks + 1 }) e c d (by decide) ⟨.str ⟨#[x.cps[i]]⟩, H, I1, ⟨_, rfl⟩, ⟨rfl, fun c hc => by rw [hx] at hc; cases hc; rfl⟩, st', fun b hb => (hf b hb).1⟩⟩
 done := by
  intro X hP hw hK hc i pins s σ H E I hf st hg
  subst hP hw hK
  obtain ⟨f0, f1, f2, f3, f4, f5⟩ := hf it (by simp)
  exact text_done (I.handAt hc) st (Array.getElem?_eq_none hg) (I.handFp hc (hf it (by simp))) fun h' eb => ⟨rfl, I.turned (t' := s.toks) (fun b o hb e => eb b o hb e) f0 f1 f3 f4 f5⟩
 self := fun _ _ _ _ _ st h => wpAny_pyIter_striter_ascii st h
section
variable {X : Cx} {tg l : Expr} {tl : TE}
def iTxt (tl : TE) : TI := fun σ H R => tl σ H fun v H1 => ∃ x : Str, v = .str x ∧ x.cps.all (· < 128) = true ∧ R (Its x) H1
theorem pi_txt (hl : PE X l tl) : PI X tg l (iTxt tl) := by
 intro pins s σ H R I h
 refine thn (hl pins s σ H _ I h) fun v s1 ⟨y, H1, I1, r1, q1⟩ => ?_
 obtain ⟨x, rfl, hx, q⟩ := q1
 obtain ⟨t, rfl⟩ := r1
 refine wpAny_pyIter_ascii hx ?_
 refine ⟨s1.heap.objs.size, [s1.heap.objs.size], _, _, H1, rfl, I1.kept (t' := s1.toks) fun b o e => Heap.get?_push_of_some _ e, turn_text x t _, ⟨_, Heap.get?_push_size _ rfl, rfl, rfl⟩, fun b hb => ?_, q⟩
 have e : b = s1.heap.objs.size := by simpa using hb
 subst e
 exact I1.fpOk (Nat.le_refl _) (I1.hok.fresh (Nat.le_refl _))
end
section
variable {i : Nat} {tt : TT} {te : TE} {σ : St} {H : Hp}
theorem comp_txt {x : Str} {A : Addr} {Q : Hp → Prop} (Pv : Nat → List V → Hp → Prop) (h0 : Pv 0 [] (upd H A (.lst []))) (hl : ∀ j ys H', j ≤ x.cps.size → Pv j ys H' → H' A = some (.lst ys))
 (hs : ∀ j c ys H' (N : List V → Hp → Prop), (∀ ys' H'', Pv (j + 1) ys' H'' → N ys' H'') → x.cps[j]? = some c → Pv j ys H' →
   tt (σ.set i (some (.str ⟨#[c]⟩))) H' fun b H2 => if b = true then te (σ.set i (some (.str ⟨#[c]⟩))) H2 fun v H3 => H3 A = some (.lst ys) ∧ ys.length < sizeLine ∧ N (ys ++ [v]) (upd H3 A (.lst (ys ++ [v]))) else N ys H2)
 (hd : ∀ ys H', Pv x.cps.size ys H' → Q H') : tCompAt i tt te A (Its x) σ H Q := by
 refine ⟨fun j m ys H' => j ≤ x.cps.size ∧ m = x.cps.size - j ∧ Pv j ys H', ⟨_, Nat.zero_le _, rfl, h0⟩, fun j m ys H' ⟨hj, hm, hp⟩ => ?_⟩
 refine ⟨hl j ys H' hj hp, ?_⟩
 by_cases hlt : j < x.cps.size
 · refine .inr ⟨hlt, fun v H'' hy => ?_⟩
   have hx : x.cps[j]? = some x.cps[j] := Array.getElem?_eq_getElem hlt
   obtain ⟨rfl, hv⟩ := hy
   obtain rfl := hv _ hx
   exact hs j _ ys H'' (fun ys' H2 => ∃ m', m' < m ∧ (j + 1 ≤ x.cps.size ∧ m' = x.cps.size - (j + 1) ∧ Pv (j + 1) ys' H2)) (fun ys' H2 q => ⟨x.cps.size - (j + 1), by omega, by omega, rfl, q⟩) hx hp
 · refine .inl ⟨Nat.le_of_not_lt hlt, ?_⟩
   obtain rfl : j = x.cps.size := by omega
   exact hd ys H' hp
end
section
variable {kvs : List (Key × V)} {z : Str} {H : Hp} {Q : VK} {p : Addr} {v : V}
theorem w_notin_dks : inAt true none (some (.dK kvs)) (.str z) H Q ↔ Q (.bl (!(valV kvs (Sum.inr z)).isSome)) H := by simp [inAt, keyV]
theorem w_set_dks {R : Hp → Prop} : setAt (some (.dK kvs)) p (.str z) v H R ↔ (kvs.length < sizeLine ∧ R (upd H p (.dK (putK kvs (Sum.inr z) v)))) := by simp [setAt, keyV]
end
end L2
namespace TM
open PySem
def figs (n : Nat) : Str := Str.ofString (toString ((n : Nat) : Int))
def fg : Option Nat → Str
 | none => "-"
 | some n => figs n
def Free (p : Str) : Prop := 32 ∉ p.cps.toList
theorem blank : (" " : Str) = ⟨#[32]⟩ := by decide +kernel
theorem figs_val (n : Nat) : PySem.NumText.digitsVal (figs n).cps.toList = n := by
 unfold figs
 rw [PySem.W.KIN.signs_num, PySem.W.KIN.val_back]
theorem figs_inj {m n : Nat} (h : figs m = figs n) : m = n := by
 rw [← figs_val m, h, figs_val]
theorem figs_dig (n : Nat) : ∀ c ∈ (figs n).cps.toList, 48 ≤ c ∧ c ≤ 57 := by
 intro c hc
 unfold figs at hc
 rw [PySem.W.KIN.signs_num] at hc
 obtain ⟨ch, hch, e⟩ := List.mem_map.mp hc; rw [← e]
 exact PyProof.Rows.digit_range (Nat.isDigit_of_mem_toDigits (by decide) (by decide) hch)
theorem figs_len (n : Nat) : (figs n).length ≤ n + 1 ∧ 1 ≤ (figs n).length := by
 have e : (figs n).length = (Nat.toDigits 10 n).length := by
  show (figs n).cps.size = _
  rw [← Array.length_toList]
  unfold figs
  rw [PySem.W.KIN.signs_num, List.length_map]
 rw [e]
 exact ⟨PySem.toDigits_len_le 10 n, PySem.toDigits_len_ge 10 n⟩
theorem fg_free (t : Option Nat) : Free (fg t) := by
 cases t with
 | none => show 32 ∉ ("-" : Str).cps.toList; decide +kernel
 | some n => intro h; have := figs_dig n _ h; omega
theorem dash_ne (n : Nat) : figs n ≠ "-" := fun h => by
 have := figs_dig n 45 (by rw [h]; decide +kernel)
 omega
theorem fg_inj {s t : Option Nat} (h : fg s = fg t) : s = t := by
 cases s with
 | none => cases t with
  | none => rfl
  | some n => exact absurd h.symm (dash_ne n)
 | some m => cases t with
  | none => exact absurd h (dash_ne m)
  | some n => rw [figs_inj h]
theorem append_codes (a b : Str) : (a ++ b).cps.toList = a.cps.toList ++ b.cps.toList := by rw [PySem.Str.cps_append, Array.toList_append]
theorem str_ext {a b : Str} (h : a.cps.toList = b.cps.toList) : a = b := PySem.Str.ext' (Array.toList_inj.mp h)
theorem cut_free {A B : List Nat} {c : Nat} : ∀ {X Y : List Nat}, c ∉ X → c ∉ Y → X ++ c :: A = Y ++ c :: B → X = Y ∧ A = B
 | [], [], _, _, h => by injection h with _ h; exact ⟨rfl, h⟩
 | [], y :: Y, _, hy, h => by injection h with h _; exact absurd (by rw [h]; simp) hy
 | x :: X, [], hx, _, h => by injection h with h _; exact absurd (by rw [← h]; simp) hx
 | x :: X, y :: Y, hx, hy, h => by
  injection h with h1 h2
  obtain ⟨e1, e2⟩ := cut_free (fun z => hx (List.mem_cons_of_mem _ z)) (fun z => hy (List.mem_cons_of_mem _ z)) h2
  exact ⟨by rw [h1, e1], e2⟩
theorem join_codes (p q : Str) (r : List Str) : (Str.join ⟨#[32]⟩ (p :: q :: r)).cps.toList = p.cps.toList ++ 32 :: (Str.join ⟨#[32]⟩ (q :: r)).cps.toList := by
 show (p ++ (⟨#[32]⟩ : Str) ++ Str.join ⟨#[32]⟩ (q :: r)).cps.toList = _
 rw [append_codes, append_codes]
 simp
theorem join_inj : ∀ {ps qs : List Str}, ps ≠ [] → qs ≠ [] → (∀ p ∈ ps, Free p) → (∀ q ∈ qs, Free q) → Str.join ⟨#[32]⟩ ps = Str.join ⟨#[32]⟩ qs → ps = qs
 | [], _, h, _, _, _, _ => absurd rfl h
 | _, [], _, h, _, _, _ => absurd rfl h
 | [p], [q], _, _, _, _, h => by rw [show p = q from h]
 | [p], q :: q' :: qs, _, _, hp, _, h => by
  exfalso
  have h' : p = Str.join ⟨#[32]⟩ (q :: q' :: qs) := h
  have := hp p (by simp)
  rw [h'] at this
  unfold Free at this
  rw [join_codes] at this
  exact this (by simp)
 | p :: p' :: ps, [q], _, _, _, hq, h => by
  exfalso
  have h' : Str.join ⟨#[32]⟩ (p :: p' :: ps) = q := h
  have := hq q (by simp)
  rw [← h'] at this
  unfold Free at this
  rw [join_codes] at this
  exact this (by simp)
 | p :: p' :: ps, q :: q' :: qs, _, _, hp, hq, h => by
  have e : (Str.join ⟨#[32]⟩ (p :: p' :: ps)).cps.toList = (Str.join ⟨#[32]⟩ (q :: q' :: qs)).cps.toList := by rw [h]
  rw [join_codes, join_codes] at e
  obtain ⟨e1, e2⟩ := cut_free (hp p (by simp)) (hq q (by simp)) e
  have ih := join_inj (ps := p' :: ps) (qs := q' :: qs) (by simp) (by simp) (fun z hz => hp z (List.mem_cons_of_mem _ hz)) (fun z hz => hq z (List.mem_cons_of_mem _ hz)) (str_ext e2)
  rw [str_ext e1, ih]
theorem split_join {ps : List Str} (h0 : ps ≠ []) (hf : ∀ p ∈ ps, Free p) : Txt.split (Txt.join " " ps) " " = ps := by
 have e : Txt.join " " ps = Str.join ⟨#[32]⟩ ps := by
  rw [blank]; exact PySem.StrLaws.glued_eq_join _ _
 rw [e, blank]
 refine join_inj (fun z => ?_) h0 (PySem.StrLaws.split_free _ 32) hf (PySem.StrLaws.join_split _ _)
 have := PyProof.Rows.split_pos (Str.join ⟨#[32]⟩ ps) ⟨#[32]⟩
 rw [z] at this
 exact absurd this (by decide)
def Known (n : Nat) (p : Str) : Prop := ∃ t : Option Nat, p = fg t ∧ ∀ m, t = some m → m < n
def Word (p : Str) : Prop := p ≠ "" ∧ ∀ c ∈ p.cps.toList, 97 ≤ c ∧ c ≤ 122
theorem Word.free {p : Str} (h : Word p) : Free p := fun z => by have := h.2 _ z; omega
def Nums (n : Nat) (ts : List (Option Nat)) : Prop := ∀ t ∈ ts, ∀ m, t = some m → m < n
def hline (ts : List (Option Nat)) : Str := Txt.join " " (ts.map fg)
def nline (p : Str × List (Option Nat)) : Str := Txt.join " " (p.1 :: p.2.map fg)
def HeadGood (n : Nat) (l : Str) (ts : List (Option Nat)) : Prop := (l = "" ∧ ts = []) ∨ (l ≠ "" ∧ Txt.split l " " = ts.map fg ∧ Nums n ts)
def HeadBad (n : Nat) (l : Str) : Prop := l ≠ "" ∧ ∃ p ∈ Txt.split l " ", ¬ Known n p
def LineGood (n : Nat) (l : Str) (p : Str × List (Option Nat)) : Prop := Txt.split l " " = p.1 :: p.2.map fg ∧ Word p.1 ∧ Nums n p.2
def LineBad (n : Nat) (l : Str) : Prop := ∃ w ps, Txt.split l " " = w :: ps ∧ (¬ Word w ∨ ∃ p ∈ ps, ¬ Known n p)
theorem fg_ne (t : Option Nat) : fg t ≠ "" := by
 cases t with
 | none => show ("-" : Str) ≠ ""; decide +kernel
 | some n =>
  intro h
  have h : figs n = "" := h
  have := (figs_len n).2
  rw [h] at this
  exact absurd this (by decide +kernel)
theorem hline_good {n : Nat} {ts : List (Option Nat)} (h : Nums n ts) : HeadGood n (hline ts) ts := by
 cases ts with
 | nil => exact .inl ⟨by show Txt.join " " [] = ""; decide +kernel, rfl⟩
 | cons t r =>
  have e := split_join (ps := (t :: r).map fg) (by simp) (fun p hp => by obtain ⟨t, _, rfl⟩ := List.mem_map.mp hp; exact fg_free t)
  refine .inr ⟨fun z => ?_, e, h⟩
  have z : Txt.join " " ((t :: r).map fg) = "" := z
  rw [z, show Txt.split "" " " = [("" : Str)] by decide +kernel] at e
  rw [List.map_cons] at e
  injection e with e _
  exact fg_ne t e.symm
theorem nline_good {n : Nat} {p : Str × List (Option Nat)} (hw : Word p.1) (h : Nums n p.2) : LineGood n (nline p) p :=
 ⟨split_join (by simp) (fun q hq => by
  rcases List.mem_cons.mp hq with rfl | hq; · exact hw.free
  · obtain ⟨t, _, rfl⟩ := List.mem_map.mp hq; exact fg_free t), hw, h⟩
theorem known_dig {n : Nat} {p : Str} (h : Known n p) : p = "-" ∨ ∃ m, m < n ∧ p = figs m := by
 obtain ⟨t, rfl, ht⟩ := h
 cases t with
 | none => exact .inl rfl
 | some m => exact .inr ⟨m, ht m rfl, rfl⟩
theorem not_known {n : Nat} {p : Str} {c : Nat} (hd : p ≠ "-") (hc : c ∈ p.cps.toList) (h : c < 48 ∨ 57 < c) : ¬ Known n p := fun k => by
 rcases known_dig k with z | ⟨m, _, z⟩
 · exact hd z
 · rw [z] at hc
   have := figs_dig m c hc
   omega
theorem empty_not (n : Nat) : ¬ Known n "" := fun k => by
 obtain ⟨t, z, _⟩ := k
 exact fg_ne t z.symm
theorem size_not (n : Nat) : ¬ Known n (figs n) := fun k => by
 rcases known_dig k with z | ⟨m, hm, z⟩
 · exact dash_ne n z
 · have := figs_inj z; omega
theorem dbl_not (n : Nat) : ¬ Known n "00" := fun k => by
 rcases known_dig k with z | ⟨m, hm, z⟩
 · exact absurd z (by decide +kernel)
 · have h := figs_val m
   rw [← z] at h
   have h0 : PySem.NumText.digitsVal ("00" : Str).cps.toList = 0 := by decide +kernel
   rw [h0] at h
   rw [← h] at z
   exact absurd z (by decide +kernel)
end TM
namespace WM
inductive Peg (α : Type) where
 | note (w : α) (ts : List (Option Nat))
 | mark (n : Nat)
structure Wl (α : Type) where
 size : Nat
 pegs : List (Option (Peg α))
 hooks : List (Option Nat)
 low : Nat
 free : Nat
 moving : Bool
 looked : Nat
variable {α : Type}
def isNote : Option (Peg α) → Bool
 | some (.note _ _) => true
 | _ => false
namespace Wl
def far (W : Wl α) : Nat := W.size - W.low
def Near (W : Wl α) (n : Nat) : Prop := W.low ≤ n ∧ n < W.free
def Far (W : Wl α) (n : Nat) : Prop := W.far ≤ n ∧ n < W.far + W.size
def isFar (W : Wl α) (n : Nat) : Bool := decide (n < W.low) || decide (W.low + W.size ≤ n)
def kept (W : Wl α) : Nat := ((W.pegs.drop W.far).take W.size).countP isNote
def over (W : Wl α) : Option Nat → Wl α × Option Nat
 | none => (W, none)
 | some n => if W.isFar n = false then (W, some n) else match W.pegs[n]? with
  | some (some (.mark m)) => (W, some m)
  | some (some (.note w ts)) => ({ W with pegs := (W.pegs.set W.free (some (.note w ts))).set n (some (.mark W.free)), free := W.free + 1 }, some W.free)
  | _ => (W, some n)
def overAll (W : Wl α) : List (Option Nat) → Wl α × List (Option Nat)
 | [] => (W, [])
 | t :: ts => ((W.over t).1.overAll ts |>.1, (W.over t).2 :: ((W.over t).1.overAll ts).2)
end Wl
open Wl
structure POk (W : Wl α) : Prop where
 sz : 0 < W.size
 len : W.pegs.length = 2 * W.size
 lo : W.low = 0 ∨ W.low = W.size
 f1 : W.low ≤ W.free
 f2 : W.free ≤ W.low + W.size
 near : ∀ k : Nat, W.Near k → ∃ w ts, W.pegs[k]? = some (some (.note w ts))
 bare : ∀ k : Nat, W.free ≤ k → k < W.low + W.size → W.pegs[k]? = some none
 rest : W.moving = false → ∀ k : Nat, W.Far k → W.pegs[k]? = some none
 look : W.moving = true → W.low ≤ W.looked ∧ W.looked ≤ W.free
 thr : ∀ (k : Nat) (w : α) (ts : List (Option Nat)) (i n : Nat), W.Near k → W.pegs[k]? = some (some (.note w ts)) → ts[i]? = some (some n) → W.Near n ∨ (W.moving = true ∧ W.looked ≤ k ∧ W.Far n ∧ W.pegs[n]? ≠ some none)
 mark : ∀ k m : Nat, W.pegs[k]? = some (some (.mark m)) → W.Far k ∧ W.Near m
 minj : ∀ k k' m : Nat, W.pegs[k]? = some (some (.mark m)) → W.pegs[k']? = some (some (.mark m)) → k = k'
 fthr : ∀ (k : Nat) (w : α) (ts : List (Option Nat)) (i n : Nat), W.Far k → W.pegs[k]? = some (some (.note w ts)) → ts[i]? = some (some n) → W.Far n ∧ W.pegs[n]? ≠ some none
 room : W.kept ≤ W.low + W.size - W.free
def TOk (W : Wl α) (t : Option Nat) : Prop := ∀ n, t = some n → W.Near n ∨ (W.moving = true ∧ W.Far n ∧ W.pegs[n]? ≠ some none)
def NOk (W : Wl α) (t : Option Nat) : Prop := ∀ n, t = some n → W.Near n
structure Ext (W W' : Wl α) : Prop where
 size : W'.size = W.size
 low : W'.low = W.low
 moving : W'.moving = W.moving
 looked : W'.looked = W.looked
 hooks : W'.hooks = W.hooks
 free : W.free ≤ W'.free
 near : ∀ k : Nat, W.Near k → W'.pegs[k]? = W.pegs[k]?
 full : ∀ k : Nat, W.pegs[k]? ≠ some none → W'.pegs[k]? ≠ some none
theorem Ext.refl (W : Wl α) : Ext W W := ⟨rfl, rfl, rfl, rfl, rfl, Nat.le_refl _, fun _ _ => rfl, fun _ h => h⟩
theorem Ext.far {W W' : Wl α} (e : Ext W W') : W'.far = W.far := by unfold Wl.far; rw [e.size, e.low]
theorem Ext.nearOf {W W' : Wl α} (e : Ext W W') {k : Nat} (h : W.Near k) : W'.Near k := ⟨by rw [e.low]; exact h.1, Nat.lt_of_lt_of_le h.2 e.free⟩
theorem Ext.farOf {W W' : Wl α} (e : Ext W W') {k : Nat} : W'.Far k ↔ W.Far k := by unfold Wl.Far; rw [e.far, e.size]
theorem Ext.trans {W W' W'' : Wl α} (a : Ext W W') (b : Ext W' W'') : Ext W W'' :=
 ⟨b.size.trans a.size, b.low.trans a.low, b.moving.trans a.moving, b.looked.trans a.looked, b.hooks.trans a.hooks, Nat.le_trans a.free b.free, fun k h => (b.near k (a.nearOf h)).trans (a.near k h), fun k h => b.full k (a.full k h)⟩
theorem Ext.tok {W W' : Wl α} (e : Ext W W') {t : Option Nat} (h : TOk W t) : TOk W' t := fun n q => by
 rcases h n q with h | ⟨h1, h2, h3⟩
 · exact .inl (e.nearOf h)
 · exact .inr ⟨e.moving.trans h1, e.farOf.mpr h2, e.full n h3⟩
section
variable {W : Wl α}
theorem POk.apart (p : POk W) {n : Nat} (h : W.Far n) (h' : W.Near n) : False := by
 have := p.lo; have := p.f2; unfold Wl.Far Wl.far at h; unfold Wl.Near at h'; omega
end
theorem getElem?_ne_none_lt {β : Type} {l : List β} {k : Nat} {x : β} (h : l[k]? = some x) : k < l.length := (List.getElem?_eq_some_iff.mp h).1
section
variable {W : Wl α} {n : Nat} {w : α} {ts : List (Option Nat)}
end
abbrev Notes (α : Type) := List (α × List (Option Nat))
def rl (ps : List (Option (Peg α))) (n : Nat) : Nat := match ps[n]? with
 | some (some (.mark m)) => m
 | _ => n
def Rel (ps : List (Option (Peg α))) (φ : Nat → Option Nat) : Option Nat → Option Nat → Prop
 | none, none => True
 | some n, some k => φ k = some (rl ps n)
 | _, _ => False
structure NSim (ps : List (Option (Peg α))) (notes : Notes α) (φ : Nat → Option Nat) : Prop where
 note : ∀ k q : Nat, φ k = some q → ∃ w ts row, ps[q]? = some (some (.note w ts)) ∧ notes[k]? = some (w, row) ∧ ts.length = row.length ∧ ∀ (i : Nat) (t o : Option Nat), ts[i]? = some t → row[i]? = some o → Rel ps φ t o
 inj : ∀ k k' q : Nat, φ k = some q → φ k' = some q → k = k'
def Rels (ps : List (Option (Peg α))) (φ : Nat → Option Nat) (ts os : List (Option Nat)) : Prop := ts.length = os.length ∧ ∀ (i : Nat) (t o : Option Nat), ts[i]? = some t → os[i]? = some o → Rel ps φ t o
section
variable {W : Wl α} {n : Nat} {w : α} {ts : List (Option Nat)} {φ : Nat → Option Nat} {notes : Notes α}
end
def Led (W : Wl α) (t : Option Nat) : Prop := ∀ k, t = some k → W.pegs[k]? ≠ some none
theorem TOk.led {W : Wl α} (p : POk W) {t : Option Nat} (h : TOk W t) : Led W t := fun k q z => by
 rcases h k q with h | ⟨_, _, h⟩
 · obtain ⟨_, _, e⟩ := p.near k h; rw [e] at z; cases z
 · exact h z
structure WOk (W : Wl α) : Prop extends POk W where
 hk : ∀ t ∈ W.hooks, NOk W t
structure Sim (W : Wl α) (notes : Notes α) (heads : List (Option Nat)) (φ : Nat → Option Nat) : Prop where
 n : NSim W.pegs notes φ
 h : Rels W.pegs φ W.hooks heads
namespace Wl
def led (W : Wl α) (js : List Nat) : List (Option Nat) := js.map fun j => (W.hooks[j]?).getD none
def put (W : Wl α) (hook : Nat) (w : α) (others : List Nat) : Wl α :=
 { W with pegs := W.pegs.set W.free (some (.note w (W.led others))), free := W.free + 1, hooks := W.hooks.set hook (some W.free) }
def drop (W : Wl α) (hook : Nat) : Wl α := { W with hooks := W.hooks.set hook none }
def look (W : Wl α) (n : Nat) : Wl α := match W.pegs[n]? with
 | some (some (.note w ts)) => { (W.overAll ts).1 with pegs := (W.overAll ts).1.pegs.set n (some (.note w (W.overAll ts).2)) }
 | _ => W
def clear (W : Wl α) : Wl α := { W with pegs := W.pegs.take W.far ++ List.replicate W.size none ++ W.pegs.drop (W.far + W.size), moving := false }
def step (W : Wl α) : Wl α := if W.looked = W.free then W.clear else { (W.look W.looked) with looked := W.looked + 1 }
end Wl
section
variable {W : Wl α} {hook : Nat} {w : α} {others : List Nat}
end
section
variable {W : Wl α} {n k : Nat} {t : Option Nat} {w : α} {ts : List (Option Nat)}
end
section
variable {W : Wl α} {n k other : Nat} {t : Option Nat} {w : α} {ts : List (Option Nat)}
end
section
variable {W : Wl α} {n : Nat} {w : α} {ts ts' : List (Option Nat)}
end
section
variable {W : Wl α}
end
end WM
set_option linter.all false
namespace WM
end WM
set_option maxHeartbeats 4000000
seal L2.PE L2.PT L2.PW L2.PA L2.PS L2.PSs L2.PC L2.PG L2.PGs L2.PSet L2.PIp L2.PGet L2.PI L2.PO L2.PTs L2.PEx L2.PSx L2.PSsx L2.PH L2.OpR L2.UnR L2.CallR L2.SlR L2.MtR L2.MtM L2.Passes
local macro_rules | `(tactic| exists 1, $ts,*) => `(tactic| simp only [_root_.L2.ap_seq, _root_.L2.ap_next, _root_.L2.ap_brk, _root_.L2.ap_cont, _root_.L2.ap_drop, _root_.L2.ap_ret, _root_.L2.ap_retN, _root_.L2.ap_ifS, _root_.L2.ap_asg, _root_.L2.ap_gName, _root_.L2.ap_gSub, _root_.L2.ap_gNil, _root_.L2.ap_gCons, _root_.L2.ap_test, _root_.L2.ap_B, _root_.L2.ap_not, _root_.L2.ap_and, _root_.L2.ap_or, _root_.L2.ap_andV, _root_.L2.ap_orV, _root_.L2.ap_notV, _root_.L2.ap_ifE, _root_.L2.ap_var, _root_.L2.ap_C, _root_.L2.ap_op, _root_.L2.ap_un, _root_.L2.ap_chain, _root_.L2.ap_nil, _root_.L2.ap_cons, _root_.L2.ap_tup, _root_.L2.ap_lst, _root_.L2.ap_CB, _root_.L2.ap_call, _root_.L2.ap_meth, _root_.L2.ap_make, _root_.L2.ap_fld, _root_.L2.ap_sfld, _root_.L2.ap_faug, _root_.L2.ap_aug, _root_.L2.ap_bmf, _root_.L2.ap_bmf0, _root_.L2.ap_dnew, _root_.L2.ap_sl, _root_.L2.ap_noPart, _root_.L2.ap_part, _root_.L2.ap_true, _root_.L2.ap_for1, _root_.L2.ap_for2, _root_.L2.ap_forS, _root_.L2.ap_compS, _root_.L2.ap_compR, _root_.L2.ap_setC, _root_.L2.ex_bn, _root_.L2.sq_lst, _root_.L2.sq_tup, _root_.L2.sq_frz, _root_.L2.sq_dK, _root_.L2.sq_ins, _root_.L2.w_ix_ref, _root_.L2.w_ix_sq, _root_.L2.w_ix_dki, _root_.L2.w_ix_dks, _root_.L2.w_ix_str, _root_.L2.w_sl, _root_.L2.w_sl_tup, _root_.L2.w_sl_lst, _root_.L2.w_sl_frz, _root_.L2.w_len_ref, _root_.L2.w_len_sq, _root_.L2.w_len_dk, _root_.L2.w_len_str, _root_.L2.w_list, _root_.L2.w_tuple, _root_.L2.w_tuple_tup, _root_.L2.w_tuple_lst, _root_.L2.w_in, _root_.L2.w_in_sq, _root_.L2.w_notin_sq, _root_.L2.w_in_dki, _root_.L2.w_notin_dki, _root_.L2.w_is_non, _root_.L2.w_isnot_non, _root_.L2.w_is_bl, _root_.L2.w_isnot_bl, _root_.L2.ty_ref, _root_.L2.ty_non, _root_.L2.ty_bl, _root_.L2.ty_int, _root_.L2.ty_str, _root_.L2.tyR_lst, _root_.L2.tyR_frz, _root_.L2.tyR_tup, _root_.L2.tyR_dK, _root_.L2.w_isi, _root_.L2.okT, _root_.L2.subT, _root_.L2.w_eq_int, _root_.L2.w_eq_str, _root_.L2.w_eq_bl, _root_.L2.w_eq_ni, _root_.L2.w_eq_in, _root_.L2.w_eq_nn, _root_.L2.w_eq_ref, _root_.L2.w_ne_int, _root_.L2.w_ne_str, _root_.L2.w_ne_bl, _root_.L2.w_ne_ni, _root_.L2.w_ne_in, _root_.L2.w_ne_nn, _root_.L2.w_ne_ref, _root_.L2.w_add_int, _root_.L2.w_add_str, _root_.L2.w_add_ref, _root_.L2.w_add_lst, _root_.L2.w_add_tup, _root_.L2.w_mul_int, _root_.L2.w_mul_ref, _root_.L2.w_mul_lst, _root_.L2.w_set, _root_.L2.w_set_lst, _root_.L2.w_set_dki, _root_.L2.w_min, _root_.L2.rI, _root_.L2.rI0, _root_.L2.rU, _root_.L2.cx_K, _root_.L2.rIxS', _root_.L2.rLenS, _root_.L2.rSlS, _root_.L2.isLst, _root_.L2.isDct, _root_.L2.rAppend, _root_.L2.rExtend, _root_.L2.rPop, _root_.L2.rClear, _root_.L2.rGet2, _root_.L2.rAdd, _root_.L2.rSub, _root_.L2.ipI, List.getElem?_cons_zero, List.getElem?_cons_succ, List.getElem?_nil, List.set_cons_zero, List.set_cons_succ, List.set_nil, List.length_cons, List.length_nil, List.nil_append, List.cons_append, List.append_nil, Option.some.injEq, _root_.L2.V.int.injEq, _root_.L2.V.ref.injEq, _root_.L2.V.str.injEq, _root_.L2.V.bl.injEq, _root_.L2.V.ty.injEq, List.cons.injEq, _root_.L2.HO.lst.injEq, _root_.L2.HO.tup.injEq, _root_.L2.HO.ins.injEq, _root_.L2.HO.dK.injEq, exists_eq', exists_eq, exists_eq_left', exists_eq_left, exists_eq_right, exists_eq_right', exists_and_left, exists_and_right, exists_const, and_true, true_and, and_self, and_false, false_and, or_false, false_or, exists_false, and_assoc, ite_true, ite_false, if_true, if_false, Bool.true_eq_false, Bool.false_eq_true, Bool.not_true, Bool.not_false, Bool.not_eq_true', Bool.and_true, Bool.true_and, Bool.and_false, Bool.false_and, Bool.or_false, Bool.false_or, Bool.or_true, Bool.true_or, reduceCtorEq, reduceIte, decide_true, decide_false, decide_eq_true_eq, decide_eq_false_iff_not, Bool.not_eq_eq_eq_not, Bool.if_false_left, Bool.if_true_left, ne_eq, not_true, not_false_iff, true_implies, forall_const, beq_self_eq_true, eq_self_iff_true, String.reduceBEq, String.reduceEq, Nat.zero_le, Int.reduceLT, Int.reduceLE, Int.reduceNeg, Int.reduceEq, Nat.reduceLT, Nat.reduceLeDiff, Nat.reduceAdd, Nat.reduceEqDiff, Int.reduceToNat, List.map_cons, List.map_nil, List.length_map, $[$ts:term],*])
namespace PW
open PySem L2
def top (i : Nat) : Stmt := PySem.Challenge.pw_pinwall_k12_views_on_lines.main.body.getD i (.Pass ⟨0, 0, 0, 0⟩)
abbrev s_shown : Stmt := top 10
abbrev s_written : Stmt := top 11
abbrev s_figures : Stmt := top 12
abbrev s_read : Stmt := top 13
abbrev s_known_figures : Stmt := top 14
abbrev s_numbers_in : Stmt := top 15
abbrev s_word_in : Stmt := top 16
abbrev s_whole : Stmt := top 18
abbrev s_at : Stmt := top 19
abbrev s_places_drawn : Stmt := top 20
abbrev s_line_of : Stmt := top 21
abbrev s_word_drawn : Stmt := top 22
abbrev s_spoilt : Stmt := top 23
abbrev s_is_places : Stmt := top 24
abbrev s_is_view : Stmt := top 25
abbrev s_under_base : Stmt := top 26
abbrev s_law : Stmt := top 27
set_option genInjectivity false
set_option genSizeOf false
set_option genSizeOfSpec false
structure Adr where
 c_WallError : Addr
 c_Full : Addr
 c_NoNote : Addr
 c_NoThread : Addr
 c_Busy : Addr
 c_NoRound : Addr
 c_NoView : Addr
 a_shown : Addr
 d_shown : FuncData
 a_written : Addr
 d_written : FuncData
 a_figures : Addr
 d_figures : FuncData
 a_read : Addr
 d_read : FuncData
 a_known_figures : Addr
 d_known_figures : FuncData
 a_numbers_in : Addr
 d_numbers_in : FuncData
 a_word_in : Addr
 d_word_in : FuncData
 a_whole : Addr
 d_whole : FuncData
 a_at : Addr
 d_at : FuncData
 a_places_drawn : Addr
 d_places_drawn : FuncData
 a_line_of : Addr
 d_line_of : FuncData
 a_word_drawn : Addr
 d_word_drawn : FuncData
 a_spoilt : Addr
 d_spoilt : FuncData
 a_is_places : Addr
 d_is_places : FuncData
 a_is_view : Addr
 d_is_view : FuncData
 a_under_base : Addr
 d_under_base : FuncData
 u_LETTERS : Value
structure Txt (K : PySem.W.Frag) (mg : Str → Option Value) (A : Adr) : Prop where
 m_WallError : mg "WallError" = some (.ref A.c_WallError)
 x_WallError : PySem.W.excIn K A.c_WallError bmV "ValueError.__new__" = true
 m_Full : mg "Full" = some (.ref A.c_Full)
 x_Full : PySem.W.excIn K A.c_Full bmV "ValueError.__new__" = true
 e_Full : PySem.W.exmOne K (.ref A.c_Full) (.ref A.c_WallError) = some true
 m_NoNote : mg "NoNote" = some (.ref A.c_NoNote)
 x_NoNote : PySem.W.excIn K A.c_NoNote bmV "ValueError.__new__" = true
 e_NoNote : PySem.W.exmOne K (.ref A.c_NoNote) (.ref A.c_WallError) = some true
 m_NoThread : mg "NoThread" = some (.ref A.c_NoThread)
 x_NoThread : PySem.W.excIn K A.c_NoThread bmV "ValueError.__new__" = true
 e_NoThread : PySem.W.exmOne K (.ref A.c_NoThread) (.ref A.c_WallError) = some true
 m_Busy : mg "Busy" = some (.ref A.c_Busy)
 x_Busy : PySem.W.excIn K A.c_Busy bmV "ValueError.__new__" = true
 e_Busy : PySem.W.exmOne K (.ref A.c_Busy) (.ref A.c_WallError) = some true
 m_NoRound : mg "NoRound" = some (.ref A.c_NoRound)
 x_NoRound : PySem.W.excIn K A.c_NoRound bmV "ValueError.__new__" = true
 e_NoRound : PySem.W.exmOne K (.ref A.c_NoRound) (.ref A.c_WallError) = some true
 m_NoView : mg "NoView" = some (.ref A.c_NoView)
 x_NoView : PySem.W.excIn K A.c_NoView bmV "ValueError.__new__" = true
 e_NoView : PySem.W.exmOne K (.ref A.c_NoView) (.ref A.c_WallError) = some true
 m_LETTERS : mg "LETTERS" = some A.u_LETTERS
 r_LETTERS : RelV (.str "abcdefghijklmnopqrstuvwxyz") A.u_LETTERS
 q_NoView_NoNote : PySem.W.exmOne K (.ref A.c_NoView) (.ref A.c_NoNote) = some false
 q_NoView_NoThread : PySem.W.exmOne K (.ref A.c_NoView) (.ref A.c_NoThread) = some false
 q_NoView_Full : PySem.W.exmOne K (.ref A.c_NoView) (.ref A.c_Full) = some false
 q_NoView_Busy : PySem.W.exmOne K (.ref A.c_NoView) (.ref A.c_Busy) = some false
 q_NoView_NoRound : PySem.W.exmOne K (.ref A.c_NoView) (.ref A.c_NoRound) = some false
 q_NoView_NoView : PySem.W.exmOne K (.ref A.c_NoView) (.ref A.c_NoView) = some true
 q_NoView_ValueError : PySem.W.exmOne K (.ref A.c_NoView) (.type "ValueError") = some true
 xc_NoView : ExcCls K A.c_NoView
 cg : ClsGet K
 f_shown : Fun K "shown" "shown" s_shown A.a_shown A.d_shown
 b_shown : Binds K A.d_shown ["view"] []
 m_shown : mg "shown" = some (.ref A.a_shown)
 f_written : Fun K "written" "written" s_written A.a_written A.d_written
 b_written : Binds K A.d_written ["numbers"] []
 m_written : mg "written" = some (.ref A.a_written)
 f_figures : Fun K "figures" "figures" s_figures A.a_figures A.d_figures
 b_figures : Binds K A.d_figures ["number"] []
 m_figures : mg "figures" = some (.ref A.a_figures)
 f_read : Fun K "read" "read" s_read A.a_read A.d_read
 b_read : Binds K A.d_read ["lines"] []
 m_read : mg "read" = some (.ref A.a_read)
 f_known_figures : Fun K "known_figures" "known_figures" s_known_figures A.a_known_figures A.d_known_figures
 b_known_figures : Binds K A.d_known_figures ["count"] []
 m_known_figures : mg "known_figures" = some (.ref A.a_known_figures)
 f_numbers_in : Fun K "numbers_in" "numbers_in" s_numbers_in A.a_numbers_in A.d_numbers_in
 b_numbers_in : Binds K A.d_numbers_in ["parts", "known"] []
 m_numbers_in : mg "numbers_in" = some (.ref A.a_numbers_in)
 f_word_in : Fun K "word_in" "word_in" s_word_in A.a_word_in A.d_word_in
 b_word_in : Binds K A.d_word_in ["part"] []
 m_word_in : mg "word_in" = some (.ref A.a_word_in)
 f_whole : Fun K "_law_whole" "_law_whole" s_whole A.a_whole A.d_whole
 b_whole : Binds K A.d_whole ["_law_found"] []
 m_whole : mg "_law_whole" = some (.ref A.a_whole)
 f_at : Fun K "_law_at" "_law_at" s_at A.a_at A.d_at
 b_at : Binds K A.d_at ["_law_script", "_law_k"] []
 m_at : mg "_law_at" = some (.ref A.a_at)
 f_places_drawn : Fun K "_law_places_drawn" "_law_places_drawn" s_places_drawn A.a_places_drawn A.d_places_drawn
 b_places_drawn : Binds K A.d_places_drawn ["_law_cell", "_law_size"] []
 m_places_drawn : mg "_law_places_drawn" = some (.ref A.a_places_drawn)
 f_line_of : Fun K "_law_line_of" "_law_line_of" s_line_of A.a_line_of A.d_line_of
 b_line_of : Binds K A.d_line_of ["_law_row"] []
 m_line_of : mg "_law_line_of" = some (.ref A.a_line_of)
 f_word_drawn : Fun K "_law_word_drawn" "_law_word_drawn" s_word_drawn A.a_word_drawn A.d_word_drawn
 b_word_drawn : Binds K A.d_word_drawn ["_law_cell", "_law_k"] []
 m_word_drawn : mg "_law_word_drawn" = some (.ref A.a_word_drawn)
 f_spoilt : Fun K "_law_spoilt" "_law_spoilt" s_spoilt A.a_spoilt A.d_spoilt
 b_spoilt : Binds K A.d_spoilt ["_law_lines", "_law_way", "_law_cell"] []
 m_spoilt : mg "_law_spoilt" = some (.ref A.a_spoilt)
 f_is_places : Fun K "_law_is_places" "_law_is_places" s_is_places A.a_is_places A.d_is_places
 b_is_places : Binds K A.d_is_places ["_law_found", "_law_due"] []
 m_is_places : mg "_law_is_places" = some (.ref A.a_is_places)
 f_is_view : Fun K "_law_is_view" "_law_is_view" s_is_view A.a_is_view A.d_is_view
 b_is_view : Binds K A.d_is_view ["_law_found", "_law_heads", "_law_notes"] []
 m_is_view : mg "_law_is_view" = some (.ref A.a_is_view)
 f_under_base : Fun K "_law_under_base" "_law_under_base" s_under_base A.a_under_base A.d_under_base
 b_under_base : Binds K A.d_under_base ["_law_lines"] []
 m_under_base : mg "_law_under_base" = some (.ref A.a_under_base)
 z_all : mg "all" = none
 z_ValueError : mg "ValueError" = none
 z_len : mg "len" = none
 z_isinstance : mg "isinstance" = none
 z_list : mg "list" = none
 z_tuple : mg "tuple" = none
 z_int : mg "int" = none
 z_bool : mg "bool" = none
 z_str : mg "str" = none
 z_range : mg "range" = none
theorem bt_all : bootBuiltins "all" = some (.builtin "all") := by decide +kernel
theorem bt_ValueError : bootBuiltins "ValueError" = some (.type "ValueError") := by decide +kernel
theorem bt_len : bootBuiltins "len" = some (.builtin "len") := by decide +kernel
theorem bt_isinstance : bootBuiltins "isinstance" = some (.builtin "isinstance") := by decide +kernel
theorem bt_list : bootBuiltins "list" = some (.type "list") := by decide +kernel
theorem bt_tuple : bootBuiltins "tuple" = some (.type "tuple") := by decide +kernel
theorem bt_int : bootBuiltins "int" = some (.type "int") := by decide +kernel
theorem bt_bool : bootBuiltins "bool" = some (.type "bool") := by decide +kernel
theorem bt_str : bootBuiltins "str" = some (.type "str") := by decide +kernel
theorem nm_shown : Nms ["view", "lines", "note"] [true, true, true] (defScope s_shown) := ⟨by decide +kernel, by decide +kernel, by decide +kernel⟩
theorem sc_shown : FnScope ["view", "lines", "note"] ["view"] (defScope s_shown) := ⟨rfl, rfl, rfl, by decide +kernel, rfl, by decide +kernel, by decide +kernel⟩
theorem nm_written : Nms ["numbers", "number"] [true, false] (defScope s_written) := ⟨by decide +kernel, by decide +kernel, by decide +kernel⟩
theorem sc_written : FnScope ["numbers", "number"] ["numbers"] (defScope s_written) := ⟨rfl, rfl, rfl, by decide +kernel, rfl, by decide +kernel, by decide +kernel⟩
theorem nm_figures : Nms ["number"] [true] (defScope s_figures) := ⟨by decide +kernel, by decide +kernel, by decide +kernel⟩
theorem sc_figures : FnScope ["number"] ["number"] (defScope s_figures) := ⟨rfl, rfl, rfl, by decide +kernel, rfl, by decide +kernel, by decide +kernel⟩
theorem nm_read : Nms ["lines", "known", "hooks", "notes", "line", "parts"] [true, true, true, true, true, true] (defScope s_read) := ⟨by decide +kernel, by decide +kernel, by decide +kernel⟩
theorem sc_read : FnScope ["lines", "known", "hooks", "notes", "line", "parts"] ["lines"] (defScope s_read) := ⟨rfl, rfl, rfl, by decide +kernel, rfl, by decide +kernel, by decide +kernel⟩
theorem nm_known_figures : Nms ["count", "known", "number"] [true, true, true] (defScope s_known_figures) := ⟨by decide +kernel, by decide +kernel, by decide +kernel⟩
theorem sc_known_figures : FnScope ["count", "known", "number"] ["count"] (defScope s_known_figures) := ⟨rfl, rfl, rfl, by decide +kernel, rfl, by decide +kernel, by decide +kernel⟩
theorem nm_numbers_in : Nms ["parts", "known", "numbers", "part"] [true, true, true, true] (defScope s_numbers_in) := ⟨by decide +kernel, by decide +kernel, by decide +kernel⟩
theorem sc_numbers_in : FnScope ["parts", "known", "numbers", "part"] ["parts", "known"] (defScope s_numbers_in) := ⟨rfl, rfl, rfl, by decide +kernel, rfl, by decide +kernel, by decide +kernel⟩
theorem nm_word_in : Nms ["part", "sign"] [true, false] (defScope s_word_in) := ⟨by decide +kernel, by decide +kernel, by decide +kernel⟩
theorem sc_word_in : FnScope ["part", "sign"] ["part"] (defScope s_word_in) := ⟨rfl, rfl, rfl, by decide +kernel, rfl, by decide +kernel, by decide +kernel⟩
theorem nm_whole : Nms ["_law_found"] [true] (defScope s_whole) := ⟨by decide +kernel, by decide +kernel, by decide +kernel⟩
theorem sc_whole : FnScope ["_law_found"] ["_law_found"] (defScope s_whole) := ⟨rfl, rfl, rfl, by decide +kernel, rfl, by decide +kernel, by decide +kernel⟩
theorem nm_at : Nms ["_law_script", "_law_k"] [true, true] (defScope s_at) := ⟨by decide +kernel, by decide +kernel, by decide +kernel⟩
theorem sc_at : FnScope ["_law_script", "_law_k"] ["_law_script", "_law_k"] (defScope s_at) := ⟨rfl, rfl, rfl, by decide +kernel, rfl, by decide +kernel, by decide +kernel⟩
theorem nm_places_drawn : Nms ["_law_cell", "_law_size", "_law_row", "_law_j"] [true, true, true, true] (defScope s_places_drawn) := ⟨by decide +kernel, by decide +kernel, by decide +kernel⟩
theorem sc_places_drawn : FnScope ["_law_cell", "_law_size", "_law_row", "_law_j"] ["_law_cell", "_law_size"] (defScope s_places_drawn) := ⟨rfl, rfl, rfl, by decide +kernel, rfl, by decide +kernel, by decide +kernel⟩
theorem nm_line_of : Nms ["_law_row", "_law_parts", "_law_number"] [true, true, true] (defScope s_line_of) := ⟨by decide +kernel, by decide +kernel, by decide +kernel⟩
theorem sc_line_of : FnScope ["_law_row", "_law_parts", "_law_number"] ["_law_row"] (defScope s_line_of) := ⟨rfl, rfl, rfl, by decide +kernel, rfl, by decide +kernel, by decide +kernel⟩
theorem nm_word_drawn : Nms ["_law_cell", "_law_k", "_law_letters", "_law_word", "_law_j"] [true, true, true, true, true] (defScope s_word_drawn) := ⟨by decide +kernel, by decide +kernel, by decide +kernel⟩
theorem sc_word_drawn : FnScope ["_law_cell", "_law_k", "_law_letters", "_law_word", "_law_j"] ["_law_cell", "_law_k"] (defScope s_word_drawn) := ⟨rfl, rfl, rfl, by decide +kernel, rfl, by decide +kernel, by decide +kernel⟩
theorem nm_spoilt : Nms ["_law_lines", "_law_way", "_law_cell", "_law_size", "_law_heads", "_law_tails", "_law_spot", "_law_tail"] [true, true, true, true, true, true, true, true] (defScope s_spoilt) := ⟨by decide +kernel, by decide +kernel, by decide +kernel⟩
theorem sc_spoilt : FnScope ["_law_lines", "_law_way", "_law_cell", "_law_size", "_law_heads", "_law_tails", "_law_spot", "_law_tail"] ["_law_lines", "_law_way", "_law_cell"] (defScope s_spoilt) := ⟨rfl, rfl, rfl, by decide +kernel, rfl, by decide +kernel, by decide +kernel⟩
theorem nm_is_places : Nms ["_law_found", "_law_due", "_law_k"] [true, true, true] (defScope s_is_places) := ⟨by decide +kernel, by decide +kernel, by decide +kernel⟩
theorem sc_is_places : FnScope ["_law_found", "_law_due", "_law_k"] ["_law_found", "_law_due"] (defScope s_is_places) := ⟨rfl, rfl, rfl, by decide +kernel, rfl, by decide +kernel, by decide +kernel⟩
theorem nm_is_view : Nms ["_law_found", "_law_heads", "_law_notes", "_law_k", "_law_note"] [true, true, true, true, true] (defScope s_is_view) := ⟨by decide +kernel, by decide +kernel, by decide +kernel⟩
theorem sc_is_view : FnScope ["_law_found", "_law_heads", "_law_notes", "_law_k", "_law_note"] ["_law_found", "_law_heads", "_law_notes"] (defScope s_is_view) := ⟨rfl, rfl, rfl, by decide +kernel, rfl, by decide +kernel, by decide +kernel⟩
theorem lk_under_base_e : (defScope s_under_base).names.lookup ("e" : Str) = some .local := by decide +kernel
theorem nm_under_base : Nms ["_law_lines", "e", "_law_kinds"] [true, true, true] (defScope s_under_base) := ⟨by decide +kernel, by decide +kernel, by decide +kernel⟩
theorem sc_under_base : FnScope ["_law_lines", "e", "_law_kinds"] ["_law_lines"] (defScope s_under_base) := ⟨rfl, rfl, rfl, by decide +kernel, rfl, by decide +kernel, by decide +kernel⟩
theorem nm_law : Nms ["_law_script", "_law_cells", "_law_heads", "_law_notes", "_law_lines", "_law_k", "_law_found", "_law_way", "_law_handed", "_law_view", "_law_word", "_law_row", "_law_note", "_law_number"] [true, true, true, true, true, true, true, true, true, true, true, true, false, false] (defScope s_law) := ⟨by decide +kernel, by decide +kernel, by decide +kernel⟩
theorem sc_law : FnScope ["_law_script", "_law_cells", "_law_heads", "_law_notes", "_law_lines", "_law_k", "_law_found", "_law_way", "_law_handed", "_law_view", "_law_word", "_law_row", "_law_note", "_law_number"] ["_law_script"] (defScope s_law) := ⟨rfl, rfl, rfl, by decide +kernel, rfl, by decide +kernel, by decide +kernel⟩
end PW
namespace PW
open PySem L2 WM
def thV : Option Nat → V
 | none => .non
 | some n => .int n
def PegV (H : Hp) (v : V) : Option (Peg Str) → Prop
 | none => v = .non
 | some (.note w ts) => ∃ t u, v = .ref t ∧ H t = some (.tup [.str "note", .str w, .ref u]) ∧ H u = some (.tup (ts.map thV))
 | some (.mark m) => ∃ t, v = .ref t ∧ H t = some (.tup [.str "moved", .int m])
theorem PegV.mono {H H' : Hp} (s : ∀ b xs, H b = some (.tup xs) → H' b = some (.tup xs)) {v : V} : ∀ {pg : Option (Peg Str)}, PegV H v pg → PegV H' v pg
 | none, h => h
 | some (.note w ts), ⟨t, u, e, h1, h2⟩ => ⟨t, u, e, s _ _ h1, s _ _ h2⟩
 | some (.mark m), ⟨t, e, h1⟩ => ⟨t, e, s _ _ h1⟩
structure PegsAt (H : Hp) (P : List V) (ps : List (Option (Peg Str))) : Prop where
 len : P.length = ps.length
 at_ : ∀ (i : Nat) (v : V) (pg : Option (Peg Str)), P[i]? = some v → ps[i]? = some pg → PegV H v pg
theorem PegsAt.mono {H H' : Hp} {P : List V} {ps : List (Option (Peg Str))} (h : PegsAt H P ps) (s : ∀ b xs, H b = some (.tup xs) → H' b = some (.tup xs)) : PegsAt H' P ps := ⟨h.len, fun i v pg h1 h2 => (h.at_ i v pg h1 h2).mono s⟩
theorem PegsAt.set {H : Hp} {P : List V} {ps : List (Option (Peg Str))} (h : PegsAt H P ps) (n : Nat) {v : V} {pg : Option (Peg Str)} (hv : PegV H v pg) : PegsAt H (P.set n v) (ps.set n pg) := by
 refine ⟨by rw [List.length_set, List.length_set]; exact h.len, fun i u q h1 h2 => ?_⟩
 rw [List.getElem?_set] at h1 h2
 by_cases e : n = i
 · rw [if_pos e] at h1 h2
   split at h1
   · split at h2
     · cases h1; cases h2; exact hv
     · cases h2
   · cases h1
 · rw [if_neg e] at h1 h2
   exact h.at_ i u q h1 h2
theorem PegsAt.get {H : Hp} {P : List V} {ps : List (Option (Peg Str))} (h : PegsAt H P ps) {n : Nat} {pg : Option (Peg Str)} (e : ps[n]? = some pg) : ∃ v, P[n]? = some v ∧ PegV H v pg := by
 have hl : n < P.length := by rw [h.len]; exact (List.getElem?_eq_some_iff.mp e).1
 exact ⟨P[n], List.getElem?_eq_getElem hl, h.at_ n _ pg (List.getElem?_eq_getElem hl) e⟩
theorem small {n : Nat} (h : n ≤ 1000) : n ≤ sizeLine := Nat.le_of_lt (small1000 h)
theorem at0 (x : V) (r : List V) : atI (x :: r) 0 = some x := atI_nat (j := 0) rfl
theorem at1 (x y : V) (r : List V) : atI (x :: y :: r) 1 = some y := atI_nat (j := 1) rfl
theorem thV_some (n : Nat) : thV (some n) = .int n := rfl
theorem thV_no : thV none = .non := rfl
theorem atMap {t : Option Nat} {l : List (Option Nat)} {h : Nat} (e : l[h]? = some t) : atI (l.map thV) (h : Int) = some (thV t) := atI_nat (by rw [List.getElem?_map, e]; rfl)
theorem same_upd {H H' : Hp} {D : Addr} {o : HO} (h : Same H H') (hD : H D = none) : Same H (upd H' D o) := fun c u q => by rw [upd_ne (ne_of_none q hD)]; exact h c u q
def Keep (S : List Addr) (H H' : Hp) : Prop := ∀ c o, H c = some o → c ∉ S → H' c = some o
theorem Keep.refl (S : List Addr) (H : Hp) : Keep S H H := fun _ _ h _ => h
theorem Keep.of {S : List Addr} {H H' : Hp} (s : Same H H') : Keep S H H' := fun c o h _ => s c o h
theorem Keep.trans {S : List Addr} {H H1 H2 : Hp} (p : Keep S H H1) (q : Keep S H1 H2) : Keep S H H2 := fun c o h n => q c o (p c o h n) n
theorem Keep.mono {S S' : List Addr} {H H' : Hp} (k : Keep S H H') (h : ∀ c ∈ S, c ∈ S') : Keep S' H H' := fun c o hc n => k c o hc fun z => n (h c z)
def spLaw (K : PySem.W.Frag) : Sp := fun vs H Q _ => ∃ (a : Addr) (ns : List Int), vs = [.ref a] ∧ Scr K H a (ns.map V.int) ∧ ns.length ≤ 63 ∧ ∀ H', Q (.bl true) H'
theorem modN (z m : Int) (h : 0 < m) : ∃ k : Nat, z % m = (k : Int) ∧ (k : Int) < m :=
 ⟨(z % m).toNat, by rw [Int.toNat_of_nonneg (Int.emod_nonneg z (by omega))], by rw [Int.toNat_of_nonneg (Int.emod_nonneg z (by omega))]; exact Int.emod_lt_of_pos z h⟩
theorem _root_.L2.Scr.to {K : PySem.W.Frag} {H H' : Hp} {a : Addr} {L : List V} (h : Scr K H a L) (k : ∀ ob xs, H a = some (.frz ob (.lst xs)) → H' a = some (.frz ob (.lst xs))) : Scr K H' a L := by
 rcases h with ⟨o, h⟩ | h
 · exact .inl ⟨o, k _ _ h⟩
 · exact .inr h
theorem cmul (n : Int) : CMul n 48271 := .inr ⟨by decide, by decide⟩
end PW
namespace PW
open PySem L2
theorem ifT {tt : TT} {a b : TS} {D : Ends} {σ : St} {H : Hp} (ht : ∀ R : Bool → Hp → Prop, R true H → tt σ H R) (k : a D σ H) : tIfS tt a b D σ H := ht _ (by
 show if true = true then _ else _
 rw [if_pos rfl]; exact k)
theorem ifF {tt : TT} {a b : TS} {D : Ends} {σ : St} {H : Hp} (ht : ∀ R : Bool → Hp → Prop, R false H → tt σ H R) (k : b D σ H) : tIfS tt a b D σ H := ht _ (by
 show if false = true then _ else _
 rw [if_neg Bool.false_ne_true]; exact k)
end PW
namespace PW
open PySem L2 WM TM
theorem not_eq_of {a b : Addr} {H : Hp} {o : HO} (h : H a = some o) (h' : H b = none) : a ≠ b := fun z => by rw [z, h'] at h; cases h
theorem nof {H G : Hp} {e : Addr} (s : Same H G) (h : G e = none) : H e = none := by
 cases z : H e with
 | none => rfl
 | some o => rw [s _ _ z] at h; cases h
theorem lg {n : Nat} (h : n ≤ 1000) : (Int.natAbs (n : Int)).log2 < 1920 := by
 have : (Int.natAbs (n : Int)).log2 ≤ Int.natAbs (n : Int) := Nat.log2_le_self _
 omega
def spFig : Sp := fun vs H Q _ => ∃ t : Option Nat, vs = [thV t] ∧ (∀ m, t = some m → m ≤ 1000) ∧ Q (.str (fg t)) H
def spWritten : Sp := fun vs H Q _ => ∃ (l : Addr) (ts : List (Option Nat)), vs = [.ref l] ∧ H l = some (.lst (ts.map thV)) ∧ (∀ t ∈ ts, ∀ m, t = some m → m ≤ 1000) ∧ ts.length ≤ 1000 ∧ ∀ H' r, H' r = some (.lst ((ts.map fg).map V.str)) → Same H H' → H r = none → Q (.ref r) H'
section
variable {P : Program} {w : World} {K : PySem.W.Frag} {mg : Str → Option Value} {base : Heap} {A : Adr}
theorem ok_figures (T : Txt K mg A) : FnOk P w K mg base (CXe P w) 1 A.a_figures A.d_figures ["number"] spFig := by
 refine T.f_figures.okN sc_figures (fun vs H Q E h => ?_) (fun cdv B outer s H vs Q E hr h => ?_)
 · obtain ⟨t, rfl, _⟩ := h
   rfl
 obtain ⟨t, rfl, ht, q⟩ := h
 refine ⟨_, (pss_cons (ps_if (pt_cmpR op_is_f (pvn nm_figures rfl rfl 0 rfl rfl) pe_non (nomark _)) (pss_one (ps_ret pe_str)) pss_nil)
  (pss_one (ps_ret (pe_callTy call_str_int rfl T.z_str bt_str (pa_cons (pvn nm_figures rfl rfl 0 rfl rfl) pa_nil))))), ?_⟩
 show tSeq _ _ _ [some (thV t)] H
 cases t with
 | none =>
  exists 1, thV_no
  exact q
 | some n =>
  exists 1, thV_some
  exact ⟨lg (ht n rfl), q⟩
theorem ok_written (T : Txt K mg A) : FnOk P w K mg base (CXe P w) 2 A.a_written A.d_written ["numbers"] spWritten := by
 refine T.f_written.okN sc_written (fun vs H Q E h => ?_) (fun cdv B outer s H vs Q E hr h => ?_)
 · obtain ⟨l, ts, rfl, _⟩ := h
   rfl
 obtain ⟨l, ts, rfl, hl, hm, hz, q⟩ := h
 have hu := hu_of hr
 have nd := sc_written.nd
 refine ⟨_, (pss_one (ps_ret (pe_comp (i := 1) (CompScope.mk' (fsc := defScope s_written) (cl := []) (clN := []) (N := ["numbers", "number"]) rfl rfl (sub_of sub_nil) rfl rfl (by decide +kernel)) nd rfl rfl (pi_seq (pvn nm_written rfl rfl 0 rfl rfl)) (fun _ _ _ _ _ => pts_nil) (fun _ _ _ _ _ => (pe_call (ok_figures T) (hr.mono (by decide)) rfl T.m_figures T.f_figures.kp T.b_figures .nil passN (pa_cons (pv 1) pa_nil)))))), ?_⟩
 show tRet _ _ [some (.ref l), none] H
 exists 1, L2.ap_seq
 refine comp_seq (xs := ts.map thV) (by rw [hl]; rfl) fun D hD => ?_
 refine ⟨fun j ys H' => H' D = some (.lst ys) ∧ Same H H' ∧ ys = ((ts.take j).map fg).map V.str, ?_, ?_, ?_, ?_⟩
 · generalize e : upd H D _ = H2
   exact ⟨new_at e, new_same hD e, by simp⟩
 · rintro j ys H' hj ⟨h1, h2, h3⟩
   exact ⟨h1, by rw [h2 _ _ hl, hl]⟩
 · rintro j v ys H' N hN hv ⟨h1, h2, h3⟩
   rw [List.getElem?_map] at hv
   cases et : ts[j]? with
   | none => rw [et] at hv; cases hv
   | some t =>
    rw [et] at hv; cases hv
    have hy : ys.length < sizeLine := small1000 (by rw [h3, List.length_map, List.length_map, List.length_take]; omega)
    exists 1, L2.ap_seq
    refine ⟨t, rfl, hm t (List.mem_of_getElem? et), ?_⟩
    refine ⟨h1, hy, hN _ _ ⟨new_at rfl, same_upd h2 hD, ?_⟩⟩
    rw [h3, List.take_succ, et]
    simp
 · rintro ys H' ⟨h1, h2, h3⟩
   rw [List.length_map, List.take_length] at h3
   rw [h3] at h1
   exact q H' D h1 h2 hD
end
def KD (kvs : List (Key × V)) (n : Nat) : Prop := kvs.length ≤ n + 1 ∧ (∀ t, (∀ m, t = some m → m < n) → valV kvs (Sum.inr (fg t)) = some (thV t)) ∧ ∀ p, ¬ Known n p → valV kvs (Sum.inr p) = none
theorem kd_zero : KD [(Sum.inr "-", V.non)] 0 := by
 refine ⟨Nat.le_refl _, fun t ht => ?_, fun p hp => ?_⟩
 · cases t with
   | none => exact valV_pos rfl
   | some m => exact absurd (ht m rfl) (Nat.not_lt_zero _)
 · rw [valV_neg (fun z => hp ⟨none, (Sum.inr.inj z).symm, fun m z => nomatch z⟩)]; rfl
theorem kd_succ {kvs : List (Key × V)} {n : Nat} (h : KD kvs n) : KD (putK kvs (Sum.inr (figs n)) (.int (n : Nat))) (n + 1) := by
 obtain ⟨h1, h2, h3⟩ := h
 refine ⟨Nat.le_trans (length_putK _ _ _) (Nat.succ_le_succ h1), fun t ht => ?_, fun p hp => ?_⟩
 · rw [valV_put]
   by_cases e : (Sum.inr (fg t) : Key) = Sum.inr (figs n)
   · rw [if_pos e]
     have e' : fg t = fg (some n) := Sum.inr.inj e
     rw [fg_inj e']; rfl
   · rw [if_neg e]
     refine h2 t fun m hm => ?_
     have := ht m hm
     have ne : m ≠ n := fun z => e (by rw [hm, z]; rfl)
     omega
 · have ne : ¬ (Sum.inr p : Key) = Sum.inr (figs n) := fun z => hp ⟨some n, Sum.inr.inj z, fun m hm => by cases hm; exact Nat.lt_succ_self n⟩
   rw [valV_put, if_neg ne]
   exact h3 p fun ⟨t, e, ht⟩ => hp ⟨t, e, fun m hm => Nat.lt_succ_of_lt (ht m hm)⟩
def spKnown : Sp := fun vs H Q _ => ∃ n : Nat, vs = [.int n] ∧ n ≤ 500 ∧ ∀ H' d kvs, H' d = some (.dK kvs) → KD kvs n → Same H H' → H d = none → Q (.ref d) H'
def spNums (cN : Addr) : Sp := fun vs H Q E => ∃ (l d : Addr) (ps : List Str) (kvs : List (Key × V)) (n : Nat), vs = [.ref l, .ref d] ∧ H l = some (.lst (ps.map V.str)) ∧ H d = some (.dK kvs) ∧ KD kvs n ∧ ps.length ≤ 1000 ∧
 ((∃ ts, ps = ts.map fg ∧ Nums n ts ∧ ∀ H' r, H' r = some (.lst (ts.map thV)) → Same H H' → H r = none → Q (.ref r) H') ∨ ((∃ p ∈ ps, ¬ Known n p) ∧ ∀ H', Same H H' → E (.ref cN) none H'))
def spWordIn (cN : Addr) : Sp := fun vs H Q E => ∃ p : Str, vs = [.str p] ∧ p.cps.all (· < 128) = true ∧ p.length ≤ 1000 ∧ ((Word p ∧ ∀ H', Same H H' → Q (.str p) H') ∨ (¬ Word p ∧ ∀ H', Same H H' → E (.ref cN) none H'))
theorem map_fg_inj : ∀ {a b : List (Option Nat)}, a.map fg = b.map fg → a = b
 | [], [], _ => rfl
 | [], _ :: _, h => by cases h
 | _ :: _, [], h => by cases h
 | x :: a, y :: b, h => by
  rw [List.map_cons, List.map_cons] at h
  injection h with h1 h2
  rw [fg_inj h1, map_fg_inj h2]
theorem letter : ∀ c, c < 128 → (!(Builtin.Str.occurrences "abcdefghijklmnopqrstuvwxyz" ⟨#[c]⟩ 0 ("abcdefghijklmnopqrstuvwxyz" : Str).length 1).isEmpty) = decide (97 ≤ c ∧ c ≤ 122) := by decide +kernel
section
variable {P : Program} {w : World} {K : PySem.W.Frag} {mg : Str → Option Value} {base : Heap} {A : Adr}
theorem ok_known_figures (T : Txt K mg A) : FnOk P w K mg base (CXe P w) 2 A.a_known_figures A.d_known_figures ["count"] spKnown := by
 refine T.f_known_figures.okN sc_known_figures (fun vs H Q E h => ?_) (fun cdv B outer s H vs Q E hr h => ?_)
 · obtain ⟨n, rfl, _⟩ := h
   rfl
 obtain ⟨n, rfl, hn, q⟩ := h
 have hu := hu_of hr
 have nd := sc_known_figures.nd
 refine ⟨_, (pss_cons (ps_set (i := 1) nd rfl (nm_known_figures.at rfl (i := 1) rfl rfl) (pe_disp (pps_cons pe_str pe_non pps_nil) rfl rfl (fun z => nomatch z) (by decide)))
  (pss_cons (ps_for PassesOwn.never rfl (pi_range1 rfl T.z_range (pa_cons (pvn nm_known_figures rfl rfl 0 rfl rfl) pa_nil)) (pg_name (i := 2) nd rfl (nm_known_figures.at rfl (i := 2) rfl rfl)) (pss_one (ps_asg (pvn nm_known_figures rfl rfl 2 rfl rfl) (pg_sub (pvn nm_known_figures rfl rfl 1 rfl rfl) (pe_call (ok_figures T) (hr.mono (by decide)) rfl T.m_figures T.f_figures.kp T.b_figures .nil passN (pa_cons (pvn nm_known_figures rfl rfl 2 rfl rfl) pa_nil)) (set_f hu)))))
  (pss_one (ps_ret (pvn nm_known_figures rfl rfl 1 rfl rfl))))), ?_⟩
 show tSeq _ _ _ [some (.int n), none, none] H
 refine step1 fun D1 n1 r1 _ _ => ?_
 exists 1, tDisp, tPairs
 intro d fd
 generalize e0 : upd H d _ = H0
 refine ⟨new_at e0, [(Sum.inr "-", .non)], rfl, by decide, ?_⟩
 generalize e1 : upd H0 d _ = H1
 have i1 : H1 d = some (.dK [(Sum.inr "-", .non)]) := new_at e1
 have s1 : Same H H1 := fun c o h => by rw [wr_ne e1 (not_eq_of h fd), wr_ne e0 (not_eq_of h fd)]; exact h
 refine n1 _ _ ?_
 refine step1 fun D2 n2 r2 _ _ => ?_
 exists 1, L2.ap_seq
 refine ⟨by omega, by omega, ?_⟩
 rw [Int.toNat_natCast]
 obtain ⟨Pv, hPv⟩ : ∃ Pv : Nat → St → Hp → Prop, Pv = fun i σ G => ∃ (kvs : List (Key × V)) (k2 : Option V), σ = [some (.int n), some (.ref d), k2] ∧ G d = some (.dK kvs) ∧ KD kvs i ∧ Same H G := ⟨_, rfl⟩
 refine forW_range Pv ?_ (fun i σ G hi hI => ?_) (fun σ G hI => ?_)
 · rw [hPv]; exact ⟨_, _, rfl, i1, kd_zero, s1⟩
 · rw [hPv] at hI
   obtain ⟨kvs, k2, rfl, gd, kd, sG⟩ := hI
   rw [show ((0 : Int) + (i : Int)) = (i : Int) by omega, ap_gName]
   exists 1, L2.ap_seq
   refine ⟨some i, rfl, (fun m hm => by cases hm; omega), ?_⟩
   exists 1, gd, w_set_dks
   refine ⟨small1000 (by have := kd.1; omega), ?_⟩
   generalize e2 : upd G d _ = G2
   show Pv _ _ _
   rw [hPv]
   exact ⟨_, _, rfl, new_at e2, kd_succ kd, fun c o h => by rw [wr_ne e2 (not_eq_of h fd)]; exact sG c o h⟩
 · rw [hPv] at hI
   obtain ⟨kvs, k2, rfl, gd, kd, sG⟩ := hI
   refine n2 _ _ ?_
   exists 1, L2.ap_seq
   exact q G d kvs gd kd sG fd
theorem ok_numbers_in (T : Txt K mg A) : FnOk P w K mg base (CXe P w) 2 A.a_numbers_in A.d_numbers_in ["parts", "known"] (spNums A.c_NoView) := by
 refine T.f_numbers_in.okE sc_numbers_in (fun vs H Q E h => ?_) (fun cdv B outer s H vs Q E hr h => ?_)
 · obtain ⟨l, d, ps, kvs, n, rfl, _⟩ := h
   rfl
 obtain ⟨l, d, ps, kvs, n, rfl, hl, hd, kd, hz, q⟩ := h
 have hu := hu_of hr
 have nd := sc_numbers_in.nd
 refine ⟨_, (pss_cons (ps_set (i := 2) nd rfl (nm_numbers_in.at rfl (i := 2) rfl rfl) (pe_lst pa_nil))
  (pss_cons (ps_for PassesOwn.leaving rfl (pi_seq (pvn nm_numbers_in rfl rfl 0 rfl rfl)) (pg_name (i := 3) nd rfl (nm_numbers_in.at rfl (i := 3) rfl rfl)) (pss_cons (ps_if (pt_cmpR (op_notin_f hu) (pvn nm_numbers_in rfl rfl 3 rfl rfl) (pvn nm_numbers_in rfl rfl 1 rfl rfl) (by with_unfolding_all rfl)) (pss_one (ps_raise rfl T.m_NoView T.x_NoView rfl raiseE (pa_cons pe_str pa_nil))) pss_nil)
   (pss_one (ps_expr (pe_append (pvn nm_numbers_in rfl rfl 2 rfl rfl) (pe_idx hu (pvn nm_numbers_in rfl rfl 1 rfl rfl) (pvn nm_numbers_in rfl rfl 3 rfl rfl) (fun _ _ => rfl)))))))
  (pss_one (ps_ret (pvn nm_numbers_in rfl rfl 2 rfl rfl))))), ?_⟩
 show tSeq _ _ _ [some (.ref l), some (.ref d), none, none] H
 refine step1 fun D1 n1 r1 _ _ => ?_
 exists 1, L2.ap_seq
 intro r fr; generalize e_H1 : upd H r _ = H1; have i1 := new_at e_H1; have s1 := new_same fr e_H1
 refine n1 _ _ ?_
 refine step1 fun D2 n2 r2 _ _ => ?_
 exists 1, L2.ap_seq
 have hl1 := s1 _ _ hl
 obtain ⟨Pv, hPv⟩ : ∃ Pv : Nat → St → Hp → Prop, Pv = fun i σ G => ∃ (ts : List (Option Nat)) (k3 : Option V), σ = [some (.ref l), some (.ref d), some (.ref r), k3] ∧ ps.take i = ts.map fg ∧ Nums n ts ∧ G r = some (.lst (ts.map thV)) ∧ Same H G := ⟨_, rfl⟩
 refine forS_seq (xs := ps.map V.str) (by rw [hl1]; rfl) Pv ?_ (fun i σ G _ hI => ?_) (fun i v σ G hv hI => ?_) (fun σ G hI => ?_)
 · rw [hPv]; exact ⟨[], _, rfl, rfl, (fun t ht => nomatch ht), i1, s1⟩
 · rw [hPv] at hI
   obtain ⟨ts, k3, rfl, _, _, _, sG⟩ := hI
   rw [sG _ _ hl, hl1]
 · rw [hPv] at hI
   obtain ⟨ts, k3, rfl, et, nt, gr, sG⟩ := hI
   rw [List.getElem?_map] at hv
   cases ep : ps[i]? with
   | none => rw [ep] at hv; cases hv
   | some p =>
    rw [ep] at hv; cases hv
    rw [ap_gName]
    have gd := sG _ _ hd
    have kp : keyV (.str p) = some (Sum.inr p) := rfl
    by_cases hk : Known n p
    · obtain ⟨t, rfl, ht⟩ := hk
      have hv := kd.2.1 t ht
      refine stepF (fun R hR => by exists 1, gd, w_notin_dks, hv, Option.isSome_some; exact hR) ?_
      exists 1, gr, gd, hv
      have ltk : ts.length < sizeLine := small1000 (by
       have := congrArg List.length et
       rw [List.length_map, List.length_take] at this
       omega)
      refine ⟨ltk, ?_⟩
      generalize e2 : upd G r _ = G2
      show Pv _ _ _
      rw [hPv]
      refine ⟨ts ++ [t], _, rfl, by rw [List.take_succ, ep, et, List.map_append]; rfl, fun t' h' => ?_, by rw [new_at e2, List.map_append]; rfl, fun c o h => by rw [wr_ne e2 (not_eq_of h fr)]; exact sG c o h⟩
      rcases List.mem_append.mp h' with y | y
      · exact nt t' y
      · rw [List.mem_singleton.mp y]; exact ht
    · have hv := kd.2.2 p hk
      refine stepT (fun R hR => by exists 1, gd, w_notin_dks, hv, Option.isSome_none; exact hR) fun D3 n3 r3 _ _ => ?_
      rcases q with ⟨ts0, e0, nt0, _⟩ | ⟨_, q⟩
      · rw [e0] at ep
        obtain ⟨t, ht, rfl⟩ := List.mem_map.mp (List.mem_of_getElem? ep)
        exact absurd ⟨t, rfl, nt0 t ht⟩ hk
      · exact ⟨small (Nat.le_of_ble_eq_true rfl), q G sG⟩
 · rw [hPv] at hI
   obtain ⟨ts, k3, rfl, et, nt, gr, sG⟩ := hI
   refine n2 _ _ ?_
   rw [List.length_map, List.take_length] at et
   exists 1, L2.ap_seq
   rcases q with ⟨ts0, e0, _, q⟩ | ⟨⟨p, hp, nk⟩, _⟩
   · rw [e0] at et
     rw [← map_fg_inj et] at gr
     exact q G r gr sG fr
   · rw [et] at hp
     obtain ⟨t, ht, rfl⟩ := List.mem_map.mp hp
     exact absurd ⟨t, rfl, nt t ht⟩ nk
theorem comp_of_txt {i j : Nat} {tt : TT} {te : TE} {σ : St} {H : Hp} {Q : VK} {p : Str} (hσ : σ[j]? = some (some (.str p))) (ha : p.cps.all (· < 128) = true) (h : ∀ D, H D = none → tCompAt i tt te D (Its p) σ H (Q (.ref D))) : tComp i (iTxt (tVar j)) tt te σ H Q := by
 unfold tComp iTxt tVar
 exact ⟨_, hσ, p, rfl, ha, h⟩
theorem ok_word_in (T : Txt K mg A) : FnOk P w K mg base (CXe P w) 2 A.a_word_in A.d_word_in ["part"] (spWordIn A.c_NoView) := by
 refine T.f_word_in.okE sc_word_in (fun vs H Q E h => ?_) (fun cdv B outer s H vs Q E hr h => ?_)
 · obtain ⟨p, rfl, _⟩ := h
   rfl
 obtain ⟨p, rfl, ha, hz, q⟩ := h
 have hu := hu_of hr
 have hq : _ + 1 + 0 < cLine := hu_of hr
 have nd := sc_word_in.nd
 refine ⟨_, (pss_cons (ps_if (PW.pt (pw_or (pt_cmpR (op_eq_f hq) (pvn nm_word_in rfl rfl 0 rfl rfl) pe_str (nomark _)) (pw_or1 (pt_not (pt_val (pe_callB (call_all_f rfl) rfl T.z_all bt_all (pa_cons (pe_comp (i := 1) (CompScope.mk' (fsc := defScope s_word_in) (cl := []) (clN := []) (N := ["part", "sign"]) rfl rfl (sub_of sub_nil) rfl rfl (by decide +kernel)) nd rfl rfl (pi_txt (pvn nm_word_in rfl rfl 0 rfl rfl)) (fun _ _ _ _ _ => pts_nil) (fun _ _ _ _ _ => (pe_cmpR op_in_str (pv 1) (pe_glob (v := .str "abcdefghijklmnopqrstuvwxyz") rfl T.m_LETTERS T.r_LETTERS) (by with_unfolding_all rfl)))) pa_nil))))))) (pss_one (ps_raise rfl T.m_NoView T.x_NoView rfl raiseE (pa_cons pe_str pa_nil))) pss_nil)
  (pss_one (ps_ret (pvn nm_word_in rfl rfl 0 rfl rfl)))), ?_⟩
 show tSeq _ _ _ [some (.str p), none] H
 by_cases e0 : p = ""
 · rcases q with ⟨h, _⟩ | ⟨_, q⟩
   · exact absurd e0 h.1
   · refine stepT (fun R hR => by exists 1, e0; exact hR) fun D1 n1 r1 _ _ => ?_
     exact ⟨small (Nat.le_of_ble_eq_true rfl), q H fun _ _ h => h⟩
 · have hb : ∀ (R : VK), (∀ D H1, Same H H1 → H1 D = some (.lst ((p.cps.toList.map fun c => decide (97 ≤ c ∧ c ≤ 122)).map V.bl)) → R (.ref D) H1) →
    tComp 1 (iTxt (tVar 0)) tTrue (tOp (fun x y H Q => ∃ i, x = V.str i ∧ ∃ x, y = V.str x ∧ Q (V.bl !(Builtin.Str.occurrences x i 0 x.length 1).isEmpty) H) (tVar 1) (tC (V.str "abcdefghijklmnopqrstuvwxyz"))) [some (V.str p), none] H R := fun R hR => by
    refine comp_of_txt (p := p) rfl ha fun D hD => ?_
    refine comp_txt (fun j ys H' => H' D = some (.lst ys) ∧ Same H H' ∧ ys = ((p.cps.toList.take j).map fun c => decide (97 ≤ c ∧ c ≤ 122)).map V.bl) ?_ (fun j ys H' _ h => h.1) (fun j c ys H' N hN hc h => ?_) (fun ys H' h => ?_)
    · generalize e : upd H D _ = H2
      exact ⟨new_at e, new_same hD e, by simp⟩
    · obtain ⟨h1, h2, h3⟩ := h
      have hc' : p.cps.toList[j]? = some c := by simpa using hc
      have lc : c < 128 := by
       have := Array.all_eq_true_iff_forall_mem.mp ha c (Array.mem_of_getElem? hc)
       simpa using this
      have pl : p.cps.toList.length = p.length := by simp [Str.length]
      have hy : ys.length < sizeLine := small1000 (by rw [h3, List.length_map, List.length_map, List.length_take]; omega)
      exists 1, letter c lc
      refine ⟨h1, hy, hN _ _ ⟨new_at rfl, same_upd h2 hD, ?_⟩⟩
      rw [h3, List.take_succ, hc']
      simp
    · obtain ⟨h1, h2, h3⟩ := h
      rw [List.take_of_length_le (by simp)] at h3
      rw [h3] at h1
      exact hR D H' h2 h1
   have ew : ((p.cps.toList.map fun c => decide (97 ≤ c ∧ c ≤ 122)).all id) = true ↔ Word p := by
    rw [List.all_eq_true]
    constructor
    · intro h
      exact ⟨e0, fun c hc => by simpa using h _ (List.mem_map.mpr ⟨c, hc, rfl⟩)⟩
    · rintro ⟨_, h⟩ x hx
      obtain ⟨c, hc, rfl⟩ := List.mem_map.mp hx
      simpa using h c hc
   rcases q with ⟨hw, q⟩ | ⟨hw, q⟩
   · have ea := ew.mpr hw
     refine stepFs (fun R hR => by
      exists 1, e0
      refine hb _ fun D H1 s1 h1 => ?_
      refine ⟨D, _, rfl, h1, _, rfl, ?_⟩
      rw [ea]
      exact hR H1 s1) fun H1 s1 => ?_
     exists 1, L2.ap_seq
     exact q H1 s1
   · have ea : ((p.cps.toList.map fun c => decide (97 ≤ c ∧ c ≤ 122)).all id) = false := by
      cases h : ((p.cps.toList.map fun c => decide (97 ≤ c ∧ c ≤ 122)).all id) with
      | false => rfl
      | true => exact absurd (ew.mp h) hw
     refine stepTs (fun R hR => by
      exists 1, e0
      refine hb _ fun D H1 s1 h1 => ?_
      refine ⟨D, _, rfl, h1, _, rfl, ?_⟩
      rw [ea]
      exact hR H1 s1) fun D1 H1 s1 n1 r1 _ _ => ?_
     exact ⟨small (Nat.le_of_ble_eq_true rfl), q H1 s1⟩
end
end PW
namespace PW
open PySem L2 WM
def RowsN (G : Hp) (nl : Addr) (N : List V) (notes : Notes Str) : Prop := N.length = notes.length ∧ ∀ (i : Nat) (v : V) (p : Str × List (Option Nat)), N[i]? = some v → notes[i]? = some p → ∃ t l, v = .ref t ∧ G t = some (.tup [.str p.1, .ref l]) ∧ G l = some (.lst (p.2.map thV)) ∧ l ≠ nl
theorem RowsN.snoc {G : Hp} {nl : Addr} {N : List V} {notes : Notes Str} (h : RowsN G nl N notes) {t l : Addr} {wd : Str} {ts : List (Option Nat)} (g1 : G t = some (.tup [.str wd, .ref l])) (g2 : G l = some (.lst (ts.map thV))) (g3 : l ≠ nl) : RowsN G nl (N ++ [.ref t]) (notes ++ [(wd, ts)]) := by
 refine ⟨by simp [h.1], fun i v p a b => ?_⟩
 by_cases hi : i < notes.length
 · rw [List.getElem?_append_left (by rw [h.1]; exact hi)] at a
   rw [List.getElem?_append_left hi] at b
   exact h.2 i v p a b
 · rw [List.getElem?_append_right (by rw [h.1]; omega)] at a
   rw [List.getElem?_append_right (by omega)] at b
   have := getElem?_ne_none_lt b
   have e0 : i - notes.length = 0 := by simp at this; omega
   rw [h.1, e0] at a
   rw [e0] at b
   cases a; cases b
   exact ⟨t, l, rfl, g1, g2, g3⟩
theorem RowsN.keep {G G' : Hp} {nl : Addr} {N : List V} {notes : Notes Str} (h : RowsN G nl N notes) (k : ∀ c o, G c = some o → c ≠ nl → G' c = some o) (hn : ∃ xs, G nl = some (.lst xs)) : RowsN G' nl N notes :=
 ⟨h.1, fun i v p a b => by
  obtain ⟨t, l, e1, e2, e3, e4⟩ := h.2 i v p a b
  obtain ⟨xs, hn⟩ := hn
  exact ⟨t, l, e1, k _ _ e2 (ne_of e2 hn (by intro z; cases z)), k _ _ e3 e4, e4⟩⟩
end PW
namespace PW
open PySem L2 WM TM
def Asc (p : Str) : Prop := p.cps.all (· < 128) = true ∧ p.length ≤ 900
def GoodLs (ls : List Str) (heads : List (Option Nat)) (notes : Notes Str) : Prop := ∃ l0 lt, ls = l0 :: lt ∧ HeadGood lt.length l0 heads ∧ lt.length = notes.length ∧ ∀ (i : Nat) (l : Str) (p : Str × List (Option Nat)), lt[i]? = some l → notes[i]? = some p → LineGood lt.length l p
def BadLs (ls : List Str) : Prop := ls = [] ∨ ∃ l0 lt, ls = l0 :: lt ∧ (HeadBad lt.length l0 ∨ ((∃ ts, HeadGood lt.length l0 ts) ∧ ∃ (j : Nat) (l : Str), lt[j]? = some l ∧ LineBad lt.length l ∧ ∀ (i : Nat) (l' : Str), i < j → lt[i]? = some l' → ∃ p, LineGood lt.length l' p))
theorem cut_from (xs : List V) (k : Nat) : cutV xs (some (k : Int)) none = xs.drop k := by
 unfold cutV
 rw [HT.sIx_nat, show HT.sIx xs.length xs.length none = xs.length from rfl]
 by_cases h : k ≤ xs.length
 · rw [Nat.min_eq_left h, List.take_of_length_le (by rw [List.length_drop]; omega)]
 · rw [Nat.min_eq_right (by omega), List.drop_of_length_le (Nat.le_refl _), List.drop_of_length_le (by omega)]; simp
theorem cut_to (xs : List V) (k : Nat) : cutV xs none (some (k : Int)) = xs.take k := by
 unfold cutV
 rw [HT.sIx_nat, show HT.sIx xs.length 0 none = 0 from rfl, List.drop_zero, Nat.sub_zero]
 by_cases h : k ≤ xs.length
 · rw [Nat.min_eq_left h]
 · rw [Nat.min_eq_right (by omega), List.take_of_length_le (Nat.le_refl _), List.take_of_length_le (by omega)]
theorem cut_1 (xs : List V) : cutV xs (some 1) none = xs.drop 1 := cut_from xs 1
theorem split_size {l : Str} (h : Asc l) : l.length + 2 ≤ sizeLine := small (by have := h.2; omega)
theorem split_few {l : Str} (h : Asc l) : (Txt.split l " ").length ≤ 1000 := by
 have := PyProof.Rows.split_le l " "
 have := h.2
 omega
theorem split_cons (l : Str) : ∃ w ps, Txt.split l " " = w :: ps := by
 have := PyProof.Rows.split_pos l " "
 cases e : Txt.split l " " with
 | nil => rw [e] at this; exact absurd this (by decide)
 | cons w ps => exact ⟨w, ps, rfl⟩
theorem join_has : ∀ {ps : List Str} {p : Str}, p ∈ ps → (∀ c ∈ p.cps.toList, c ∈ (Str.join ⟨#[32]⟩ ps).cps.toList) ∧ p.cps.toList.length ≤ (Str.join ⟨#[32]⟩ ps).cps.toList.length
 | [], _, h => nomatch h
 | [q], p, h => by
  rw [List.mem_singleton.mp h]
  exact ⟨fun c hc => hc, Nat.le_refl _⟩
 | q :: q' :: r, p, h => by
  rw [join_codes]
  rcases List.mem_cons.mp h with rfl | y
  · exact ⟨fun c hc => List.mem_append_left _ hc, by rw [List.length_append]; omega⟩
  · obtain ⟨h1, h2⟩ := join_has y
    exact ⟨fun c hc => List.mem_append_right _ (List.mem_cons_of_mem _ (h1 c hc)), by rw [List.length_append, List.length_cons]; omega⟩
theorem split_asc {l p : Str} (h : Asc l) (hp : p ∈ Txt.split l " ") : Asc p := by
 obtain ⟨h1, h2⟩ := join_has hp
 have e : Str.join ⟨#[32]⟩ (Txt.split l " ") = l := by rw [← blank]; exact PySem.StrLaws.join_split l " "
 rw [e] at h1 h2
 refine ⟨?_, ?_⟩
 · rw [Array.all_eq_true_iff_forall_mem]
   intro c hc
   exact Array.all_eq_true_iff_forall_mem.mp h.1 c (Array.mem_toList_iff.mp (h1 c (Array.mem_toList_iff.mpr hc)))
 · have := h.2
   have e1 : p.length = p.cps.toList.length := by simp [Str.length]
   have e2 : l.length = l.cps.toList.length := by simp [Str.length]
   omega
theorem good_bad {n : Nat} {l : Str} {p : Str × List (Option Nat)} (g : LineGood n l p) (b : LineBad n l) : False := by
 obtain ⟨e, hw, hn⟩ := g
 obtain ⟨w, ps, e', hb⟩ := b
 rw [e] at e'
 injection e' with e1 e2
 rcases hb with hb | ⟨q, hq, hk⟩
 · exact hb (by rw [← e1]; exact hw)
 · rw [← e2] at hq
   obtain ⟨t, ht, rfl⟩ := List.mem_map.mp hq
   exact hk ⟨t, rfl, hn t ht⟩
theorem good_one {n : Nat} {l : Str} {p p' : Str × List (Option Nat)} (g : LineGood n l p) (g' : LineGood n l p') : p = p' := by
 obtain ⟨e, _⟩ := g
 obtain ⟨e', _⟩ := g'
 rw [e] at e'
 injection e' with e1 e2
 exact Prod.ext e1 (map_fg_inj e2)
theorem head_one {n : Nat} {l : Str} {a b : List (Option Nat)} (g : HeadGood n l a) (g' : HeadGood n l b) : a = b := by
 rcases g with ⟨z, rfl⟩ | ⟨z, e, _⟩ <;> rcases g' with ⟨z', rfl⟩ | ⟨z', e', _⟩
 · rfl
 · exact absurd z z'
 · exact absurd z' z
 · rw [e] at e'; exact map_fg_inj e'
theorem head_bad {n : Nat} {l : Str} {a : List (Option Nat)} (g : HeadGood n l a) (b : HeadBad n l) : False := by
 obtain ⟨z', p, hp, hk⟩ := b
 rcases g with ⟨z, rfl⟩ | ⟨z, e, hn⟩
 · exact z' z
 · rw [e] at hp
   obtain ⟨t, ht, rfl⟩ := List.mem_map.mp hp
   exact hk ⟨t, rfl, hn t ht⟩
def NAt12 (H : Hp) (nb : Addr) (VN : Notes Str) : Prop := ∃ N, H nb = some (.lst N) ∧ N.length = VN.length ∧ ∀ (i : Nat) (v : V) (p : Str × List (Option Nat)), N[i]? = some v → VN[i]? = some p → ∃ t l, v = .ref t ∧ H t = some (.tup [.str p.1, .ref l]) ∧ H l = some (.lst (p.2.map thV))
def spRead (cN : Addr) : Sp := fun vs H Q E => ∃ (a : Addr) (ls : List Str), vs = [.ref a] ∧ H a = some (.lst (ls.map V.str)) ∧ (∀ l ∈ ls, Asc l) ∧ ls.length ≤ 400 ∧
 ((∃ heads notes, GoodLs ls heads notes ∧ ∀ H' v la nb, H' v = some (.tup [.ref la, .ref nb]) → H' la = some (.lst (heads.map thV)) → NAt12 H' nb notes → Same H H' → Q (.ref v) H') ∨ (BadLs ls ∧ ∀ H', Same H H' → E (.ref cN) none H'))
section
variable {P : Program} {w : World} {K : PySem.W.Frag} {mg : Str → Option Value} {base : Heap} {A : Adr}
theorem ok_read (T : Txt K mg A) : FnOk P w K mg base (CXe P w) 3 A.a_read A.d_read ["lines"] (spRead A.c_NoView) := by
 refine T.f_read.okE sc_read (fun vs H Q E h => ?_) (fun cdv B outer s H vs Q E hr h => ?_)
 · obtain ⟨a, ls, rfl, _⟩ := h
   rfl
 obtain ⟨a, ls, rfl, ha, hasc, hz, q⟩ := h
 have hu := hu_of hr
 have hq : _ + 1 + 0 < cLine := hu_of hr
 have nd := sc_read.nd
 refine ⟨_, (pss_cons (ps_if (pt_cmpR (op_eq_f hq) (pe_callB call_len_f rfl T.z_len bt_len (pa_cons (pvn nm_read rfl rfl 0 rfl rfl) pa_nil)) pe_int (nomark _)) (pss_one (ps_raise rfl T.m_NoView T.x_NoView rfl raiseE (pa_cons pe_str pa_nil))) pss_nil)
  (pss_cons (ps_set (i := 1) nd rfl (nm_read.at rfl (i := 1) rfl rfl) (pe_call (ok_known_figures T) (hr.mono (by decide)) rfl T.m_known_figures T.f_known_figures.kp T.b_known_figures .nil passN (pa_cons (pe_op op_sub (pe_callB call_len_f rfl T.z_len bt_len (pa_cons (pvn nm_read rfl rfl 0 rfl rfl) pa_nil)) pe_int) pa_nil)))
  (pss_cons (ps_set (i := 2) nd rfl (nm_read.at rfl (i := 2) rfl rfl) (pe_lst pa_nil))
  (pss_cons (ps_if (pt_cmpR (op_ne_f hq) (pe_idx hu (pvn nm_read rfl rfl 0 rfl rfl) pe_int (fun _ _ => rfl)) pe_str (nomark _)) (pss_one (ps_set (i := 2) nd rfl (nm_read.at rfl (i := 2) rfl rfl) (pe_call (ok_numbers_in T) (hr.mono (by decide)) rfl T.m_numbers_in T.f_numbers_in.kp T.b_numbers_in .nil passE (pa_cons (pe_split (pe_idx hu (pvn nm_read rfl rfl 0 rfl rfl) pe_int (fun _ _ => rfl)) pe_str) (pa_cons (pvn nm_read rfl rfl 1 rfl rfl) pa_nil))))) pss_nil)
  (pss_cons (ps_set (i := 3) nd rfl (nm_read.at rfl (i := 3) rfl rfl) (pe_lst pa_nil))
  (pss_cons (ps_for PassesOwn.leaving rfl (pi_seq (pe_slice sl_f (pvn nm_read rfl rfl 0 rfl rfl) (po_some pe_int) po_none)) (pg_name (i := 4) nd rfl (nm_read.at rfl (i := 4) rfl rfl)) (pss_cons (ps_set (i := 5) nd rfl (nm_read.at rfl (i := 5) rfl rfl) (pe_split (pvn nm_read rfl rfl 4 rfl rfl) pe_str))
   (pss_one (ps_expr (pe_append (pvn nm_read rfl rfl 3 rfl rfl) (pe_tup (pa_cons (pe_call (ok_word_in T) (hr.mono (by decide)) rfl T.m_word_in T.f_word_in.kp T.b_word_in .nil passE (pa_cons (pe_idx hu (pvn nm_read rfl rfl 5 rfl rfl) pe_int (fun _ _ => rfl)) pa_nil)) (pa_cons (pe_call (ok_numbers_in T) (hr.mono (by decide)) rfl T.m_numbers_in T.f_numbers_in.kp T.b_numbers_in .nil passE (pa_cons (pe_slice sl_f (pvn nm_read rfl rfl 5 rfl rfl) (po_some pe_int) po_none) (pa_cons (pvn nm_read rfl rfl 1 rfl rfl) pa_nil))) pa_nil))))))))
  (pss_one (ps_ret (pe_tup (pa_cons (pvn nm_read rfl rfl 2 rfl rfl) (pa_cons (pvn nm_read rfl rfl 3 rfl rfl) pa_nil))))))))))), ?_⟩
 show tSeq _ _ _ [some (.ref a), none, none, none, none, none] H
 cases ls with
 | nil =>
  refine stepT (fun R hR => by exists 1, ha; exact hR) fun D1 n1 r1 _ _ => ?_
  rcases q with ⟨heads, notes, ⟨l0, lt, e, _⟩, _⟩ | ⟨_, q⟩
  · cases e
  · exact ⟨small (Nat.le_of_ble_eq_true rfl), q H fun _ _ h => h⟩
 | cons l0 lt =>
  have nz : ¬ (((lt.length + 1 : Nat)) : Int) = 0 := by omega
  refine stepF (fun R hR => by exists 1, ha, nz; exact hR) ?_
  have hn : ((lt.length + 1 : Nat) : Int) - 1 = (lt.length : Int) := by omega
  have lz : lt.length ≤ 399 := by have : (l0 :: lt).length ≤ 400 := hz; simp at this; omega
  have al0 := hasc l0 (by simp)
  refine step1 fun D1 n1 r1 _ _ => ?_
  exists 1, ha, hn
  refine ⟨lt.length, rfl, by omega, fun H1 d kvs hd kd s1 fd => n1 _ _ ?_⟩
  refine step1 fun D2 n2 r2 _ _ => ?_
  exists 1, L2.ap_seq
  intro hk0 fhk0; generalize e_H2 : upd H1 hk0 _ = H2; have i2 := new_at e_H2; have s2 := new_same fhk0 e_H2
  refine n2 _ _ ?_
  have s02 := s1.trans s2
  have ha2 := s02 _ _ ha
  have hd2 := s2 _ _ hd
  have at00 : atI (V.str l0 :: lt.map V.str) 0 = some (.str l0) := at0 _ _
  refine step1 fun D3 n3 r3 _ _ => ?_
  suffices nx : ∀ (G : Hp) (hk : Addr) (ts : List (Option Nat)), HeadGood lt.length l0 ts → G hk = some (.lst (ts.map thV)) → Same H2 G → D3.nx [some (.ref a), some (.ref d), some (.ref hk), none, none, none] G by
   by_cases e0 : l0 = ""
   · subst e0
     refine ifF (fun R hR => by exists 1, ha2, at00; exact hR) ?_
     exact nx H2 hk0 [] (.inl ⟨rfl, rfl⟩) i2 fun _ _ h => h
   · refine ifT (fun R hR => by exists 1, ha2, at00, e0; exact hR) ?_
     exists 1, ha2, at00, w_isTxt, w_split
     refine ⟨by decide +kernel, split_size al0, ?_⟩
     intro sp fsp; generalize e_H3 : upd H2 sp _ = H3; have i3 := new_at e_H3; have s3 := new_same fsp e_H3
     refine ⟨sp, d, _, kvs, lt.length, rfl, i3, s3 _ _ hd2, kd, split_few al0, ?_⟩
     rcases q with ⟨heads, notes, ⟨l0', lt', e, hg, _⟩, _⟩ | ⟨hb, q⟩
     · injection e with e1 e2
       subst e1 e2
       rcases hg with ⟨z, _⟩ | ⟨_, es, ns⟩
       · exact absurd z e0
       · exact .inl ⟨heads, es, ns, fun H4 r h4 s4 fr => nx H4 r heads (.inr ⟨e0, es, ns⟩) h4 (s3.trans s4)⟩
     · rcases hb with z | ⟨l0', lt', e, hb⟩
       · cases z
       · injection e with e1 e2
         subst e1 e2
         rcases hb with ⟨_, hb⟩ | ⟨⟨ts, hg⟩, _⟩
         · exact .inr ⟨hb, fun H4 s4 => q H4 ((s02.trans s3).trans s4)⟩
         · rcases hg with ⟨z, _⟩ | ⟨_, es, ns⟩
           · exact absurd z e0
           · exact .inl ⟨ts, es, ns, fun H4 r h4 s4 fr => nx H4 r ts (.inr ⟨e0, es, ns⟩) h4 (s3.trans s4)⟩
  intro G hk ts hg ghk sG
  refine n3 _ _ ?_
  refine step1 fun D4 n4 r4 _ _ => ?_
  exists 1, L2.ap_seq
  intro nl fnl; generalize e_G1 : upd G nl _ = G1; have i4 := new_at e_G1; have s4 := new_same fnl e_G1
  refine n4 _ _ ?_
  have sHG1 : Same H G1 := (s02.trans sG).trans s4
  have gd1 := s4 _ _ (sG _ _ hd2)
  have ghk1 := s4 _ _ ghk
  refine step1 fun D5 n5 r5 _ _ => ?_
  exists 1, sHG1 _ _ ha
  intro tl ftl; generalize e_G2 : upd G1 tl _ = G2; have i5 := new_at e_G2; have s5 := new_same ftl e_G2
  have i5 : G2 tl = some (.lst (lt.map V.str)) := by rw [i5, cut_1]; rfl
  have tln : tl ≠ nl := fun z => by rw [z, i4] at ftl; cases ftl
  obtain ⟨Pv, hPv⟩ : ∃ Pv : Nat → St → Hp → Prop, Pv = fun i σ G' => ∃ (ns : Notes Str) (N : List V) (k4 k5 : Option V), σ = [some (.ref a), some (.ref d), some (.ref hk), some (.ref nl), k4, k5] ∧ ns.length = i ∧ (∀ (j : Nat) (l : Str) (p : Str × List (Option Nat)), lt[j]? = some l → ns[j]? = some p → LineGood lt.length l p) ∧ G' nl = some (.lst N) ∧ RowsN G' nl N ns ∧ (∀ c o, G2 c = some o → c ≠ nl → G' c = some o) := ⟨_, rfl⟩
  refine forS_seq (xs := lt.map V.str) (by rw [i5]; rfl) Pv ?_ (fun i σ G' _ hI => ?_) (fun i v σ G' hv hI => ?_) (fun σ G' hI => ?_)
  · rw [hPv]; exact ⟨[], [], _, _, rfl, rfl, (fun j l p _ h => nomatch h), s5 _ _ i4, ⟨rfl, fun i v p h => nomatch h⟩, fun c o h _ => h⟩
  · rw [hPv] at hI
    obtain ⟨ns, N, k4, k5, rfl, _, _, _, _, kp⟩ := hI
    rw [kp _ _ i5 tln, i5]
  · rw [hPv] at hI
    obtain ⟨ns, N, k4, k5, rfl, ln, gd, gnl, rows, kp⟩ := hI
    rw [List.getElem?_map] at hv
    cases el : lt[i]? with
    | none => rw [el] at hv; cases hv
    | some l =>
     rw [el] at hv; cases hv
     rw [ap_gName]
     have al := hasc l (List.mem_cons_of_mem _ (List.mem_of_getElem? el))
     refine step1 fun E1 m1 _ _ _ => ?_
     exists 1, w_isTxt, w_split
     refine ⟨by decide +kernel, split_size al, ?_⟩
     intro sp fsp; generalize e_G3 : upd G' sp _ = G3; have i6 := new_at e_G3; have s6 := new_same fsp e_G3
     refine m1 _ _ ?_
     obtain ⟨w0, ps, esp⟩ := split_cons l
     rw [esp] at i6
     have aw : Asc w0 := split_asc al (by rw [esp]; simp)
     have fps : ps.length ≤ 1000 := by have := split_few al; rw [esp] at this; simp at this; omega
     have gnl3 := s6 _ _ gnl
     have sHG' : Same H G' := fun c o h => kp c o (s5 _ _ (sHG1 _ _ h)) (fun z => by rw [z, nof (s02.trans sG) fnl] at h; cases h)
     have sHG3 := sHG'.trans s6
     have gd3 : G3 d = some (.dK kvs) := s6 _ _ (kp _ _ (s5 _ _ gd1) (ne_of gd1 i4 (by intro z; cases z)))
     have lN : N.length ≤ 400 := by rw [rows.1, ln]; have := getElem?_ne_none_lt el; omega
     have dec : (∃ p, LineGood lt.length l p) ∨ (LineBad lt.length l ∧ ∀ H', Same H H' → E (.ref A.c_NoView) none H') := by
      rcases q with ⟨heads, notes, ⟨l0', lt', e, _, le, gl⟩, _⟩ | ⟨hb, q⟩
      · injection e with e1 e2
        subst e1 e2
        have hlt := getElem?_ne_none_lt el
        exact .inl ⟨_, gl i l _ el (List.getElem?_eq_getElem (by omega))⟩
      · rcases hb with z | ⟨l0', lt', e, hb⟩
        · cases z
        · injection e with e1 e2
          subst e1 e2
          rcases hb with hb | ⟨_, j, lj, ej, bj, gj⟩
          · exact (head_bad hg hb).elim
          · by_cases hij : i < j
            · exact .inl (gj i l hij el)
            · by_cases hji : j = i
              · subst hji
                rw [el] at ej; cases ej
                exact .inr ⟨bj, q⟩
              · have hjn : j < ns.length := by omega
                exact (good_bad (gd j lj _ ej (List.getElem?_eq_getElem hjn)) bj).elim
     exists 1, gnl3, i6, at0
     rcases dec with ⟨⟨w1, row⟩, esp', hw, hn'⟩ | ⟨⟨w1, ps1, esp', hb⟩, qE⟩
     · rw [esp] at esp'
       injection esp' with e1 e2
       have e1 : w0 = w1 := e1
       have e2 : ps = row.map fg := e2
       subst e1
       refine ⟨w0, rfl, aw.1, by have := aw.2; omega, .inl ⟨hw, fun G4 s4' => ?_⟩⟩
       exists 1, s4' _ _ i6, cut_1
       intro tp ftp; generalize e_G5 : upd G4 tp _ = G5; have i8 := new_at e_G5; have s8 := new_same ftp e_G5
       refine ⟨tp, d, ps, kvs, lt.length, rfl, i8, s8 _ _ (s4' _ _ gd3), kd, fps, .inl ⟨row, e2, hn', fun G6 r h6 s9 fr => ?_⟩⟩
       refine ⟨small (Nat.le_of_ble_eq_true rfl), ?_⟩
       intro tt ftt; generalize e_G7 : upd G6 tt _ = G7; have i10 := new_at e_G7; have s10 := new_same ftt e_G7
       have s37 : Same G3 G7 := ((s4'.trans s8).trans s9).trans s10
       refine ⟨N, s37 _ _ gnl3, small1000 (by omega), ?_⟩
       generalize e11 : upd G7 nl _ = G8
       have g8 : ∀ c o, G7 c = some o → c ≠ nl → G8 c = some o := fun c o h hc => by rw [wr_ne e11 hc]; exact h
       have rnl : r ≠ nl := fun z => by
        rw [z] at fr
        rw [s8 _ _ (s4' _ _ gnl3)] at fr; cases fr
       have tnl : tt ≠ nl := ne_of i10 (s37 _ _ gnl3) (by intro z; cases z)
       show Pv _ _ _
       rw [hPv]
       refine ⟨ns ++ [(w0, row)], _, _, _, rfl, by simp [ln], fun j l' p hl' hp => ?_, new_at e11, ?_, fun c o h hc => g8 _ _ (s37 _ _ (s6 _ _ (kp c o h hc))) hc⟩
       · by_cases hj : j < ns.length
         · rw [List.getElem?_append_left hj] at hp
           exact gd j l' p hl' hp
         · rw [List.getElem?_append_right (by omega)] at hp
           have := getElem?_ne_none_lt hp
           have e0 : j - ns.length = 0 := by simp at this; omega
           rw [e0] at hp
           cases hp
           have ej : j = i := by omega
           subst ej
           rw [el] at hl'; cases hl'
           exact ⟨by rw [esp, e2], hw, hn'⟩
       · refine RowsN.snoc ((rows.keep (fun c o h hc => g8 _ _ (s37 _ _ (s6 _ _ h)) hc) ⟨N, gnl⟩)) (g8 _ _ i10 tnl) (g8 _ _ (s10 _ _ h6) rnl) rnl
     · rw [esp] at esp'
       injection esp' with e1 e2
       subst e1 e2
       by_cases hw : Word w0
       · refine ⟨w0, rfl, aw.1, by have := aw.2; omega, .inl ⟨hw, fun G4 s4' => ?_⟩⟩
         exists 1, s4' _ _ i6, cut_1
         intro tp ftp; generalize e_G5 : upd G4 tp _ = G5; have i8 := new_at e_G5; have s8 := new_same ftp e_G5
         refine ⟨tp, d, ps, kvs, lt.length, rfl, i8, s8 _ _ (s4' _ _ gd3), kd, fps, .inr ⟨?_, fun G6 s9 => qE G6 (((sHG3.trans s4').trans s8).trans s9)⟩⟩
         rcases hb with hb | hb
         · exact absurd hw hb
         · exact hb
       · exact ⟨w0, rfl, aw.1, by have := aw.2; omega, .inr ⟨hw, fun G4 s4' => qE G4 (sHG3.trans s4')⟩⟩
  · rw [hPv] at hI
    obtain ⟨ns, N, k4, k5, rfl, ln, gd, gnl, rows, kp⟩ := hI
    refine n5 _ _ ?_
    rw [List.length_map] at ln
    exists 1, L2.ap_seq
    refine ⟨small (Nat.le_of_ble_eq_true rfl), ?_⟩
    intro v fv; generalize e_G9 : upd G' v _ = G9; have i9 := new_at e_G9; have s9 := new_same fv e_G9
    have sHG' : Same H G' := fun c o h => kp c o (s5 _ _ (sHG1 _ _ h)) (fun z => by rw [z, nof (s02.trans sG) fnl] at h; cases h)
    have hkn : hk ≠ nl := fun z => by rw [z, fnl] at ghk; cases ghk
    rcases q with ⟨heads, notes, ⟨l0', lt', e, hg', le, gl⟩, q⟩ | ⟨hb, _⟩
    · injection e with e1 e2
      subst e1 e2
      obtain rfl := head_one hg hg'
      have en : ns = notes := by
       apply List.ext_getElem? 
       intro i
       by_cases hi : i < lt.length
       · have h1 := List.getElem?_eq_getElem (l := ns) (by omega : i < ns.length)
         have h2 := List.getElem?_eq_getElem (l := notes) (by omega : i < notes.length)
         have hl := List.getElem?_eq_getElem hi
         rw [h1, h2, good_one (gd i _ _ hl h1) (gl i _ _ hl h2)]
       · rw [List.getElem?_eq_none (by omega), List.getElem?_eq_none (by omega)]
      subst en
      refine q G9 v hk nl i9 (s9 _ _ (kp _ _ (s5 _ _ ghk1) hkn)) ⟨N, s9 _ _ gnl, rows.1, fun i v p h1 h2 => ?_⟩ (sHG'.trans s9)
      obtain ⟨t, l, e1, e2, e3, _⟩ := rows.2 i v p h1 h2
      exact ⟨t, l, e1, s9 _ _ e2, s9 _ _ e3⟩
    · exfalso
      rcases hb with z | ⟨l0', lt', e, hb⟩
      · cases z
      · injection e with e1 e2
        subst e1 e2
        rcases hb with hb | ⟨_, j, lj, ej, bj, gj⟩
        · exact head_bad hg hb
        · have hjn : j < ns.length := by have := getElem?_ne_none_lt ej; omega
          exact good_bad (gd j lj _ ej (List.getElem?_eq_getElem hjn)) bj
end
end PW
namespace PW
open PySem L2 WM TM
def SmN (ts : List (Option Nat)) : Prop := ∀ t ∈ ts, ∀ m, t = some m → m ≤ 1000
theorem fg_len (t : Option Nat) (h : ∀ m, t = some m → m ≤ 1000) : (fg t).length ≤ 1001 := by
 cases t with
 | none => show ("-" : Str).length ≤ 1001; decide +kernel
 | some n => have h1 := (figs_len n).1; have h2 := h n rfl; show (figs n).length ≤ 1001; omega
theorem sum_fg : ∀ {ts : List (Option Nat)}, SmN ts → ((ts.map fg).map (·.length)).sum ≤ ts.length * 1001
 | [], _ => Nat.le_refl _
 | t :: ts, h => by
  have ih := sum_fg (ts := ts) fun t' h' => h t' (List.mem_cons_of_mem _ h')
  have h1 := fg_len t (h t (by simp))
  rw [List.map_cons, List.map_cons, List.sum_cons, List.length_cons, Nat.add_mul]
  omega
theorem blank_len : (" " : Str).length = 1 := by decide +kernel
theorem join_room {ts : List (Option Nat)} (h : SmN ts) (hz : ts.length ≤ 1000) : ((ts.map fg).map (·.length)).sum + (ts.map fg).length * (" " : Str).length ≤ 16777216 := by
 have := sum_fg h
 rw [List.length_map, blank_len]
 have : ts.length * 1001 ≤ 1000 * 1001 := Nat.mul_le_mul_right _ hz
 omega
theorem join_room1 {wd : Str} {ts : List (Option Nat)} (hw : wd.length ≤ 1000) (h : SmN ts) (hz : ts.length ≤ 1000) : ((wd :: ts.map fg).map (·.length)).sum + (wd :: ts.map fg).length * (" " : Str).length ≤ 16777216 := by
 have := sum_fg h
 rw [List.map_cons, List.sum_cons, List.length_cons, List.length_map, blank_len]
 have : ts.length * 1001 ≤ 1000 * 1001 := Nat.mul_le_mul_right _ hz
 omega
def NoteSm (p : Str × List (Option Nat)) : Prop := p.1.length ≤ 1000 ∧ SmN p.2 ∧ p.2.length ≤ 900
def spShown : Sp := fun vs H Q _ => ∃ (v la nb : Addr) (heads : List (Option Nat)) (notes : Notes Str), vs = [.ref v] ∧ H v = some (.tup [.ref la, .ref nb]) ∧ H la = some (.lst (heads.map thV)) ∧ NAt12 H nb notes ∧ SmN heads ∧ heads.length ≤ 900 ∧ (∀ p ∈ notes, NoteSm p) ∧ notes.length ≤ 900 ∧
 ∀ H' r, H' r = some (.lst ((hline heads :: notes.map nline).map V.str)) → Same H H' → H r = none → Q (.ref r) H'
theorem NAt12.same {H H' : Hp} {nb : Addr} {notes : Notes Str} (h : NAt12 H nb notes) (s : Same H H') : NAt12 H' nb notes := by
 obtain ⟨N, h1, h2, h3⟩ := h
 exact ⟨N, s _ _ h1, h2, fun i v p a b => by
  obtain ⟨t, l, e1, e2, e3⟩ := h3 i v p a b
  exact ⟨t, l, e1, s _ _ e2, s _ _ e3⟩⟩
section
variable {P : Program} {w : World} {K : PySem.W.Frag} {mg : Str → Option Value} {base : Heap} {A : Adr}
theorem ok_shown (T : Txt K mg A) : FnOk P w K mg base (CXe P w) 3 A.a_shown A.d_shown ["view"] spShown := by
 refine T.f_shown.okN sc_shown (fun vs H Q E h => ?_) (fun cdv B outer s H vs Q E hr h => ?_)
 · obtain ⟨v, la, nb, heads, notes, rfl, _⟩ := h
   rfl
 obtain ⟨v, la, nb, heads, notes, rfl, hv, hla, ⟨N, hN, lN, gN⟩, sh, zh, sn, zn, q⟩ := h
 have hu := hu_of hr
 have nd := sc_shown.nd
 refine ⟨_, (pss_cons (ps_set (i := 1) nd rfl (nm_shown.at rfl (i := 1) rfl rfl) (pe_lst (pa_cons (pe_join pe_str (pe_call (ok_written T) (hr.mono (by decide)) rfl T.m_written T.f_written.kp T.b_written .nil passN (pa_cons (pe_idx hu (pvn nm_shown rfl rfl 0 rfl rfl) pe_int (fun _ _ => rfl)) pa_nil))) pa_nil)))
  (pss_cons (ps_for PassesOwn.never rfl (pi_seq (pe_idx hu (pvn nm_shown rfl rfl 0 rfl rfl) pe_int (fun _ _ => rfl))) (pg_name (i := 2) nd rfl (nm_shown.at rfl (i := 2) rfl rfl)) (pss_one (ps_expr (pe_append (pvn nm_shown rfl rfl 1 rfl rfl) (pe_join pe_str (pe_op op_add_f (pe_lst (pa_cons (pe_idx hu (pvn nm_shown rfl rfl 2 rfl rfl) pe_int (fun _ _ => rfl)) pa_nil)) (pe_call (ok_written T) (hr.mono (by decide)) rfl T.m_written T.f_written.kp T.b_written .nil passN (pa_cons (pe_idx hu (pvn nm_shown rfl rfl 2 rfl rfl) pe_int (fun _ _ => rfl)) pa_nil))))))))
  (pss_one (ps_ret (pvn nm_shown rfl rfl 1 rfl rfl))))), ?_⟩
 show tSeq _ _ _ [some (.ref v), none, none] H
 refine step1 fun D1 n1 r1 _ _ => ?_
 exists 1, w_isTxt, hv, at0
 refine ⟨la, heads, rfl, hla, sh, by omega, fun H1 r h1 s1 fr => ?_⟩
 exists 1, w_join
 refine ⟨_, h1, join_room sh (by omega), small (Nat.le_of_ble_eq_true rfl), ?_⟩
 intro ll fll; generalize e_H2 : upd H1 ll _ = H2; have i2 := new_at e_H2; have s2 := new_same fll e_H2
 refine n1 _ _ ?_
 have s02 := s1.trans s2
 have fll0 := nof s1 fll
 refine step1 fun D2 n2 r2 _ _ => ?_
 exists 1, s02 _ _ hv, at1
 have hN2 := s02 _ _ hN
 obtain ⟨Pv, hPv⟩ : ∃ Pv : Nat → St → Hp → Prop, Pv = fun i σ G => (∃ k2, σ = [some (.ref v), some (.ref ll), k2]) ∧ G ll = some (.lst ((hline heads :: (notes.take i).map nline).map V.str)) ∧ Same H G := ⟨_, rfl⟩
 refine forS_seq (xs := N) (by rw [hN2]; rfl) Pv ?_ (fun i σ G _ hI => ?_) (fun i x σ G hx hI => ?_) (fun σ G hI => ?_)
 · rw [hPv]; exact ⟨⟨_, rfl⟩, i2, s02⟩
 · rw [hPv] at hI; rw [hI.2.2 _ _ hN, hN2]
 · rw [hPv] at hI
   obtain ⟨⟨k2, rfl⟩, gl, sG⟩ := hI
   obtain ⟨p, hp⟩ : ∃ p, notes[i]? = some p := ⟨_, List.getElem?_eq_getElem (by rw [← lN]; exact getElem?_ne_none_lt hx)⟩
   obtain ⟨t, l, rfl, e2, e3⟩ := gN i x p hx hp
   obtain ⟨p1, p2, p3⟩ := sn p (List.mem_of_getElem? hp)
   rw [ap_gName]
   exists 1, gl, w_isTxt, sG _ _ e2, at0, at1
   refine ⟨small (Nat.le_of_ble_eq_true rfl), ?_⟩
   intro l1 fl1; generalize e_G1 : upd G l1 _ = G1; have i3 := new_at e_G1; have s3 := new_same fl1 e_G1
   exists 1, s3 _ _ (sG _ _ e2), at1
   refine ⟨l, p.2, rfl, s3 _ _ (sG _ _ e3), p2, by omega, fun G2 r' h2 s4 fr' => ?_⟩
   exists 1, s4 _ _ i3, h2
   refine ⟨small (by omega), ?_⟩
   intro l2 fl2; generalize e_G3 : upd G2 l2 _ = G3; have i4 := new_at e_G3; have s5 := new_same fl2 e_G3
   have s35 : Same G G3 := (s3.trans s4).trans s5
   refine w_join.mpr ⟨p.1 :: p.2.map fg, i4, join_room1 p1 p2 (by omega), _, s35 _ _ gl, small1000 (by rw [List.length_map, List.length_cons, List.length_map, List.length_take]; omega), ?_⟩
   generalize e5 : upd G3 ll _ = G4
   show Pv _ _ _
   rw [hPv]
   refine ⟨⟨_, rfl⟩, ?_, fun c o h => by rw [wr_ne e5 (not_eq_of h fll0)]; exact s35 _ _ (sG _ _ h)⟩
   rw [new_at e5, List.take_succ, hp]
   simp [nline]
 · rw [hPv] at hI
   obtain ⟨⟨k2, rfl⟩, gl, sG⟩ := hI
   rw [lN, List.take_length] at gl
   refine n2 _ _ ?_
   exists 1, L2.ap_seq
   exact q G ll gl sG fll0
end
theorem pick12 (m : Nat) (h : m < 8) : ∃ n : Nat, atI [V.int 0, .int 1, .int 2, .int 3, .int 0, .int 1, .int 2, .int 12] (m : Int) = some (.int (n : Nat)) ∧ n ≤ 12 := by
 match m, h with
 | 0, _ => exact ⟨0, rfl, by omega⟩
 | 1, _ => exact ⟨1, rfl, by omega⟩
 | 2, _ => exact ⟨2, rfl, by omega⟩
 | 3, _ => exact ⟨3, rfl, by omega⟩
 | 4, _ => exact ⟨0, rfl, by omega⟩
 | 5, _ => exact ⟨1, rfl, by omega⟩
 | 6, _ => exact ⟨2, rfl, by omega⟩
 | 7, _ => exact ⟨12, rfl, by omega⟩
def spPlaces : Sp := fun vs H Q _ => ∃ (cell : Int) (n : Nat), vs = [.int cell, .int n] ∧ n ≤ 1000 ∧ ∀ H' r ts, H' r = some (.lst (ts.map thV)) → Nums n ts → ts.length ≤ 12 → Same H H' → H r = none → Q (.ref r) H'
def spLineOf : Sp := fun vs H Q _ => ∃ (l : Addr) (ts : List (Option Nat)), vs = [.ref l] ∧ H l = some (.lst (ts.map thV)) ∧ SmN ts ∧ ts.length ≤ 900 ∧ ∀ H', Same H H' → Q (.str (hline ts)) H'
def spWordDrawn : Sp := fun vs H Q _ => ∃ (cell : Int) (k : Nat), vs = [.int cell, .int k] ∧ ∀ wd, Word wd → wd.length ≤ 10 → Q (.str wd) H
theorem abc (m : Nat) (h : m < 26) : atI ("abcdefghijklmnopqrstuvwxyz" : Str).cps.toList (m : Int) = some (97 + m) := atI_nat (by
 have : ∀ m, m < 26 → ("abcdefghijklmnopqrstuvwxyz" : Str).cps.toList[m]? = some (97 + m) := by decide +kernel
 exact this m h)
theorem abc_len : ("abcdefghijklmnopqrstuvwxyz" : Str).length ≤ sizeLine := small (by decide +kernel)
theorem one_word {m : Nat} (h : m < 26) : Word ⟨#[97 + m]⟩ := by
 refine ⟨fun z => ?_, fun c hc => ?_⟩
 · have : (⟨#[97 + m]⟩ : Str).length = ("" : Str).length := by rw [z]
   rw [show ("" : Str).length = 0 by decide +kernel] at this
   exact absurd this (by intro z; cases z)
 · have : c = 97 + m := by simpa using hc
   omega
theorem more_word {w : Str} {m : Nat} (hw : Word w) (h : m < 26) : Word (w ++ ⟨#[97 + m]⟩) := by
 refine ⟨fun z => hw.1 ?_, fun c hc => ?_⟩
 · have e : (w ++ (⟨#[97 + m]⟩ : Str)).cps.toList = ("" : Str).cps.toList := by rw [z]
   rw [append_codes] at e
   exact absurd (List.append_eq_nil_iff.mp (e.trans (by decide +kernel))).2 (by simp)
 · rw [append_codes] at hc
   rcases List.mem_append.mp hc with y | y
   · exact hw.2 c y
   · have : c = 97 + m := by simpa using y
     omega
section
variable {P : Program} {w : World} {K : PySem.W.Frag} {mg : Str → Option Value} {base : Heap} {A : Adr}
theorem ok_places_drawn (T : Txt K mg A) : FnOk P w K mg base (CXe P w) 1 A.a_places_drawn A.d_places_drawn ["_law_cell", "_law_size"] spPlaces := by
 refine T.f_places_drawn.okN sc_places_drawn (fun vs H Q E h => ?_) (fun cdv B outer s H vs Q E hr h => ?_)
 · obtain ⟨cell, n, rfl, _⟩ := h
   rfl
 obtain ⟨cell, n, rfl, hn, q⟩ := h
 have hu := hu_of hr
 have hq : _ + 1 + 0 < cLine := hu_of hr
 have nd := sc_places_drawn.nd
 refine ⟨_, (pss_cons (ps_set (i := 2) nd rfl (nm_places_drawn.at rfl (i := 2) rfl rfl) (pe_lst pa_nil))
  (pss_cons (ps_for PassesOwn.never rfl (pi_range1 rfl T.z_range (pa_cons (pe_idx hu (pe_lst (pa_cons pe_int (pa_cons pe_int (pa_cons pe_int (pa_cons pe_int (pa_cons pe_int (pa_cons pe_int (pa_cons pe_int (pa_cons pe_int pa_nil))))))))) (pe_op op_mod (pe_op op_mod (pe_op op_mul_f (pvn nm_places_drawn rfl rfl 0 rfl rfl) pe_int) pe_int) pe_int) (fun _ _ => rfl)) pa_nil)) (pg_name (i := 3) nd rfl (nm_places_drawn.at rfl (i := 3) rfl rfl)) (pss_one (ps_if (PW.pt (pw_or (pt_cmpR (op_eq_f hq) (pe_op op_mod (pe_op op_mod (pe_op op_mul_f (pe_op op_add_f (pvn nm_places_drawn rfl rfl 0 rfl rfl) (pvn nm_places_drawn rfl rfl 3 rfl rfl)) pe_int) pe_int) pe_int) pe_int (nomark _)) (pw_or1 (pt_cmpR (op_eq_f hq) (pvn nm_places_drawn rfl rfl 1 rfl rfl) pe_int (nomark _))))) (pss_one (ps_expr (pe_append (pvn nm_places_drawn rfl rfl 2 rfl rfl) pe_non))) (pss_one (ps_expr (pe_append (pvn nm_places_drawn rfl rfl 2 rfl rfl) (pe_op op_mod (pe_op op_mod (pe_op op_mul_f (pe_op op_add_f (pvn nm_places_drawn rfl rfl 0 rfl rfl) (pe_op op_mul_f pe_int (pvn nm_places_drawn rfl rfl 3 rfl rfl))) pe_int) pe_int) (pvn nm_places_drawn rfl rfl 1 rfl rfl))))))))
  (pss_one (ps_ret (pvn nm_places_drawn rfl rfl 2 rfl rfl))))), ?_⟩
 show tSeq _ _ _ [some (.int cell), some (.int n), none, none] H
 refine step1 fun D1 n1 r1 _ _ => ?_
 exists 1, L2.ap_seq
 intro r fr; generalize e_H1 : upd H r _ = H1; have i1 := new_at e_H1; have s1 := new_same fr e_H1
 refine n1 _ _ ?_
 obtain ⟨z, ez, lz⟩ := modN (cell * 48271 % 1009) 8 (by decide)
 obtain ⟨m, em, lm⟩ := pick12 z (by omega)
 refine step1 fun D2 n2 r2 _ _ => ?_
 exists 1, L2.ap_seq
 refine ⟨small (Nat.le_of_ble_eq_true rfl), ?_⟩
 intro l2 fl2; generalize e_H2 : upd H1 l2 _ = H2; have i2 := new_at e_H2; have s2 := new_same fl2 e_H2
 exists 1, cmul, i2, ez, em
 refine ⟨by omega, by omega, ?_⟩
 rw [Int.toNat_natCast]
 obtain ⟨Pv, hPv⟩ : ∃ Pv : Nat → St → Hp → Prop, Pv = fun j σ G => ∃ (ts : List (Option Nat)) (k3 : Option V), σ = [some (.int cell), some (.int n), some (.ref r), k3] ∧ G r = some (.lst (ts.map thV)) ∧ ts.length = j ∧ Nums n ts ∧ Same H G := ⟨_, rfl⟩
 refine forW_range Pv ?_ (fun j σ G hj hI => ?_) (fun σ G hI => ?_)
 · rw [hPv]; exact ⟨[], _, rfl, s2 _ _ i1, rfl, (fun t ht => nomatch ht), s1.trans s2⟩
 · rw [hPv] at hI
   obtain ⟨ts, k3, rfl, gr, lt, nt, sG⟩ := hI
   rw [show ((0 : Int) + (j : Int)) = (j : Int) by omega, ap_gName]
   have fin : ∀ (t : Option Nat) (G2 : Hp), (∀ m, t = some m → m < n) → upd G r (.lst (ts.map thV ++ [thV t])) = G2 → Pv (j + 1) [some (.int cell), some (.int n), some (.ref r), some (.int j)] G2 := fun t G2 ht e2 => by
    rw [hPv]
    refine ⟨ts ++ [t], _, rfl, by rw [new_at e2, List.map_append]; rfl, by simp [lt], fun t' h' => ?_, fun c o h => by rw [wr_ne e2 (not_eq_of h fr)]; exact sG c o h⟩
    rcases List.mem_append.mp h' with y | y
    · exact nt t' y
    · rw [List.mem_singleton.mp y]; exact ht
   have ly : (ts.map thV).length < sizeLine := small1000 (by rw [List.length_map]; omega)
   by_cases hb : (cell + (j : Int)) * 48271 % 1013 % 4 = 0 ∨ n = 0
   · refine ifT (fun R hR => by
      by_cases h1 : (cell + (j : Int)) * 48271 % 1013 % 4 = 0
      · exists 1, cmul, h1
        exact hR
      · have h2 : (n : Int) = 0 := hb.elim (fun h => absurd h h1) fun h => by omega
        exists 1, cmul, h1, h2
        exact hR) ?_
     exists 1, gr
     refine ⟨by rw [List.length_map] at ly; exact ly, ?_⟩
     exact fin none _ (fun m h => nomatch h) rfl
   · have h1 : ¬ (cell + (j : Int)) * 48271 % 1013 % 4 = 0 := fun h => hb (.inl h)
     have h2 : ¬ (n : Int) = 0 := fun h => hb (.inr (by omega))
     have c7 : CMul 7 (j : Int) := .inl ⟨by decide, by decide⟩
     have c0 : (0 : Int) < (n : Int) := by omega
     obtain ⟨u, eu, lu⟩ := modN ((cell + 7 * (j : Int)) * 48271 % 1019) n c0
     refine ifF (fun R hR => by exists 1, cmul, h1, h2; exact hR) ?_
     exists 1, gr, cmul, c7, c0, eu
     refine ⟨by rw [List.length_map] at ly; exact ly, ?_⟩
     exact fin (some u) _ (fun m h => by cases h; omega) rfl
 · rw [hPv] at hI
   obtain ⟨ts, k3, rfl, gr, lt, nt, sG⟩ := hI
   refine n2 _ _ ?_
   exists 1, L2.ap_seq
   exact q G r ts gr nt (by omega) sG fr
theorem ok_line_of (T : Txt K mg A) : FnOk P w K mg base (CXe P w) 1 A.a_line_of A.d_line_of ["_law_row"] spLineOf := by
 refine T.f_line_of.okN sc_line_of (fun vs H Q E h => ?_) (fun cdv B outer s H vs Q E hr h => ?_)
 · obtain ⟨l, ts, rfl, _⟩ := h
   rfl
 obtain ⟨l, ts, rfl, hl, sm, hz, q⟩ := h
 have hu := hu_of hr
 have hq : _ + 1 + 0 < cLine := hu_of hr
 have nd := sc_line_of.nd
 refine ⟨_, (pss_cons (ps_set (i := 1) nd rfl (nm_line_of.at rfl (i := 1) rfl rfl) (pe_lst pa_nil))
  (pss_cons (ps_for PassesOwn.never rfl (pi_seq (pvn nm_line_of rfl rfl 0 rfl rfl)) (pg_name (i := 2) nd rfl (nm_line_of.at rfl (i := 2) rfl rfl)) (pss_one (ps_if (pt_cmpR op_is_f (pvn nm_line_of rfl rfl 2 rfl rfl) pe_non (nomark _)) (pss_one (ps_expr (pe_append (pvn nm_line_of rfl rfl 1 rfl rfl) pe_str))) (pss_one (ps_expr (pe_append (pvn nm_line_of rfl rfl 1 rfl rfl) (pe_callTy call_str_int rfl T.z_str bt_str (pa_cons (pvn nm_line_of rfl rfl 2 rfl rfl) pa_nil))))))))
  (pss_one (ps_ret (pe_join pe_str (pvn nm_line_of rfl rfl 1 rfl rfl)))))), ?_⟩
 show tSeq _ _ _ [some (.ref l), none, none] H
 refine step1 fun D1 n1 r1 _ _ => ?_
 exists 1, L2.ap_seq
 intro r fr; generalize e_H1 : upd H r _ = H1; have i1 := new_at e_H1; have s1 := new_same fr e_H1
 refine n1 _ _ ?_
 refine step1 fun D2 n2 r2 _ _ => ?_
 exists 1, L2.ap_seq
 have hl1 := s1 _ _ hl
 obtain ⟨Pv, hPv⟩ : ∃ Pv : Nat → St → Hp → Prop, Pv = fun j σ G => (∃ k2, σ = [some (.ref l), some (.ref r), k2]) ∧ G r = some (.lst (((ts.take j).map fg).map V.str)) ∧ Same H G := ⟨_, rfl⟩
 refine forS_seq (xs := ts.map thV) (by rw [hl1]; rfl) Pv ?_ (fun i σ G _ hI => ?_) (fun i v σ G hv hI => ?_) (fun σ G hI => ?_)
 · rw [hPv]; exact ⟨⟨_, rfl⟩, i1, s1⟩
 · rw [hPv] at hI; rw [hI.2.2 _ _ hl, hl1]
 · rw [hPv] at hI
   obtain ⟨⟨k2, rfl⟩, gr, sG⟩ := hI
   rw [List.getElem?_map] at hv
   cases et : ts[i]? with
   | none => rw [et] at hv; cases hv
   | some t =>
    rw [et] at hv; cases hv
    rw [ap_gName]
    have fin : ∀ G2 : Hp, upd G r (.lst (((ts.take i).map fg).map V.str ++ [.str (fg t)])) = G2 → Pv (i + 1) [some (.ref l), some (.ref r), some (thV t)] G2 := fun G2 e2 => by
     rw [hPv]
     refine ⟨⟨_, rfl⟩, ?_, fun c o h => by rw [wr_ne e2 (not_eq_of h fr)]; exact sG c o h⟩
     rw [new_at e2, List.take_succ, et]
     simp
    have ly : ((ts.take i).map fg).length < sizeLine := small1000 (by rw [List.length_map, List.length_take]; omega)
    cases t with
    | none =>
     refine ifT (fun R hR => by exists 1, thV_no; exact hR) ?_
     exists 1, gr
     refine ⟨by rw [List.length_map] at ly; exact ly, fin _ rfl⟩
    | some n =>
     refine ifF (fun R hR => by exists 1, thV_some; exact hR) ?_
     exists 1, gr, thV_some
     exact ⟨lg (sm _ (List.mem_of_getElem? et) n rfl), by rw [List.length_map] at ly; exact ly, fin _ rfl⟩
 · rw [hPv] at hI
   obtain ⟨⟨k2, rfl⟩, gr, sG⟩ := hI
   rw [List.length_map, List.take_length] at gr
   refine n2 _ _ ?_
   exists 1, w_isTxt
   exact w_join.mpr ⟨_, gr, join_room sm (by omega), q G sG⟩
theorem ok_word_drawn (T : Txt K mg A) : FnOk P w K mg base (CXe P w) 1 A.a_word_drawn A.d_word_drawn ["_law_cell", "_law_k"] spWordDrawn := by
 refine T.f_word_drawn.okN sc_word_drawn (fun vs H Q E h => ?_) (fun cdv B outer s H vs Q E hr h => ?_)
 · obtain ⟨cell, k, rfl, _⟩ := h
   rfl
 obtain ⟨cell, k, rfl, q⟩ := h
 have hu := hu_of hr
 have hq : _ + 1 + 0 < cLine := hu_of hr
 have nd := sc_word_drawn.nd
 refine ⟨_, (pss_cons (ps_set (i := 2) nd rfl (nm_word_drawn.at rfl (i := 2) rfl rfl) pe_str)
  (pss_cons (ps_set (i := 3) nd rfl (nm_word_drawn.at rfl (i := 3) rfl rfl) (pe_idx hu (pvn nm_word_drawn rfl rfl 2 rfl rfl) (pe_op op_mod (pe_op op_mod (pe_op op_mul_f (pe_op op_add_f (pvn nm_word_drawn rfl rfl 0 rfl rfl) (pvn nm_word_drawn rfl rfl 1 rfl rfl)) pe_int) pe_int) pe_int) (fun _ _ => rfl)))
  (pss_cons (ps_if (pt_cmpR (op_eq_f hq) (pe_op op_mod (pe_op op_mod (pe_op op_mul_f (pvn nm_word_drawn rfl rfl 0 rfl rfl) pe_int) pe_int) pe_int) pe_int (nomark _)) (pss_one (ps_for PassesOwn.never rfl (pi_range1 rfl T.z_range (pa_cons (pe_op op_mod (pe_op op_mod (pe_op op_mul_f (pvn nm_word_drawn rfl rfl 0 rfl rfl) pe_int) pe_int) pe_int) pa_nil)) (pg_name (i := 4) nd rfl (nm_word_drawn.at rfl (i := 4) rfl rfl)) (pss_one (ps_set (i := 3) nd rfl (nm_word_drawn.at rfl (i := 3) rfl rfl) (pe_op op_add_f (pvn nm_word_drawn rfl rfl 3 rfl rfl) (pe_idx hu (pvn nm_word_drawn rfl rfl 2 rfl rfl) (pe_op op_mod (pe_op op_mod (pe_op op_mul_f (pe_op op_add_f (pvn nm_word_drawn rfl rfl 0 rfl rfl) (pe_op op_mul_f pe_int (pvn nm_word_drawn rfl rfl 4 rfl rfl))) pe_int) pe_int) pe_int) (fun _ _ => rfl))))))) pss_nil)
  (pss_one (ps_ret (pvn nm_word_drawn rfl rfl 3 rfl rfl)))))), ?_⟩
 show tSeq _ _ _ [some (.int cell), some (.int k), none, none, none] H
 refine step1 fun D1 n1 r1 _ _ => ?_
 exists 1, L2.ap_seq
 refine n1 _ _ ?_
 obtain ⟨z, ez, lz⟩ := modN ((cell + (k : Int)) * 48271 % 1021) 26 (by decide)
 refine step1 fun D2 n2 r2 _ _ => ?_
 exists 1, cmul, ez, abc z (by omega)
 refine ⟨abc_len, ?_⟩
 refine n2 _ _ ?_
 refine step1 fun D3 n3 r3 _ _ => ?_
 suffices nx : ∀ (wd : Str) (k4 : Option V), Word wd → wd.length ≤ 10 → D3.nx [some (.int cell), some (.int k), some (.str "abcdefghijklmnopqrstuvwxyz"), some (.str wd), k4] H by
  by_cases hb : cell * 48271 % 1031 % 3 = 0
  · refine ifT (fun R hR => by exists 1, cmul, hb; exact hR) ?_
    obtain ⟨y, ey, ly⟩ := modN (cell * 48271 % 1061) 9 (by decide)
    exists 1, cmul, ey
    refine ⟨by omega, by omega, ?_⟩
    rw [Int.toNat_natCast]
    obtain ⟨Pv, hPv⟩ : ∃ Pv : Nat → St → Hp → Prop, Pv = fun j σ G => ∃ (wd : Str) (k4 : Option V), σ = [some (.int cell), some (.int k), some (.str "abcdefghijklmnopqrstuvwxyz"), some (.str wd), k4] ∧ Word wd ∧ wd.length = j + 1 ∧ G = H := ⟨_, rfl⟩
    refine forW_range Pv ?_ (fun j σ G hj hI => ?_) (fun σ G hI => ?_)
    · rw [hPv]; exact ⟨_, _, rfl, one_word (by omega), rfl, rfl⟩
    · rw [hPv] at hI
      obtain ⟨wd, k4, rfl, hw, lw, rfl⟩ := hI
      rw [show ((0 : Int) + (j : Int)) = (j : Int) by omega, ap_gName]
      have c7 : CMul 7 (j : Int) := .inl ⟨by decide, by decide⟩
      obtain ⟨u, eu, lu⟩ := modN ((cell + 7 * (j : Int)) * 48271 % 1063) 26 (by decide)
      exists 1, cmul, c7, eu, abc u (by omega)
      refine ⟨abc_len, small (by rw [lw]; show j + 1 + 1 ≤ 1000; omega), ?_⟩
      show Pv _ _ _
      rw [hPv]
      refine ⟨_, _, rfl, more_word hw (by omega), ?_, rfl⟩
      rw [PySem.Str.length_append, lw]; rfl
    · rw [hPv] at hI
      obtain ⟨wd, k4, rfl, hw, lw, rfl⟩ := hI
      exact nx wd k4 hw (by omega)
  · refine ifF (fun R hR => by exists 1, cmul, hb; exact hR) ?_
    exact nx _ _ (one_word (by omega)) (show 1 ≤ 10 by decide)
 intro wd k4 hw lw
 refine n3 _ _ ?_
 exists 1, L2.ap_seq
 exact q wd hw lw
end
end PW
namespace PW
open PySem L2 WM
theorem kit_exm {K : PySem.W.Frag} {t c : Value} {b : Bool} (h : PySem.W.exmOne K t c = some b) (hs : PySem.W.exmOne K t t = some true) : PySem.W.kitOne K t c = some b := by
 unfold PySem.W.kitOne
 by_cases e : (t == c) = true
 · rw [if_pos e]
   rw [← beq_iff_eq.mp e, hs] at h
   exact h
 · rw [if_neg e]
   unfold PySem.W.exmOne at h
   split at h
   · exact h
   · cases h
structure Kinds (K : PySem.W.Frag) (A : Adr) (C : Addr) (b1 b2 b3 b4 b5 b6 : Bool) : Prop where
 xc : ExcCls K C
 we : PySem.W.exmOne K (.ref C) (.ref A.c_WallError) = some true
 ve : PySem.W.kitOne K (.ref C) (.type "ValueError") = some true
 k1 : PySem.W.kitOne K (.ref C) (.ref A.c_Full) = some b1
 k2 : PySem.W.kitOne K (.ref C) (.ref A.c_NoNote) = some b2
 k3 : PySem.W.kitOne K (.ref C) (.ref A.c_NoThread) = some b3
 k4 : PySem.W.kitOne K (.ref C) (.ref A.c_Busy) = some b4
 k5 : PySem.W.kitOne K (.ref C) (.ref A.c_NoRound) = some b5
 k6 : PySem.W.kitOne K (.ref C) (.ref A.c_NoView) = some b6
 one : [b1, b2, b3, b4, b5, b6].count true = 1
theorem isi_ref {K : PySem.W.Frag} {C D ea : Addr} {b : Bool} {H : Hp} {Q : VK} (cg : ClsGet K) (xc : ExcCls K C) (hea : H ea = some (excO ea C)) (h : PySem.W.kitOne K (.ref C) (.ref D) = some b) (q : Q (.bl b) H) : fIsiX K [.ref ea, .ref D] H Q := ⟨ea, C, _, b, rfl, hea, xc, cg, (fun u e => by cases e; exact h), q⟩
theorem isi_ty {K : PySem.W.Frag} {C ea : Addr} {b : Bool} {t : String} {H : Hp} {Q : VK} (cg : ClsGet K) (xc : ExcCls K C) (hea : H ea = some (excO ea C)) (h : PySem.W.kitOne K (.ref C) (.type t) = some b) (q : Q (.bl b) H) : fIsiX K [.ref ea, .ty t] H Q := ⟨ea, C, _, b, rfl, hea, xc, cg, (fun u e => by cases e; exact h), q⟩
end PW
namespace PW
open PySem L2 WM
def sAt (ns : List Int) (k : Nat) : Int := (ns[k]?).getD 0
def spWhole : Sp := fun vs H Q _ => ∃ i, vs = [.int i] ∧ Q (.bl true) H
def spAt (K : PySem.W.Frag) : Sp := fun vs H Q _ => ∃ (a : Addr) (ns : List Int) (k : Nat), vs = [.ref a, .int k] ∧ Scr K H a (ns.map V.int) ∧ Q (.int (sAt ns k)) H
section
variable {P : Program} {w : World} {K : PySem.W.Frag} {mg : Str → Option Value} {base : Heap} {A : Adr}
theorem ok_whole (T : Txt K mg A) : FnOk P w K mg base (CXe P w) 1 A.a_whole A.d_whole ["_law_found"] spWhole := by
 refine T.f_whole.okN sc_whole (fun vs H Q E h => ?_) (fun cdv B outer s H vs Q E hr h => ?_)
 · obtain ⟨i, rfl, _⟩ := h
   rfl
 obtain ⟨i, rfl, q⟩ := h
 refine ⟨_, (pss_one (ps_ret (pe_and (pe_callB call_isi_f rfl T.z_isinstance bt_isinstance (pa_cons (pvn nm_whole rfl rfl 0 rfl rfl) (pa_cons (pe_bltn (v := .ty "int") rfl T.z_int bt_int rfl) pa_nil))) (pe_one (pe_not (pe_callB call_isi_f rfl T.z_isinstance bt_isinstance (pa_cons (pvn nm_whole rfl rfl 0 rfl rfl) (pa_cons (pe_bltn (v := .ty "bool") rfl T.z_bool bt_bool rfl) pa_nil)))))))), ?_⟩
 show tRet _ _ [some (.int i)] H
 exists 1, L2.ap_seq
 exact q
theorem ok_at (T : Txt K mg A) : FnOk P w K mg base (CXe P w) 1 A.a_at A.d_at ["_law_script", "_law_k"] (spAt K) := by
 refine T.f_at.okN sc_at (fun vs H Q E h => ?_) (fun cdv B outer s H vs Q E hr h => ?_)
 · obtain ⟨a, ns, k, rfl, _⟩ := h
   rfl
 obtain ⟨a, ns, k, rfl, hS, q⟩ := h
 have hu := hu_of hr
 generalize eL : ns.map V.int = L at hS
 have lL : L.length = ns.length := by rw [← eL, List.length_map]
 refine ⟨_, (pss_cons (ps_if (pt_cmpR op_lt (pvn nm_at rfl rfl 1 rfl rfl) (pe_callB (call_lenS a L) rfl T.z_len bt_len (pa_cons (pvn nm_at rfl rfl 0 rfl rfl) pa_nil)) (nomark _)) (pss_one (ps_ret (pe_ixS a L (pvn nm_at rfl rfl 0 rfl rfl) (pvn nm_at rfl rfl 1 rfl rfl) (fun _ _ => rfl)))) pss_nil)
  (pss_one (ps_ret pe_int))), ?_⟩
 show tSeq _ _ _ [some (.ref a), some (.int k)] H
 by_cases h : k < ns.length
 · have h' : (k : Int) < (ns.length : Int) := by omega
   have e : ns[k]? = some ns[k] := List.getElem?_eq_getElem h
   have gi : atI L (k : Int) = some (.int ns[k]) := by rw [← eL]; exact atI_nat (by rw [List.getElem?_map, e]; rfl)
   unfold sAt at q
   rw [e] at q
   exists 1, hS, lL, h', gi
   exact q
 · have h' : ¬ (k : Int) < (ns.length : Int) := by omega
   have e : ns[k]? = none := List.getElem?_eq_none (by omega)
   unfold sAt at q
   rw [e] at q
   exists 1, hS, lL, h'
   exact q
end
end PW
namespace PW
open PySem L2 WM TM
def spSamePl : Sp := fun vs H Q _ => ∃ (f d : Addr) (ts : List (Option Nat)), vs = [.ref f, .ref d] ∧ H f = some (.lst (ts.map thV)) ∧ H d = some (.lst (ts.map thV)) ∧ ts.length ≤ 1000 ∧ Q (.bl true) H
def spSameView : Sp := fun vs H Q _ => ∃ (v la nb hd nl : Addr) (heads : List (Option Nat)) (notes : Notes Str), vs = [.ref v, .ref hd, .ref nl] ∧ H v = some (.tup [.ref la, .ref nb]) ∧ H la = some (.lst (heads.map thV)) ∧ NAt12 H nb notes ∧ H hd = some (.lst (heads.map thV)) ∧ NAt12 H nl notes ∧ heads.length ≤ 1000 ∧ notes.length ≤ 1000 ∧ (∀ p ∈ notes, p.2.length ≤ 1000) ∧ Q (.bl true) H
def spUnder : Sp := fun vs H Q _ => ∃ (l : Addr) (ls : List Str), vs = [.ref l] ∧ H l = some (.lst (ls.map V.str)) ∧ (∀ l ∈ ls, Asc l) ∧ ls.length ≤ 400 ∧ BadLs ls ∧ ∀ H', Same H H' → Q (.bl true) H'
section
variable {P : Program} {w : World} {K : PySem.W.Frag} {mg : Str → Option Value} {base : Heap} {A : Adr}
theorem ok_is_places (T : Txt K mg A) : FnOk P w K mg base (CXe P w) 2 A.a_is_places A.d_is_places ["_law_found", "_law_due"] spSamePl := by
 refine T.f_is_places.okN sc_is_places (fun vs H Q E h => ?_) (fun cdv B outer s H vs Q E hr h => ?_)
 · obtain ⟨f, d, ts, rfl, _⟩ := h
   rfl
 obtain ⟨f, d, ts, rfl, hf, hd, hz, q⟩ := h
 have hu := hu_of hr
 have hq : _ + 1 + 0 < cLine := hu_of hr
 have nd := sc_is_places.nd
 refine ⟨_, (pss_cons (ps_if (PW.pt (pw_or (pt_not (pt_val (pe_callB call_isi_f rfl T.z_isinstance bt_isinstance (pa_cons (pvn nm_is_places rfl rfl 0 rfl rfl) (pa_cons (pe_bltn (v := .ty "list") rfl T.z_list bt_list rfl) pa_nil))))) (pw_or1 (pt_cmpR (op_ne_f hq) (pe_callB call_len_f rfl T.z_len bt_len (pa_cons (pvn nm_is_places rfl rfl 0 rfl rfl) pa_nil)) (pe_callB call_len_f rfl T.z_len bt_len (pa_cons (pvn nm_is_places rfl rfl 1 rfl rfl) pa_nil)) (nomark _))))) (pss_one (ps_ret pe_bl)) pss_nil)
  (pss_cons (ps_for PassesOwn.never rfl (pi_range1 rfl T.z_range (pa_cons (pe_callB call_len_f rfl T.z_len bt_len (pa_cons (pvn nm_is_places rfl rfl 1 rfl rfl) pa_nil)) pa_nil)) (pg_name (i := 2) nd rfl (nm_is_places.at rfl (i := 2) rfl rfl)) (pss_one (ps_if (PW.pt (pw_or (pt_cmpR op_is_f (pe_idx hu (pvn nm_is_places rfl rfl 1 rfl rfl) (pvn nm_is_places rfl rfl 2 rfl rfl) (fun _ _ => rfl)) pe_non (nomark _)) (pw_or1 (pt_cmpR op_is_f (pe_idx hu (pvn nm_is_places rfl rfl 0 rfl rfl) (pvn nm_is_places rfl rfl 2 rfl rfl) (fun _ _ => rfl)) pe_non (nomark _))))) (pss_one (ps_if (PW.pt (pw_or (pt_cmpR op_isnot_f (pe_idx hu (pvn nm_is_places rfl rfl 1 rfl rfl) (pvn nm_is_places rfl rfl 2 rfl rfl) (fun _ _ => rfl)) pe_non (nomark _)) (pw_or1 (pt_cmpR op_isnot_f (pe_idx hu (pvn nm_is_places rfl rfl 0 rfl rfl) (pvn nm_is_places rfl rfl 2 rfl rfl) (fun _ _ => rfl)) pe_non (nomark _))))) (pss_one (ps_ret pe_bl)) pss_nil)) (pss_one (ps_if (PW.pt (pw_or (pt_not (pt_val (pe_call (ok_whole T) (hr.mono (by decide)) rfl T.m_whole T.f_whole.kp T.b_whole .nil passN (pa_cons (pe_idx hu (pvn nm_is_places rfl rfl 0 rfl rfl) (pvn nm_is_places rfl rfl 2 rfl rfl) (fun _ _ => rfl)) pa_nil)))) (pw_or1 (pt_cmpR (op_ne_f hq) (pe_idx hu (pvn nm_is_places rfl rfl 0 rfl rfl) (pvn nm_is_places rfl rfl 2 rfl rfl) (fun _ _ => rfl)) (pe_idx hu (pvn nm_is_places rfl rfl 1 rfl rfl) (pvn nm_is_places rfl rfl 2 rfl rfl) (fun _ _ => rfl)) (nomark _))))) (pss_one (ps_ret pe_bl)) pss_nil)))))
  (pss_one (ps_ret pe_bl)))), ?_⟩
 show tSeq _ _ _ [some (.ref f), some (.ref d), none] H
 refine stepF (fun R hR => by exists 1, hf, hd; exact hR) ?_
 refine step1 fun D1 n1 r1 _ _ => ?_
 exists 1, hd
 refine ⟨by omega, by omega, ?_⟩
 rw [Int.toNat_natCast]
 obtain ⟨Pv, hPv⟩ : ∃ Pv : Nat → St → Hp → Prop, Pv = fun _ σ G => G = H ∧ ∃ k2, σ = [some (.ref f), some (.ref d), k2] := ⟨_, rfl⟩
 refine forW_range Pv ?_ (fun j σ G hj hI => ?_) (fun σ G hI => ?_)
 · rw [hPv]; exact ⟨rfl, _, rfl⟩
 · rw [hPv] at hI
   obtain ⟨rfl, k2, rfl⟩ := hI
   rw [show ((0 : Int) + (j : Int)) = (j : Int) by omega, ap_gName]
   have fin : Pv (j + 1) [some (.ref f), some (.ref d), some (.int j)] G := by rw [hPv]; exact ⟨rfl, _, rfl⟩
   have et := List.getElem?_eq_getElem hj
   cases ht : ts[j] with
   | none =>
    rw [ht] at et
    have e := atMap et
    refine ifT (fun R hR => by exists 1, hd, e, thV_no; exact hR) ?_
    refine ifF (fun R hR => by exists 1, hd, hf, e, thV_no; exact hR) ?_
    exact fin
   | some n =>
    rw [ht] at et
    have e := atMap et
    refine ifF (fun R hR => by exists 1, hd, hf, e, thV_some; exact hR) ?_
    refine ifF (fun R hR => by
     exists 1, hf, e, thV_some
     refine ⟨n, rfl, ?_⟩
     exists 1, hd, hf, e, thV_some
     exact hR) ?_
    exact fin
 · rw [hPv] at hI
   obtain ⟨rfl, k2, rfl⟩ := hI
   refine n1 _ _ ?_
   exists 1, L2.ap_seq
   exact q
theorem ok_is_view (T : Txt K mg A) : FnOk P w K mg base (CXe P w) 3 A.a_is_view A.d_is_view ["_law_found", "_law_heads", "_law_notes"] spSameView := by
 refine T.f_is_view.okN sc_is_view (fun vs H Q E h => ?_) (fun cdv B outer s H vs Q E hr h => ?_)
 · obtain ⟨v, la, nb, hd, nl, heads, notes, rfl, _⟩ := h
   rfl
 obtain ⟨v, la, nb, hd, nl, heads, notes, rfl, hv, hla, ⟨N, hN, lN, gN⟩, hhd, ⟨M, hM, lM, gM⟩, z1, z2, z3, q⟩ := h
 have hu := hu_of hr
 have hq : _ + 1 + 0 < cLine := hu_of hr
 have nd := sc_is_view.nd
 refine ⟨_, (pss_cons (ps_if (PW.pt (pw_or (pt_not (pt_val (pe_callB call_isi_f rfl T.z_isinstance bt_isinstance (pa_cons (pvn nm_is_view rfl rfl 0 rfl rfl) (pa_cons (pe_bltn (v := .ty "tuple") rfl T.z_tuple bt_tuple rfl) pa_nil))))) (pw_or (pt_cmpR (op_ne_f hq) (pe_callB call_len_f rfl T.z_len bt_len (pa_cons (pvn nm_is_view rfl rfl 0 rfl rfl) pa_nil)) pe_int (nomark _)) (pw_or1 (pt_not (pt_val (pe_callB call_isi_f rfl T.z_isinstance bt_isinstance (pa_cons (pe_idx hu (pvn nm_is_view rfl rfl 0 rfl rfl) pe_int (fun _ _ => rfl)) (pa_cons (pe_bltn (v := .ty "list") rfl T.z_list bt_list rfl) pa_nil))))))))) (pss_one (ps_ret pe_bl)) pss_nil)
  (pss_cons (ps_if (PW.pt (pw_or (pt_not (pt_val (pe_call (ok_is_places T) (hr.mono (by decide)) rfl T.m_is_places T.f_is_places.kp T.b_is_places .nil passN (pa_cons (pe_idx hu (pvn nm_is_view rfl rfl 0 rfl rfl) pe_int (fun _ _ => rfl)) (pa_cons (pvn nm_is_view rfl rfl 1 rfl rfl) pa_nil))))) (pw_or1 (pt_cmpR (op_ne_f hq) (pe_callB call_len_f rfl T.z_len bt_len (pa_cons (pe_idx hu (pvn nm_is_view rfl rfl 0 rfl rfl) pe_int (fun _ _ => rfl)) pa_nil)) (pe_callB call_len_f rfl T.z_len bt_len (pa_cons (pvn nm_is_view rfl rfl 2 rfl rfl) pa_nil)) (nomark _))))) (pss_one (ps_ret pe_bl)) pss_nil)
  (pss_cons (ps_for PassesOwn.never rfl (pi_range1 rfl T.z_range (pa_cons (pe_callB call_len_f rfl T.z_len bt_len (pa_cons (pvn nm_is_view rfl rfl 2 rfl rfl) pa_nil)) pa_nil)) (pg_name (i := 3) nd rfl (nm_is_view.at rfl (i := 3) rfl rfl)) (pss_cons (ps_set (i := 4) nd rfl (nm_is_view.at rfl (i := 4) rfl rfl) (pe_idx hu (pe_idx hu (pvn nm_is_view rfl rfl 0 rfl rfl) pe_int (fun _ _ => rfl)) (pvn nm_is_view rfl rfl 3 rfl rfl) (fun _ _ => rfl)))
   (pss_cons (ps_if (PW.pt (pw_or (pt_not (pt_val (pe_callB call_isi_f rfl T.z_isinstance bt_isinstance (pa_cons (pvn nm_is_view rfl rfl 4 rfl rfl) (pa_cons (pe_bltn (v := .ty "tuple") rfl T.z_tuple bt_tuple rfl) pa_nil))))) (pw_or (pt_cmpR (op_ne_f hq) (pe_callB call_len_f rfl T.z_len bt_len (pa_cons (pvn nm_is_view rfl rfl 4 rfl rfl) pa_nil)) pe_int (nomark _)) (pw_or1 (pt_not (pt_val (pe_callB call_isi_f rfl T.z_isinstance bt_isinstance (pa_cons (pe_idx hu (pvn nm_is_view rfl rfl 4 rfl rfl) pe_int (fun _ _ => rfl)) (pa_cons (pe_bltn (v := .ty "str") rfl T.z_str bt_str rfl) pa_nil))))))))) (pss_one (ps_ret pe_bl)) pss_nil)
   (pss_one (ps_if (PW.pt (pw_or (pt_cmpR (op_ne_f hq) (pe_idx hu (pvn nm_is_view rfl rfl 4 rfl rfl) pe_int (fun _ _ => rfl)) (pe_idx hu (pe_idx hu (pvn nm_is_view rfl rfl 2 rfl rfl) (pvn nm_is_view rfl rfl 3 rfl rfl) (fun _ _ => rfl)) pe_int (fun _ _ => rfl)) (nomark _)) (pw_or1 (pt_not (pt_val (pe_call (ok_is_places T) (hr.mono (by decide)) rfl T.m_is_places T.f_is_places.kp T.b_is_places .nil passN (pa_cons (pe_idx hu (pvn nm_is_view rfl rfl 4 rfl rfl) pe_int (fun _ _ => rfl)) (pa_cons (pe_idx hu (pe_idx hu (pvn nm_is_view rfl rfl 2 rfl rfl) (pvn nm_is_view rfl rfl 3 rfl rfl) (fun _ _ => rfl)) pe_int (fun _ _ => rfl)) pa_nil)))))))) (pss_one (ps_ret pe_bl)) pss_nil)))))
  (pss_one (ps_ret pe_bl))))), ?_⟩
 show tSeq _ _ _ [some (.ref v), some (.ref hd), some (.ref nl), none, none] H
 refine stepF (fun R hR => by exists 1, hv, at1, hN; exact hR) ?_
 have eN : ((N.length : Nat) : Int) = ((M.length : Nat) : Int) := by rw [lN, lM]
 refine stepF (fun R hR => by
  exists 1, hv, at0
  refine ⟨la, hd, heads, rfl, hla, hhd, z1, ?_⟩
  exists 1, hv, at1, hN, hM, eN
  exact hR) ?_
 refine step1 fun D1 n1 r1 _ _ => ?_
 exists 1, hM
 refine ⟨by omega, by omega, ?_⟩
 rw [Int.toNat_natCast]
 obtain ⟨Pv, hPv⟩ : ∃ Pv : Nat → St → Hp → Prop, Pv = fun _ σ G => G = H ∧ ∃ k3 k4, σ = [some (.ref v), some (.ref hd), some (.ref nl), k3, k4] := ⟨_, rfl⟩
 refine forW_range Pv ?_ (fun j σ G hj hI => ?_) (fun σ G hI => ?_)
 · rw [hPv]; exact ⟨rfl, _, _, rfl⟩
 · rw [hPv] at hI
   obtain ⟨rfl, k3, k4, rfl⟩ := hI
   rw [show ((0 : Int) + (j : Int)) = (j : Int) by omega, ap_gName]
   have hp := List.getElem?_eq_getElem (l := notes) (by omega : j < notes.length)
   have ex := List.getElem?_eq_getElem (l := N) (by omega : j < N.length)
   have ey := List.getElem?_eq_getElem (l := M) (by omega : j < M.length)
   obtain ⟨t, l, e1, e2, e3⟩ := gN j _ _ ex hp
   obtain ⟨t', l', f1, f2, f3⟩ := gM j _ _ ey hp
   rw [e1] at ex
   rw [f1] at ey
   have zp := z3 _ (List.getElem_mem (by omega : j < notes.length))
   generalize notes[j] = p at *
   refine step1 fun E1 m1 _ _ _ => ?_
   exists 1, hv, at1, hN, atI_nat ex
   refine m1 _ _ ?_
   refine stepF (fun R hR => by exists 1, e2, at0; exact hR) ?_
   refine ifF (fun R hR => by
    exists 1, e2, at0, at1, hM, atI_nat ey, f2
    refine ⟨l, l', p.2, rfl, e3, f3, zp, ?_⟩
    exists 1, L2.ap_seq
    exact hR) ?_
   show Pv _ _ _
   rw [hPv]; exact ⟨rfl, _, _, rfl⟩
 · rw [hPv] at hI
   obtain ⟨rfl, k3, k4, rfl⟩ := hI
   refine n1 _ _ ?_
   exists 1, L2.ap_seq
   exact q
theorem ok_under_base (T : Txt K mg A) : FnOk P w K mg base (CXe P w) 7 A.a_under_base A.d_under_base ["_law_lines"] spUnder := by
 refine T.f_under_base.okN sc_under_base (fun vs H Q E h => ?_) (fun cdv B outer s H vs Q E hr h => ?_)
 · obtain ⟨l, ls, rfl, _⟩ := h
   rfl
 obtain ⟨l, ls, rfl, hl, hasc, hz, hb, q⟩ := h
 have hu := hu_of hr
 have hq : _ + 1 + 0 < cLine := hu_of hr
 have nd := sc_under_base.nd
 have kd : Kinds K A A.c_NoView false false false false false true := ⟨T.xc_NoView, T.e_NoView, kit_exm T.q_NoView_ValueError T.q_NoView_NoView, kit_exm T.q_NoView_Full T.q_NoView_NoView, kit_exm T.q_NoView_NoNote T.q_NoView_NoView, kit_exm T.q_NoView_NoThread T.q_NoView_NoView, kit_exm T.q_NoView_Busy T.q_NoView_NoView, kit_exm T.q_NoView_NoRound T.q_NoView_NoView, kit_exm T.q_NoView_NoView T.q_NoView_NoView, rfl⟩
 refine ⟨_, (pss_cons (ps_try rfl rfl rfl (pssx_one (psx_expr (pex_call (ok_read T) (hr.mono (by decide)) rfl T.m_read T.f_read.kp T.b_read .nil (pa_cons (pe_callTy call_list_f rfl T.z_list bt_list (pa_cons (pvn nm_under_base rfl rfl 0 rfl rfl) pa_nil)) pa_nil)))) (ph_as (i := 1) rfl T.m_WallError nd rfl lk_under_base_e (fun _ => (pss_cons (ps_set (i := 2) nd rfl (nm_under_base.at rfl (i := 2) rfl rfl) (pe_lst (pa_cons (pe_callB (call_isi_x (K := K) rfl) rfl T.z_isinstance bt_isinstance (pa_cons (pvn nm_under_base rfl rfl 1 rfl rfl) (pa_cons (pe_glob (v := .ref A.c_Full) rfl T.m_Full rfl) pa_nil))) (pa_cons (pe_callB (call_isi_x (K := K) rfl) rfl T.z_isinstance bt_isinstance (pa_cons (pvn nm_under_base rfl rfl 1 rfl rfl) (pa_cons (pe_glob (v := .ref A.c_NoNote) rfl T.m_NoNote rfl) pa_nil))) (pa_cons (pe_callB (call_isi_x (K := K) rfl) rfl T.z_isinstance bt_isinstance (pa_cons (pvn nm_under_base rfl rfl 1 rfl rfl) (pa_cons (pe_glob (v := .ref A.c_NoThread) rfl T.m_NoThread rfl) pa_nil))) pa_nil)))))
  (pss_cons (ps_set (i := 2) nd rfl (nm_under_base.at rfl (i := 2) rfl rfl) (pe_op op_add_f (pvn nm_under_base rfl rfl 2 rfl rfl) (pe_lst (pa_cons (pe_callB (call_isi_x (K := K) rfl) rfl T.z_isinstance bt_isinstance (pa_cons (pvn nm_under_base rfl rfl 1 rfl rfl) (pa_cons (pe_glob (v := .ref A.c_Busy) rfl T.m_Busy rfl) pa_nil))) (pa_cons (pe_callB (call_isi_x (K := K) rfl) rfl T.z_isinstance bt_isinstance (pa_cons (pvn nm_under_base rfl rfl 1 rfl rfl) (pa_cons (pe_glob (v := .ref A.c_NoRound) rfl T.m_NoRound rfl) pa_nil))) (pa_cons (pe_callB (call_isi_x (K := K) rfl) rfl T.z_isinstance bt_isinstance (pa_cons (pvn nm_under_base rfl rfl 1 rfl rfl) (pa_cons (pe_glob (v := .ref A.c_NoView) rfl T.m_NoView rfl) pa_nil))) pa_nil))))))
  (pss_one (ps_ret (pe_and (pe_callB (call_isi_x (K := K) rfl) rfl T.z_isinstance bt_isinstance (pa_cons (pvn nm_under_base rfl rfl 1 rfl rfl) (pa_cons (pe_bltn (v := .ty "ValueError") rfl T.z_ValueError bt_ValueError rfl) pa_nil))) (pe_one (pe_cmpR (op_eq_f hq) (pe_count (pvn nm_under_base rfl rfl 2 rfl rfl) pe_bl) pe_int (nomark _))))))))) ph_nil))
  (pss_one (ps_ret pe_bl))), ?_⟩
 show tSeq _ _ _ [some (.ref l), none, none] H
 refine step1 fun D2 n2 r2 _ _ => ?_
 show tTry _ _ _ _ H
 unfold tTry
 exists 1, hl
 intro h0 fh0; generalize e_H0 : upd H h0 _ = H0; have i0 := new_at e_H0; have s0 := new_same fh0 e_H0
 refine ⟨h0, ls, rfl, i0, hasc, hz, .inr ⟨hb, fun H' s' => ?_⟩⟩
 refine ⟨true, kd.we, ?_⟩
 rw [if_pos rfl]
 refine ⟨A.c_NoView, rfl, fun ea fea => ?_⟩
 generalize eE : upd H' ea (excO ea A.c_NoView) = H1
 have hea := new_at eE
 have s1 := new_same fea eE
 refine step1 fun D3 n3 r3 _ _ => ?_
 exists 1, L2.ap_seq
 refine isi_ref T.cg kd.xc hea kd.k1 ?_
 refine isi_ref T.cg kd.xc hea kd.k2 ?_
 refine isi_ref T.cg kd.xc hea kd.k3 ?_
 refine ⟨small (Nat.le_of_ble_eq_true rfl), ?_⟩
 intro l2 fl2; generalize e_H2 : upd H1 l2 _ = H2; have i2 := new_at e_H2; have s2 := new_same fl2 e_H2
 refine n3 _ _ ?_
 have hea2 := s2 _ _ hea
 refine step1 fun D4 n4 r4 _ _ => ?_
 exists 1, L2.ap_seq
 refine isi_ref T.cg kd.xc hea2 kd.k4 ?_
 refine isi_ref T.cg kd.xc hea2 kd.k5 ?_
 refine isi_ref T.cg kd.xc hea2 kd.k6 ?_
 refine ⟨small (Nat.le_of_ble_eq_true rfl), ?_⟩
 intro l3 fl3; generalize e_H3 : upd H2 l3 _ = H3; have i3 := new_at e_H3; have s3 := new_same fl3 e_H3
 exists 1, i3, s3 _ _ i2
 refine ⟨small (Nat.le_of_ble_eq_true rfl), ?_⟩
 intro l4 fl4; generalize e_H4 : upd H3 l4 _ = H4; have i4 := new_at e_H4; have s4 := new_same fl4 e_H4
 refine n4 _ _ ?_
 have hea4 := s4 _ _ (s3 _ _ hea2)
 exists 1, L2.ap_seq
 refine isi_ty T.cg kd.xc hea4 kd.ve ?_
 have one : (([false, false, false, false, false, true].count true : Nat) : Int) = 1 := by rw [kd.one]; rfl
 exists 1, i4, w_count
 refine ⟨[false, false, false, false, false, true], rfl, ?_⟩
 rw [decide_eq_true one]
 exact r2 _ _ (q H4 (((((s0.trans s').trans s1).trans s2).trans s3).trans s4))
end
end PW
namespace PW
open PySem L2 WM TM
theorem nk1 (n : Nat) : ¬ Known n "x" := not_known (c := 120) (by decide +kernel) (by decide +kernel) (by omega)
theorem nk2 (n : Nat) : ¬ Known n "+0" := not_known (c := 43) (by decide +kernel) (by decide +kernel) (by omega)
theorem nk3 (n : Nat) : ¬ Known n "--" := not_known (c := 45) (by decide +kernel) (by decide +kernel) (by omega)
theorem nk4 (n : Nat) : ¬ Known n "-0" := not_known (c := 45) (by decide +kernel) (by decide +kernel) (by omega)
theorem hb_of {n : Nat} {l : Str} {ps : List Str} {p : Str} (h0 : l ≠ "") (e : Txt.split l " " = ps) (hp : p ∈ ps) (hk : ¬ Known n p) : HeadBad n l := ⟨h0, p, by rw [e]; exact hp, hk⟩
theorem figs_free (n : Nat) : Free (figs n) := fg_free (some n)
theorem dash_size (n : Nat) : Txt.split ("- " ++ figs n) " " = [("-" : Str), figs n] := by
 have e : ("- " : Str) ++ figs n = Txt.join " " [("-" : Str), figs n] := by
  have e1 : Txt.join " " [("-" : Str), figs n] = Str.join " " [("-" : Str), figs n] := PySem.StrLaws.glued_eq_join _ _
  rw [e1]
  show _ = ("-" : Str) ++ (" " : Str) ++ figs n
  rw [show ("-" : Str) ++ (" " : Str) = ("- " : Str) by decide +kernel]
 rw [e]
 exact split_join (by simp) (fun p hp => by
  rcases List.mem_cons.mp hp with rfl | hp
  · exact fg_free none
  · rw [List.mem_singleton.mp hp]; exact figs_free n)
theorem a_size (n : Nat) : Txt.split ("a " ++ figs n) " " = [("a" : Str), figs n] := by
 have e : ("a " : Str) ++ figs n = Txt.join " " [("a" : Str), figs n] := by
  have e1 : Txt.join " " [("a" : Str), figs n] = Str.join " " [("a" : Str), figs n] := PySem.StrLaws.glued_eq_join _ _
  rw [e1]
  show _ = ("a" : Str) ++ (" " : Str) ++ figs n
  rw [show ("a" : Str) ++ (" " : Str) = ("a " : Str) by decide +kernel]
 rw [e]
 exact split_join (by simp) (fun p hp => by
  rcases List.mem_cons.mp hp with rfl | hp
  · show 32 ∉ ("a" : Str).cps.toList; decide +kernel
  · rw [List.mem_singleton.mp hp]; exact figs_free n)
theorem one_size (n : Nat) : Txt.split (figs n) " " = [figs n] := by
 have e : figs n = Txt.join " " [figs n] := by
  rw [show Txt.join " " [figs n] = Str.join " " [figs n] from PySem.StrLaws.glued_eq_join _ _]; rfl
 have := split_join (ps := [figs n]) (by simp) (fun p hp => by rw [List.mem_singleton.mp hp]; exact figs_free n)
 rwa [← e] at this
def badH (n : Nat) : List Str := ["x", " 0", "- ", "00", "-  -", figs n, "+0", "--", "-0", ("- " : Str) ++ figs n]
def badT (n : Nat) : List Str := ["", " a", "a ", "A", "a1", "a  -", "a 00", "a x", "1", ("a " : Str) ++ figs n, "a -0", "- -"]
theorem badH_bad (n : Nat) : ∀ l ∈ badH n, HeadBad n l := by
 intro l h
 simp only [badH, List.mem_cons, List.not_mem_nil, or_false] at h
 rcases h with rfl | rfl | rfl | rfl | rfl | rfl | rfl | rfl | rfl | rfl
 · exact hb_of (ps := ["x"]) (p := "x") (by decide +kernel) (by decide +kernel) (by decide +kernel) (nk1 n)
 · exact hb_of (ps := ["", "0"]) (p := "") (by decide +kernel) (by decide +kernel) (by decide +kernel) (empty_not n)
 · exact hb_of (ps := ["-", ""]) (p := "") (by decide +kernel) (by decide +kernel) (by decide +kernel) (empty_not n)
 · exact hb_of (ps := ["00"]) (p := "00") (by decide +kernel) (by decide +kernel) (by decide +kernel) (dbl_not n)
 · exact hb_of (ps := ["-", "", "-"]) (p := "") (by decide +kernel) (by decide +kernel) (by decide +kernel) (empty_not n)
 · exact hb_of (fun z => fg_ne (some n) z) (one_size n) (List.mem_singleton.mpr rfl) (size_not n)
 · exact hb_of (ps := ["+0"]) (p := "+0") (by decide +kernel) (by decide +kernel) (by decide +kernel) (nk2 n)
 · exact hb_of (ps := ["--"]) (p := "--") (by decide +kernel) (by decide +kernel) (by decide +kernel) (nk3 n)
 · exact hb_of (ps := ["-0"]) (p := "-0") (by decide +kernel) (by decide +kernel) (by decide +kernel) (nk4 n)
 · refine hb_of (p := figs n) (fun z => ?_) (dash_size n) (by simp) (size_not n)
   have := dash_size n
   rw [z, show Txt.split "" " " = [("" : Str)] by decide +kernel] at this
   cases this
theorem lb_word {n : Nat} {l w : Str} {ps : List Str} (e : Txt.split l " " = w :: ps) (h : ¬ Word w) : LineBad n l := ⟨w, ps, e, .inl h⟩
theorem lb_num {n : Nat} {l w p : Str} {ps : List Str} (e : Txt.split l " " = w :: ps) (hp : p ∈ ps) (h : ¬ Known n p) : LineBad n l := ⟨w, ps, e, .inr ⟨p, hp, h⟩⟩
theorem nw {p : Str} {c : Nat} (hc : c ∈ p.cps.toList) (h : c < 97 ∨ 122 < c) : ¬ Word p := fun hw => by have := hw.2 c hc; omega
theorem badT_bad (n : Nat) : ∀ l ∈ badT n, LineBad n l := by
 intro l h
 simp only [badT, List.mem_cons, List.not_mem_nil, or_false] at h
 rcases h with rfl | rfl | rfl | rfl | rfl | rfl | rfl | rfl | rfl | rfl | rfl | rfl
 · exact lb_word (w := "") (ps := []) (by decide +kernel) (fun h => h.1 rfl)
 · exact lb_word (w := "") (ps := ["a"]) (by decide +kernel) (fun h => h.1 rfl)
 · exact lb_num (w := "a") (ps := [""]) (p := "") (by decide +kernel) (by decide +kernel) (empty_not n)
 · exact lb_word (w := "A") (ps := []) (by decide +kernel) (nw (c := 65) (by decide +kernel) (by omega))
 · exact lb_word (w := "a1") (ps := []) (by decide +kernel) (nw (c := 49) (by decide +kernel) (by omega))
 · exact lb_num (w := "a") (ps := ["", "-"]) (p := "") (by decide +kernel) (by decide +kernel) (empty_not n)
 · exact lb_num (w := "a") (ps := ["00"]) (p := "00") (by decide +kernel) (by decide +kernel) (dbl_not n)
 · exact lb_num (w := "a") (ps := ["x"]) (p := "x") (by decide +kernel) (by decide +kernel) (nk1 n)
 · exact lb_word (w := "1") (ps := []) (by decide +kernel) (nw (c := 49) (by decide +kernel) (by omega))
 · exact lb_num (a_size n) (List.mem_singleton.mpr rfl) (size_not n)
 · exact lb_num (w := "a") (ps := ["-0"]) (p := "-0") (by decide +kernel) (by decide +kernel) (nk4 n)
 · exact lb_word (w := "-") (ps := ["-"]) (by decide +kernel) (nw (c := 45) (by decide +kernel) (by omega))
theorem asc_figs {n : Nat} (h : n ≤ 800) : Asc (figs n) := by
 refine ⟨?_, by have := (figs_len n).1; omega⟩
 rw [Array.all_eq_true_iff_forall_mem]
 intro c hc
 have := figs_dig n c (Array.mem_toList_iff.mpr hc); exact decide_eq_true (by omega)
theorem asc_app {a b : Str} {k : Nat} (ha : a.cps.all (· < 128) = true) (hk : a.length ≤ k) (hb : Asc b) (h : k + b.length ≤ 900) : Asc (a ++ b) := by
 refine ⟨?_, by rw [PySem.Str.length_append]; omega⟩
 rw [Array.all_eq_true_iff_forall_mem] at ha ⊢
 have hb := Array.all_eq_true_iff_forall_mem.mp hb.1
 intro c hc
 rw [PySem.Str.cps_append] at hc
 rcases Array.mem_append.mp hc with hc | hc
 · exact ha c hc
 · exact hb c hc
theorem asc_lit {a : Str} (h : (a.cps.all (· < 128) && decide (a.length ≤ 900)) = true) : Asc a := by
 rw [Bool.and_eq_true] at h
 exact ⟨h.1, of_decide_eq_true h.2⟩
theorem badH_asc {n : Nat} (hn : n ≤ 800) : ∀ l ∈ badH n, Asc l := by
 intro l h
 simp only [badH, List.mem_cons, List.not_mem_nil, or_false] at h
 rcases h with rfl | rfl | rfl | rfl | rfl | rfl | rfl | rfl | rfl | rfl
 · exact asc_lit (by decide +kernel)
 · exact asc_lit (by decide +kernel)
 · exact asc_lit (by decide +kernel)
 · exact asc_lit (by decide +kernel)
 · exact asc_lit (by decide +kernel)
 · exact asc_figs hn
 · exact asc_lit (by decide +kernel)
 · exact asc_lit (by decide +kernel)
 · exact asc_lit (by decide +kernel)
 · exact asc_app (k := 2) (by decide +kernel) (by decide +kernel) (asc_figs hn) (by have := (figs_len n).1; omega)
theorem badT_asc {n : Nat} (hn : n ≤ 800) : ∀ l ∈ badT n, Asc l := by
 intro l h
 simp only [badT, List.mem_cons, List.not_mem_nil, or_false] at h
 rcases h with rfl | rfl | rfl | rfl | rfl | rfl | rfl | rfl | rfl | rfl | rfl | rfl
 · exact asc_lit (by decide +kernel)
 · exact asc_lit (by decide +kernel)
 · exact asc_lit (by decide +kernel)
 · exact asc_lit (by decide +kernel)
 · exact asc_lit (by decide +kernel)
 · exact asc_lit (by decide +kernel)
 · exact asc_lit (by decide +kernel)
 · exact asc_lit (by decide +kernel)
 · exact asc_lit (by decide +kernel)
 · exact asc_app (k := 2) (by decide +kernel) (by decide +kernel) (asc_figs hn) (by have := (figs_len n).1; omega)
 · exact asc_lit (by decide +kernel)
 · exact asc_lit (by decide +kernel)
theorem pick_of {hs : List Str} {k : Nat} (h : k < hs.length) : ∃ l ∈ hs, atI (hs.map V.str) (k : Int) = some (.str l) := ⟨hs[k], List.getElem_mem h, atI_nat (by rw [List.getElem?_map, List.getElem?_eq_getElem h]; rfl)⟩
def spSpoilt : Sp := fun vs H Q _ => ∃ (l : Addr) (ls : List Str) (way cell : Int) (heads : List (Option Nat)) (notes : Notes Str), vs = [.ref l, .int way, .int cell] ∧ H l = some (.lst (ls.map V.str)) ∧ GoodLs ls heads notes ∧ (∀ x ∈ ls, Asc x) ∧ ls.length ≤ 100 ∧
 ∀ H' r ls', H' r = some (.lst (ls'.map V.str)) → BadLs ls' → (∀ x ∈ ls', Asc x) → ls'.length ≤ 400 → Same H H' → H r = none → Q (.ref r) H'
section
variable {P : Program} {w : World} {K : PySem.W.Frag} {mg : Str → Option Value} {base : Heap} {A : Adr}
theorem ok_spoilt (T : Txt K mg A) : FnOk P w K mg base (CXe P w) 1 A.a_spoilt A.d_spoilt ["_law_lines", "_law_way", "_law_cell"] spSpoilt := by
 refine T.f_spoilt.okN sc_spoilt (fun vs H Q E h => ?_) (fun cdv B outer s H vs Q E hr h => ?_)
 · obtain ⟨l, ls, way, cell, heads, notes, rfl, _⟩ := h
   rfl
 obtain ⟨l, ls, way, cell, heads, notes, rfl, hl, ⟨l0, lt, rfl, hg, ln, gl⟩, hasc, hz, q⟩ := h
 have hu := hu_of hr
 have hq : _ + 1 + 0 < cLine := hu_of hr
 have nd := sc_spoilt.nd
 refine ⟨_, (pss_cons (ps_set (i := 3) nd rfl (nm_spoilt.at rfl (i := 3) rfl rfl) (pe_callTy call_str_int rfl T.z_str bt_str (pa_cons (pe_op op_sub (pe_callB call_len_f rfl T.z_len bt_len (pa_cons (pvn nm_spoilt rfl rfl 0 rfl rfl) pa_nil)) pe_int) pa_nil)))
  (pss_cons (ps_set (i := 4) nd rfl (nm_spoilt.at rfl (i := 4) rfl rfl) (pe_lst (pa_cons pe_str (pa_cons pe_str (pa_cons pe_str (pa_cons pe_str (pa_cons pe_str (pa_cons (pvn nm_spoilt rfl rfl 3 rfl rfl) (pa_cons pe_str (pa_cons pe_str (pa_cons pe_str (pa_cons (pe_op op_add_f pe_str (pvn nm_spoilt rfl rfl 3 rfl rfl)) pa_nil))))))))))))
  (pss_cons (ps_set (i := 5) nd rfl (nm_spoilt.at rfl (i := 5) rfl rfl) (pe_lst (pa_cons pe_str (pa_cons pe_str (pa_cons pe_str (pa_cons pe_str (pa_cons pe_str (pa_cons pe_str (pa_cons pe_str (pa_cons pe_str (pa_cons pe_str (pa_cons (pe_op op_add_f pe_str (pvn nm_spoilt rfl rfl 3 rfl rfl)) (pa_cons pe_str (pa_cons pe_str pa_nil))))))))))))))
  (pss_cons (ps_set (i := 6) nd rfl (nm_spoilt.at rfl (i := 6) rfl rfl) (pe_op op_mod (pe_op op_mod (pe_op op_mul_f (pvn nm_spoilt rfl rfl 2 rfl rfl) pe_int) pe_int) (pe_callB call_len_f rfl T.z_len bt_len (pa_cons (pvn nm_spoilt rfl rfl 0 rfl rfl) pa_nil))))
  (pss_cons (ps_if (pt_cmpR (op_eq_f hq) (pvn nm_spoilt rfl rfl 1 rfl rfl) pe_int (nomark _)) (pss_one (ps_ret (pe_lst pa_nil))) pss_nil)
  (pss_cons (ps_if (pt_cmpR (op_eq_f hq) (pvn nm_spoilt rfl rfl 6 rfl rfl) pe_int (nomark _)) (pss_one (ps_ret (pe_op op_add_f (pe_lst (pa_cons (pe_idx hu (pvn nm_spoilt rfl rfl 4 rfl rfl) (pe_op op_mod (pe_op op_mod (pe_op op_mul_f (pvn nm_spoilt rfl rfl 2 rfl rfl) pe_int) pe_int) (pe_callB call_len_f rfl T.z_len bt_len (pa_cons (pvn nm_spoilt rfl rfl 4 rfl rfl) pa_nil))) (fun _ _ => rfl)) pa_nil)) (pe_slice sl_f (pvn nm_spoilt rfl rfl 0 rfl rfl) (po_some pe_int) po_none)))) pss_nil)
  (pss_cons (ps_set (i := 7) nd rfl (nm_spoilt.at rfl (i := 7) rfl rfl) (pe_idx hu (pvn nm_spoilt rfl rfl 5 rfl rfl) (pe_op op_mod (pe_op op_mod (pe_op op_mul_f (pvn nm_spoilt rfl rfl 2 rfl rfl) pe_int) pe_int) (pe_callB call_len_f rfl T.z_len bt_len (pa_cons (pvn nm_spoilt rfl rfl 5 rfl rfl) pa_nil))) (fun _ _ => rfl)))
  (pss_one (ps_ret (pe_op op_add_f (pe_op op_add_f (pe_slice sl_f (pvn nm_spoilt rfl rfl 0 rfl rfl) po_none (po_some (pvn nm_spoilt rfl rfl 6 rfl rfl))) (pe_lst (pa_cons (pvn nm_spoilt rfl rfl 7 rfl rfl) pa_nil))) (pe_slice sl_f (pvn nm_spoilt rfl rfl 0 rfl rfl) (po_some (pe_op op_add_f (pvn nm_spoilt rfl rfl 6 rfl rfl) pe_int)) po_none))))))))))), ?_⟩
 show tSeq _ _ _ [some (.ref l), some (.int way), some (.int cell), none, none, none, none, none] H
 have lz : lt.length ≤ 99 := by simp at hz; omega
 have hn : ((lt.length + 1 : Nat) : Int) - 1 = (lt.length : Int) := by omega
 refine step1 fun D1 n1 r1 _ _ => ?_
 exists 1, hl, hn
 refine ⟨lg (by omega), n1 _ _ ?_⟩
 show tSeq _ _ _ [some (.ref l), some (.int way), some (.int cell), some (.str (figs lt.length)), none, none, none, none] H
 generalize hfn : lt.length = n at *
 have fl := (figs_len n).1
 refine step1 fun D2 n2 r2 _ _ => ?_
 exists 1, L2.ap_seq
 refine ⟨small (by rw [show ("- " : Str).length = 2 by decide +kernel]; omega), small (Nat.le_of_ble_eq_true rfl), ?_⟩
 intro bh fbh; generalize e_H1 : upd H bh _ = H1; have i1 := new_at e_H1; have s1 := new_same fbh e_H1
 have i1 : H1 bh = some (.lst ((badH n).map V.str)) := i1
 refine n2 _ _ ?_
 refine step1 fun D3 n3 r3 _ _ => ?_
 exists 1, L2.ap_seq
 refine ⟨small (by rw [show ("a " : Str).length = 2 by decide +kernel]; omega), small (Nat.le_of_ble_eq_true rfl), ?_⟩
 intro bt fbt; generalize e_H2 : upd H1 bt _ = H2; have i2 := new_at e_H2; have s2 := new_same fbt e_H2
 have i2 : H2 bt = some (.lst ((badT n).map V.str)) := i2
 refine n3 _ _ ?_
 have s02 := s1.trans s2
 have hl2 := s02 _ _ hl
 have i12 := s2 _ _ i1
 have hln : (V.str l0 :: lt.map V.str).length = n + 1 := by rw [List.length_cons, List.length_map, hfn]
 have c0 : (0 : Int) < ((n + 1 : Nat) : Int) := by omega
 obtain ⟨sp, esp, lsp⟩ := modN (cell * 48271 % 1033) ((n + 1 : Nat) : Int) c0
 refine step1 fun D4 n4 r4 _ _ => ?_
 exists 1, hl2, cmul, hfn, c0, esp
 refine n4 _ _ ?_
 have hfin : ∀ x ∈ l0 :: lt, Asc x := hasc
 by_cases h3 : way = 3
 · refine stepT (fun R hR => by exists 1, h3; exact hR) fun D5 n5 r5 _ _ => ?_
   exists 1, L2.ap_seq
   intro r fr; generalize e_H3 : upd H2 r _ = H3; have i3 := new_at e_H3; have s3 := new_same fr e_H3
   exact r5 _ _ (q H3 r [] i3 (.inl rfl) (fun x hx => nomatch hx) (Nat.zero_le _) (s02.trans s3) (nof s02 fr))
 · refine stepF (fun R hR => by exists 1, h3; exact hR) ?_
   by_cases hs0 : sp = 0
   · have hs0' : (sp : Int) = 0 := by omega
     obtain ⟨k, ek, lk⟩ := modN (cell * 48271 % 1039) 10 (by decide)
     obtain ⟨hb, hbm, hba⟩ := pick_of (hs := badH n) (k := k) (by show k < 10; omega)
     have hbl : (badH n).length = 10 := rfl
     refine stepT (fun R hR => by exists 1, hs0'; exact hR) fun D5 n5 r5 _ _ => ?_
     exists 1, i12, cmul, hbl
     refine ⟨by omega, .str hb, by rw [show ((10 : Nat) : Int) = 10 from rfl, ek]; exact hba, small (Nat.le_of_ble_eq_true rfl), ?_⟩
     intro p1 fp1; generalize e_H3 : upd H2 p1 _ = H3; have i3 := new_at e_H3; have s3 := new_same fp1 e_H3
     exists 1, s3 _ _ hl2, cut_1
     intro p2 fp2; generalize e_H4 : upd H3 p2 _ = H4; have i4 := new_at e_H4; have s4 := new_same fp2 e_H4
     have i4 : H4 p2 = some (.lst (lt.map V.str)) := i4
     exists 1, s4 _ _ i3, i4
     refine ⟨small (by rw [hfn]; omega), ?_⟩
     intro p3 fp3; generalize e_H5 : upd H4 p3 _ = H5; have i5 := new_at e_H5; have s5 := new_same fp3 e_H5
     refine r5 _ _ (q H5 p3 (hb :: lt) i5 (.inr ⟨hb, lt, rfl, .inl (by rw [hfn]; exact badH_bad n hb hbm)⟩) (fun x hx => ?_) (by rw [List.length_cons, hfn]; omega) (((s02.trans s3).trans s4).trans s5) (nof ((s02.trans s3).trans s4) fp3))
     rcases List.mem_cons.mp hx with rfl | y
     · exact badH_asc (by omega) _ hbm
     · exact hasc x (List.mem_cons_of_mem _ y)
   · have hs0' : ¬ (sp : Int) = 0 := by omega
     obtain ⟨k, ek, lk⟩ := modN (cell * 48271 % 1049) 12 (by decide)
     obtain ⟨tb, tbm, tba⟩ := pick_of (hs := badT n) (k := k) (by show k < 12; omega)
     have tbl : (badT n).length = 12 := rfl
     refine stepF (fun R hR => by exists 1, hs0'; exact hR) ?_
     refine step1 fun D5 n5 r5 _ _ => ?_
     exists 1, i2, cmul, tbl
     refine ⟨by omega, .str tb, by rw [show ((12 : Nat) : Int) = 12 from rfl, ek]; exact tba, n5 _ _ ?_⟩
     have e1 : (sp : Int) + 1 = ((sp + 1 : Nat) : Int) := by omega
     exists 1, hl2, cut_to
     intro p1 fp1; generalize e_H3 : upd H2 p1 _ = H3; have i3 := new_at e_H3; have s3 := new_same fp1 e_H3
     refine ⟨small (Nat.le_of_ble_eq_true rfl), ?_⟩
     intro p2 fp2; generalize e_H4 : upd H3 p2 _ = H4; have i4 := new_at e_H4; have s4 := new_same fp2 e_H4
     exists 1, s4 _ _ i3, i4
     refine ⟨small (by rw [List.length_take, hln]; omega), ?_⟩
     intro p3 fp3; generalize e_H5 : upd H4 p3 _ = H5; have i5 := new_at e_H5; have s5 := new_same fp3 e_H5
     have s25 := (s3.trans s4).trans s5
     exists 1, s25 _ _ hl2, e1, cut_from
     intro p4 fp4; generalize e_H6 : upd H5 p4 _ = H6; have i6 := new_at e_H6; have s6 := new_same fp4 e_H6
     exists 1, s6 _ _ i5, i6
     refine ⟨small (by rw [List.length_drop, List.length_append, List.length_take, hln]; simp; omega), ?_⟩
     intro p5 fp5; generalize e_H7 : upd H6 p5 _ = H7; have i7 := new_at e_H7; have s7 := new_same fp5 e_H7
     obtain ⟨s', rfl⟩ : ∃ s', sp = s' + 1 := ⟨sp - 1, by omega⟩
     have hs' : s' < n := by omega
     have s27 := (s25.trans s6).trans s7
     have lt' : (lt.take s' ++ tb :: lt.drop (s' + 1)).length = n := by
      rw [List.length_append, List.length_take, List.length_cons, List.length_drop, hfn]; omega
     refine q H7 p5 (l0 :: (lt.take s' ++ tb :: lt.drop (s' + 1))) ?_ (.inr ⟨l0, _, rfl, .inr ⟨⟨heads, by rw [lt']; exact hg⟩, s', tb, ?_, by rw [lt']; exact badT_bad n tb tbm, fun i l' hi hl' => ?_⟩⟩) (fun x hx => ?_) (by rw [List.length_cons, lt']; omega) (s02.trans s27) (nof (s02.trans (s25.trans s6)) fp5)
     · rw [i7]
       simp [List.map_take, List.map_drop]
     · rw [List.getElem?_append_right (by rw [List.length_take]; omega), List.length_take, Nat.min_eq_left (by omega), Nat.sub_self]; rfl
     · rw [List.getElem?_append_left (by rw [List.length_take]; omega), List.getElem?_take_of_lt hi] at hl'
       have hil := getElem?_ne_none_lt hl'
       have hin : i < notes.length := by omega
       refine ⟨notes[i], ?_⟩
       rw [lt']
       exact gl i l' _ hl' (List.getElem?_eq_getElem hin)
     · rcases List.mem_cons.mp hx with rfl | hx
       · exact hasc _ (by simp)
       · rcases List.mem_append.mp hx with hx | hx
         · exact hasc x (List.mem_cons_of_mem _ (List.mem_of_mem_take hx))
         · rcases List.mem_cons.mp hx with rfl | hx
           · exact badT_asc (by omega) _ tbm
           · exact hasc x (List.mem_cons_of_mem _ (List.mem_of_mem_drop hx))
end
end PW
namespace PW
open PySem L2 WM TM
theorem join_mem : ∀ {ps : List Str} {c : Nat}, c ∈ (Str.join ⟨#[32]⟩ ps).cps.toList → c = 32 ∨ ∃ p ∈ ps, c ∈ p.cps.toList
 | [], c, h => by
  have : c ∈ (Str.empty).cps.toList := h
  exact absurd this (by simp [Str.empty])
 | [p], c, h => .inr ⟨p, by simp, h⟩
 | p :: q :: r, c, h => by
  rw [join_codes] at h
  rcases List.mem_append.mp h with y | h
  · exact .inr ⟨p, by simp, y⟩
  · rcases List.mem_cons.mp h with h | h
    · exact .inl h
    · rcases join_mem h with h | ⟨p', hp, h⟩
      · exact .inl h
      · exact .inr ⟨p', List.mem_cons_of_mem _ hp, h⟩
theorem sum_len : ∀ {ps : List Str}, (∀ p ∈ ps, p.length ≤ 64) → (ps.map (·.length)).sum ≤ ps.length * 64
 | [], _ => Nat.le_refl _
 | p :: ps, h => by
  have ih := sum_len (ps := ps) fun q hq => h q (List.mem_cons_of_mem _ hq)
  have := h p (by simp)
  rw [List.map_cons, List.sum_cons, List.length_cons, Nat.add_mul]
  omega
theorem asc_join {ps : List Str} (h : ∀ p ∈ ps, Asc p ∧ p.length ≤ 64) (hl : ps.length ≤ 13) : Asc (Txt.join " " ps) := by
 refine ⟨?_, ?_⟩
 · rw [Array.all_eq_true_iff_forall_mem]
   intro c hc
   have e : Txt.join " " ps = Str.join ⟨#[32]⟩ ps := by rw [blank]; exact PySem.StrLaws.glued_eq_join _ _
   rw [e] at hc
   rcases join_mem (Array.mem_toList_iff.mpr hc) with rfl | ⟨p, hp, hcp⟩
   · decide
   · exact Array.all_eq_true_iff_forall_mem.mp (h p hp).1.1 c (Array.mem_toList_iff.mp hcp)
 · have e : (Txt.join " " ps).length = (ps.map (·.length)).sum + (ps.length - 1) * (" " : Str).length := PySem.size_glued " " ps
   rw [e, blank_len]
   have := sum_len fun p hp => (h p hp).2
   omega
theorem asc_fg {n : Nat} {t : Option Nat} (hn : n ≤ 63) (h : ∀ m, t = some m → m < n) : Asc (fg t) ∧ (fg t).length ≤ 64 := by
 cases t with
 | none => exact ⟨asc_lit (by show (("-" : Str).cps.all (· < 128) && decide (("-" : Str).length ≤ 900)) = true; decide +kernel), by show ("-" : Str).length ≤ 64; decide +kernel⟩
 | some m =>
  have := h m rfl
  exact ⟨asc_figs (by omega), by have := (figs_len m).1; show (figs m).length ≤ 64; omega⟩
theorem asc_hline {n : Nat} {ts : List (Option Nat)} (hn : n ≤ 63) (h : Nums n ts) (hl : ts.length ≤ 12) : Asc (hline ts) :=
 asc_join (fun p hp => by obtain ⟨t, ht, rfl⟩ := List.mem_map.mp hp; exact asc_fg hn (h t ht)) (by rw [List.length_map]; omega)
theorem asc_word {wd : Str} (h : Word wd) (hl : wd.length ≤ 10) : Asc wd := by
 refine ⟨?_, by omega⟩
 rw [Array.all_eq_true_iff_forall_mem]
 intro c hc
 have := h.2 c (Array.mem_toList_iff.mpr hc); exact decide_eq_true (by omega)
theorem asc_nline {n : Nat} {p : Str × List (Option Nat)} (hn : n ≤ 63) (hw : Word p.1) (wl : p.1.length ≤ 10) (h : Nums n p.2) (hl : p.2.length ≤ 12) : Asc (nline p) :=
 asc_join (fun q hq => by
  rcases List.mem_cons.mp hq with rfl | y
  · exact ⟨asc_word hw wl, by omega⟩
  · obtain ⟨t, ht, rfl⟩ := List.mem_map.mp y; exact asc_fg hn (h t ht)) (by rw [List.length_cons, List.length_map]; omega)
theorem hline_one (t : Option Nat) : hline [t] = fg t := by
 show Txt.join " " [fg t] = fg t
 rw [show Txt.join " " [fg t] = Str.join " " [fg t] from PySem.StrLaws.glued_eq_join _ _]; rfl
theorem nums_sm {n : Nat} {ts : List (Option Nat)} (hn : n ≤ 1000) (h : Nums n ts) : SmN ts := fun t ht m hm => by have := h t ht m hm; omega
def GoodN (n : Nat) (notes : Notes Str) : Prop := ∀ p ∈ notes, Word p.1 ∧ p.1.length ≤ 10 ∧ Nums n p.2 ∧ p.2.length ≤ 12
theorem cut_some (ns : List Int) (lo hi : Option Int) : ∃ cells : List Int, cutV (ns.map V.int) lo hi = cells.map V.int ∧ cells.length ≤ ns.length := by
 refine ⟨_, by unfold cutV; rw [← List.map_drop, ← List.map_take], ?_⟩
 rw [List.length_take, List.length_drop]; omega
def Rows2 (G : Hp) (nl ll : Addr) (N : List V) (notes : Notes Str) : Prop := N.length = notes.length ∧ ∀ (i : Nat) (v : V) (p : Str × List (Option Nat)), N[i]? = some v → notes[i]? = some p → ∃ t l, v = .ref t ∧ G t = some (.tup [.str p.1, .ref l]) ∧ G l = some (.lst (p.2.map thV)) ∧ l ≠ nl ∧ l ≠ ll
theorem Rows2.snoc {G : Hp} {nl ll : Addr} {N : List V} {notes : Notes Str} (h : Rows2 G nl ll N notes) {t l : Addr} {wd : Str} {ts : List (Option Nat)} (g1 : G t = some (.tup [.str wd, .ref l])) (g2 : G l = some (.lst (ts.map thV))) (g3 : l ≠ nl) (g4 : l ≠ ll) : Rows2 G nl ll (N ++ [.ref t]) (notes ++ [(wd, ts)]) := by
 refine ⟨by simp [h.1], fun i v p a b => ?_⟩
 by_cases hi : i < notes.length
 · rw [List.getElem?_append_left (by rw [h.1]; exact hi)] at a
   rw [List.getElem?_append_left hi] at b
   exact h.2 i v p a b
 · rw [List.getElem?_append_right (by rw [h.1]; omega)] at a
   rw [List.getElem?_append_right (by omega)] at b
   have := getElem?_ne_none_lt b
   have e0 : i - notes.length = 0 := by simp at this; omega
   rw [h.1, e0] at a
   rw [e0] at b
   cases a; cases b
   exact ⟨t, l, rfl, g1, g2, g3, g4⟩
theorem Rows2.keep {G G' : Hp} {nl ll : Addr} {N : List V} {notes : Notes Str} (h : Rows2 G nl ll N notes) (k : ∀ c o, G c = some o → c ≠ nl → c ≠ ll → G' c = some o) (hn : ∃ xs, G nl = some (.lst xs)) (hl : ∃ xs, G ll = some (.lst xs)) : Rows2 G' nl ll N notes :=
 ⟨h.1, fun i v p a b => by
  obtain ⟨t, l, e1, e2, e3, e4, e5⟩ := h.2 i v p a b
  obtain ⟨xs, hn⟩ := hn
  obtain ⟨ys, hl⟩ := hl
  exact ⟨t, l, e1, k _ _ e2 (ne_of e2 hn (by intro z; cases z)) (ne_of e2 hl (by intro z; cases z)), k _ _ e3 e4 e5, e4, e5⟩⟩
theorem Rows2.at_ {G : Hp} {nl ll : Addr} {N : List V} {notes : Notes Str} (h : Rows2 G nl ll N notes) (hn : G nl = some (.lst N)) : NAt12 G nl notes :=
 ⟨N, hn, h.1, fun i v p a b => by
  obtain ⟨t, l, e1, e2, e3, _⟩ := h.2 i v p a b
  exact ⟨t, l, e1, e2, e3⟩⟩
theorem good_lines {n : Nat} {heads : List (Option Nat)} {notes : Notes Str} (hl : notes.length = n) (nh : Nums n heads) (gn : GoodN n notes) : GoodLs (hline heads :: notes.map nline) heads notes := by
 refine ⟨_, _, rfl, by rw [List.length_map, hl]; exact hline_good nh, List.length_map .., fun i l p a b => ?_⟩
 rw [List.getElem?_map, b] at a
 cases a
 rw [List.length_map, hl]
 obtain ⟨g1, _, g3, _⟩ := gn p (List.mem_of_getElem? b)
 exact nline_good g1 g3
theorem eq_strs {H : Hp} {p q : Addr} {ls : List Str} (hp : H p = some (.lst (ls.map V.str))) (hq : H q = some (.lst (ls.map V.str))) : EqRef 0 H (.ref p) (.ref q) true := by
 refine ⟨p, q, rfl, rfl, .inl ⟨_, _, fun _ => true, hp, hq, rfl, fun j u v h1 h2 => ?_, (List.all_eq_true.mpr fun _ _ => rfl).symm⟩⟩
 rw [h1] at h2; cases h2
 obtain ⟨z, _, rfl⟩ := List.mem_map.mp (List.mem_of_getElem? h1)
 have q := EqHd.flat (H := H) (n := 0) (x := .str z) (y := .str z) rfl rfl
 have e : eqV (.str z) (.str z) = true := by show (z == z) = true; exact beq_self_eq_true _
 rw [e] at q
 exact q
section
variable {P : Program} {w : World} {K : PySem.W.Frag} {mg : Str → Option Value} {base : Heap} {A : Adr}
theorem ok_law {f : Addr} {fd : FuncData} (F : Fun K "law" "law" s_law f fd) (T : Txt K mg A) : FnOk P w K mg base (CXe P w) 14 f fd ["_law_script"] (spLaw K) := by
 refine F.okN sc_law (fun vs H Q E h => ?_) (fun cdv B outer s H vs Q E hr h => ?_)
 · obtain ⟨a, ns, rfl, _⟩ := h
   rfl
 obtain ⟨a, ns, rfl, hS, h63, hQ⟩ := h
 have hu := hu_of hr
 have hq : _ + 1 + 0 < cLine := hu_of hr
 have nd := sc_law.nd
 generalize eL : ns.map V.int = L at hS
 have lL : L.length = ns.length := by rw [← eL, List.length_map]
 refine ⟨_, (pss_cons (ps_set (i := 1) nd rfl (nm_law.at rfl (i := 1) rfl rfl) (pe_slice (sl_S a L) (pvn nm_law rfl rfl 0 rfl rfl) (po_some pe_int) (po_some pe_int)))
  (pss_cons (ps_set (i := 2) nd rfl (nm_law.at rfl (i := 2) rfl rfl) (pe_call (ok_places_drawn T) (hr.mono (by decide)) rfl T.m_places_drawn T.f_places_drawn.kp T.b_places_drawn .nil passN (pa_cons (pe_call (ok_at T) (hr.mono (by decide)) rfl T.m_at T.f_at.kp T.b_at .nil passN (pa_cons (pvn nm_law rfl rfl 0 rfl rfl) (pa_cons pe_int pa_nil))) (pa_cons (pe_callB call_len_f rfl T.z_len bt_len (pa_cons (pvn nm_law rfl rfl 1 rfl rfl) pa_nil)) pa_nil))))
  (pss_cons (ps_set (i := 3) nd rfl (nm_law.at rfl (i := 3) rfl rfl) (pe_lst pa_nil))
  (pss_cons (ps_set (i := 4) nd rfl (nm_law.at rfl (i := 4) rfl rfl) (pe_lst (pa_cons (pe_call (ok_line_of T) (hr.mono (by decide)) rfl T.m_line_of T.f_line_of.kp T.b_line_of .nil passN (pa_cons (pvn nm_law rfl rfl 2 rfl rfl) pa_nil)) pa_nil)))
  (pss_cons (ps_for PassesOwn.never rfl (pi_range1 rfl T.z_range (pa_cons (pe_callB call_len_f rfl T.z_len bt_len (pa_cons (pvn nm_law rfl rfl 1 rfl rfl) pa_nil)) pa_nil)) (pg_name (i := 5) nd rfl (nm_law.at rfl (i := 5) rfl rfl)) (pss_cons (ps_set (i := 10) nd rfl (nm_law.at rfl (i := 10) rfl rfl) (pe_call (ok_word_drawn T) (hr.mono (by decide)) rfl T.m_word_drawn T.f_word_drawn.kp T.b_word_drawn .nil passN (pa_cons (pe_idx hu (pvn nm_law rfl rfl 1 rfl rfl) (pvn nm_law rfl rfl 5 rfl rfl) (fun _ _ => rfl)) (pa_cons (pvn nm_law rfl rfl 5 rfl rfl) pa_nil))))
   (pss_cons (ps_set (i := 11) nd rfl (nm_law.at rfl (i := 11) rfl rfl) (pe_call (ok_places_drawn T) (hr.mono (by decide)) rfl T.m_places_drawn T.f_places_drawn.kp T.b_places_drawn .nil passN (pa_cons (pe_idx hu (pvn nm_law rfl rfl 1 rfl rfl) (pvn nm_law rfl rfl 5 rfl rfl) (fun _ _ => rfl)) (pa_cons (pe_callB call_len_f rfl T.z_len bt_len (pa_cons (pvn nm_law rfl rfl 1 rfl rfl) pa_nil)) pa_nil))))
   (pss_cons (ps_expr (pe_append (pvn nm_law rfl rfl 3 rfl rfl) (pe_tup (pa_cons (pvn nm_law rfl rfl 10 rfl rfl) (pa_cons (pvn nm_law rfl rfl 11 rfl rfl) pa_nil)))))
   (pss_one (ps_expr (pe_append (pvn nm_law rfl rfl 4 rfl rfl) (pe_join pe_str (pe_op op_add_f (pe_lst (pa_cons (pvn nm_law rfl rfl 10 rfl rfl) pa_nil)) (pe_comp (i := 13) (CompScope.mk' (fsc := defScope s_law) (cl := []) (clN := []) (N := ["_law_script", "_law_cells", "_law_heads", "_law_notes", "_law_lines", "_law_k", "_law_found", "_law_way", "_law_handed", "_law_view", "_law_word", "_law_row", "_law_note", "_law_number"]) rfl rfl (sub_of sub_nil) rfl rfl (by decide +kernel)) nd rfl rfl (pi_seq (pvn nm_law rfl rfl 11 rfl rfl)) (fun _ _ _ _ _ => pts_nil) (fun _ _ _ _ _ => (pe_call (ok_line_of T) (hr.mono (by decide)) rfl T.m_line_of T.f_line_of.kp T.b_line_of .nil passN (pa_cons (pe_lst (pa_cons (pv 13) pa_nil)) pa_nil)))))))))))))
  (pss_cons (ps_set (i := 6) nd rfl (nm_law.at rfl (i := 6) rfl rfl) (pe_call (ok_shown T) (hr.mono (by decide)) rfl T.m_shown T.f_shown.kp T.b_shown .nil passN (pa_cons (pe_tup (pa_cons (pe_callTy call_list_f rfl T.z_list bt_list (pa_cons (pvn nm_law rfl rfl 2 rfl rfl) pa_nil)) (pa_cons (pe_comp (i := 12) (CompScope.mk' (fsc := defScope s_law) (cl := []) (clN := []) (N := ["_law_script", "_law_cells", "_law_heads", "_law_notes", "_law_lines", "_law_k", "_law_found", "_law_way", "_law_handed", "_law_view", "_law_word", "_law_row", "_law_note", "_law_number"]) rfl rfl (sub_of sub_nil) rfl rfl (by decide +kernel)) nd rfl rfl (pi_seq (pvn nm_law rfl rfl 3 rfl rfl)) (fun _ _ _ _ _ => pts_nil) (fun _ _ _ _ _ => (pe_tup (pa_cons (pe_idx hu (pv 12) pe_int (fun _ _ => rfl)) (pa_cons (pe_callTy call_list_f rfl T.z_list bt_list (pa_cons (pe_idx hu (pv 12) pe_int (fun _ _ => rfl)) pa_nil)) pa_nil))))) pa_nil))) pa_nil)))
  (pss_cons (ps_if (PW.pt (pw_or (pt_not (pt_val (pe_callB call_isi_f rfl T.z_isinstance bt_isinstance (pa_cons (pvn nm_law rfl rfl 6 rfl rfl) (pa_cons (pe_bltn (v := .ty "list") rfl T.z_list bt_list rfl) pa_nil))))) (pw_or1 (pt_cmpR (op_ne_f hq) (pe_callB call_len_f rfl T.z_len bt_len (pa_cons (pvn nm_law rfl rfl 6 rfl rfl) pa_nil)) (pe_callB call_len_f rfl T.z_len bt_len (pa_cons (pvn nm_law rfl rfl 4 rfl rfl) pa_nil)) (nomark _))))) (pss_one (ps_ret pe_bl)) pss_nil)
  (pss_cons (ps_for PassesOwn.never rfl (pi_range1 rfl T.z_range (pa_cons (pe_callB call_len_f rfl T.z_len bt_len (pa_cons (pvn nm_law rfl rfl 4 rfl rfl) pa_nil)) pa_nil)) (pg_name (i := 5) nd rfl (nm_law.at rfl (i := 5) rfl rfl)) (pss_one (ps_if (PW.pt (pw_or (pt_not (pt_val (pe_callB call_isi_f rfl T.z_isinstance bt_isinstance (pa_cons (pe_idx hu (pvn nm_law rfl rfl 6 rfl rfl) (pvn nm_law rfl rfl 5 rfl rfl) (fun _ _ => rfl)) (pa_cons (pe_bltn (v := .ty "str") rfl T.z_str bt_str rfl) pa_nil))))) (pw_or1 (pt_cmpR (op_ne_f hq) (pe_idx hu (pvn nm_law rfl rfl 6 rfl rfl) (pvn nm_law rfl rfl 5 rfl rfl) (fun _ _ => rfl)) (pe_idx hu (pvn nm_law rfl rfl 4 rfl rfl) (pvn nm_law rfl rfl 5 rfl rfl) (fun _ _ => rfl)) (nomark _))))) (pss_one (ps_ret pe_bl)) pss_nil)))
  (pss_cons (ps_set (i := 7) nd rfl (nm_law.at rfl (i := 7) rfl rfl) (pe_op op_mod (pe_op op_mod (pe_op op_mul_f (pe_call (ok_at T) (hr.mono (by decide)) rfl T.m_at T.f_at.kp T.b_at .nil passN (pa_cons (pvn nm_law rfl rfl 0 rfl rfl) (pa_cons pe_int pa_nil))) pe_int) pe_int) pe_int))
  (pss_cons (ps_if (pt_cmpR op_gt (pvn nm_law rfl rfl 7 rfl rfl) pe_int (nomark _)) (pss_one (ps_set (i := 4) nd rfl (nm_law.at rfl (i := 4) rfl rfl) (pe_call (ok_spoilt T) (hr.mono (by decide)) rfl T.m_spoilt T.f_spoilt.kp T.b_spoilt .nil passN (pa_cons (pvn nm_law rfl rfl 4 rfl rfl) (pa_cons (pvn nm_law rfl rfl 7 rfl rfl) (pa_cons (pe_call (ok_at T) (hr.mono (by decide)) rfl T.m_at T.f_at.kp T.b_at .nil passN (pa_cons (pvn nm_law rfl rfl 0 rfl rfl) (pa_cons pe_int pa_nil))) pa_nil)))))) pss_nil)
  (pss_cons (ps_set (i := 8) nd rfl (nm_law.at rfl (i := 8) rfl rfl) (pe_callTy call_list_f rfl T.z_list bt_list (pa_cons (pvn nm_law rfl rfl 4 rfl rfl) pa_nil)))
  (pss_cons (ps_set (i := 9) nd rfl (nm_law.at rfl (i := 9) rfl rfl) pe_non)
  (pss_cons (ps_try rfl rfl rfl (pssx_one (psx_set (i := 9) nd rfl (nm_law.at rfl (i := 9) rfl rfl) (pex_call (ok_read T) (hr.mono (by decide)) rfl T.m_read T.f_read.kp T.b_read .nil (pa_cons (pvn nm_law rfl rfl 8 rfl rfl) pa_nil)))) (ph_calls (hr.hd (by decide)) rfl T.m_NoView (fun _ _ => (pss_one (ps_ret (pe_and (pe_cmpR op_gt (pvn nm_law rfl rfl 7 rfl rfl) pe_int (nomark _)) (pe_and (pe_cmpR (op_eq_f hq) (pvn nm_law rfl rfl 8 rfl rfl) (pvn nm_law rfl rfl 4 rfl rfl) (nomark _)) (pe_one (pe_call (ok_under_base T) ((hr.mono (by decide)).mark (by decide) _) rfl T.m_under_base T.f_under_base.kp T.b_under_base .nil passN (pa_cons (pvn nm_law rfl rfl 4 rfl rfl) pa_nil)))))))) ph_nil))
  (pss_one (ps_ret (pe_and (pe_cmpR op_lt (pvn nm_law rfl rfl 7 rfl rfl) pe_int (nomark _)) (pe_and (pe_cmpR (op_eq_f hq) (pvn nm_law rfl rfl 8 rfl rfl) (pvn nm_law rfl rfl 4 rfl rfl) (nomark _)) (pe_one (pe_call (ok_is_view T) (hr.mono (by decide)) rfl T.m_is_view T.f_is_view.kp T.b_is_view .nil passN (pa_cons (pvn nm_law rfl rfl 9 rfl rfl) (pa_cons (pvn nm_law rfl rfl 2 rfl rfl) (pa_cons (pvn nm_law rfl rfl 3 rfl rfl) pa_nil)))))))))))))))))))))), ?_⟩
 show tSeq _ _ _ [some (.ref a), none, none, none, none, none, none, none, none, none, none, none, none, none] H
 refine step1 fun D1 n1 r1 _ _ => ?_
 exists 1, hS
 intro cl fcl; generalize e_H1 : upd H cl _ = H1; have i1 := new_at e_H1; have s1 := new_same fcl e_H1
 obtain ⟨cells, ecut, dl2⟩ := cut_some ns (some 3) (some 150)
 rw [← eL, ecut] at i1
 refine n1 _ _ ?_
 have hS1 := hS.same s1
 generalize hn : cells.length = n
 have n63 : n ≤ 63 := by omega
 refine step1 fun D2 n2 r2 _ _ => ?_
 exists 1, i1, hn
 refine ⟨a, ns, 1, rfl, by rw [eL]; exact hS1, ?_⟩
 exists 1, i1, hn
 refine ⟨sAt ns 1, n, rfl, by omega, fun H2 hd heads i2 nh lh s2 fhd => n2 _ _ ?_⟩
 refine step1 fun D3 n3 r3 _ _ => ?_
 exists 1, L2.ap_seq
 intro nl fnl; generalize e_H3 : upd H2 nl _ = H3; have i3 := new_at e_H3; have s3 := new_same fnl e_H3
 refine n3 _ _ ?_
 refine step1 fun D4 n4 r4 _ _ => ?_
 exists 1, L2.ap_seq
 refine ⟨hd, heads, rfl, s3 _ _ i2, nums_sm (by omega) nh, by omega, fun H4 s4 => ?_⟩
 refine ⟨small (Nat.le_of_ble_eq_true rfl), ?_⟩
 intro ll fll; generalize e_H5 : upd H4 ll _ = H5; have i5 := new_at e_H5; have s5 := new_same fll e_H5
 refine n4 _ _ ?_
 have i3' : H5 nl = some (.lst []) := s5 _ _ (s4 _ _ i3)
 have nll : nl ≠ ll := fun z => by rw [← z, s4 _ _ i3] at fll; cases fll
 have i2' : H5 hd = some (.lst (heads.map thV)) := s5 _ _ (s4 _ _ (s3 _ _ i2))
 have i1' : H5 cl = some (.lst (cells.map V.int)) := s5 _ _ (s4 _ _ (s3 _ _ (s2 _ _ i1)))
 have hS5 : Scr K H5 a L := (((hS1.same s2).same s3).same s4).same s5
 have cnl : cl ≠ nl := fun z => by rw [← z, s2 _ _ i1] at fnl; cases fnl
 have cll : cl ≠ ll := fun z => by rw [← z, s4 _ _ (s3 _ _ (s2 _ _ i1))] at fll; cases fll
 have hnl : hd ≠ nl := fun z => by rw [← z, i2] at fnl; cases fnl
 have hll : hd ≠ ll := fun z => by rw [← z, s4 _ _ (s3 _ _ i2)] at fll; cases fll
 refine step1 fun D5 n5 r5 _ _ => ?_
 exists 1, i1', hn
 refine ⟨by omega, by omega, ?_⟩
 rw [Int.toNat_natCast]
 obtain ⟨Pv, hPv⟩ : ∃ Pv : Nat → St → Hp → Prop, Pv = fun k σ G => ∃ (notes : Notes Str) (N : List V) (k5 k10 k11 : Option V), σ = [some (.ref a), some (.ref cl), some (.ref hd), some (.ref nl), some (.ref ll), k5, none, none, none, none, k10, k11, none, none] ∧
  notes.length = k ∧ GoodN n notes ∧ G nl = some (.lst N) ∧ Rows2 G nl ll N notes ∧ G ll = some (.lst ((hline heads :: notes.map nline).map V.str)) ∧ (∀ c o, H5 c = some o → c ≠ nl → c ≠ ll → G c = some o) := ⟨_, rfl⟩
 refine forW_range Pv ?_ (fun k σ G hk hI => ?_) (fun σ G hI => ?_)
 · rw [hPv]
   exact ⟨[], [], _, _, _, rfl, rfl, (fun p h => nomatch h), i3', ⟨rfl, fun i v p h => nomatch h⟩, i5, fun c o h _ _ => h⟩
 · rw [hPv] at hI
   obtain ⟨notes, N, k5, k10, k11, rfl, ln, gn, gnl, rows, gll, kp⟩ := hI
   rw [show ((0 : Int) + (k : Int)) = (k : Int) by omega, ap_gName]
   have ek := List.getElem?_eq_getElem (l := cells) (by omega : k < cells.length)
   have gk : atI (cells.map V.int) (k : Int) = some (.int cells[k]) := atI_nat (by rw [List.getElem?_map, ek]; rfl)
   generalize cells[k] = z at gk
   have gcl := kp _ _ i1' cnl cll
   refine step1 fun E1 m1 _ _ _ => ?_
   exists 1, gcl, gk
   refine ⟨z, k, rfl, fun wd hw wl => m1 _ _ ?_⟩
   refine step1 fun E2 m2 _ _ _ => ?_
   exists 1, gcl, gk, hn
   refine ⟨z, n, rfl, by omega, fun G1 rw_ row j1 nr lr t1 frw => m2 _ _ ?_⟩
   refine step1 fun E3 m3 _ _ _ => ?_
   exists 1, t1 _ _ gnl
   refine ⟨small (Nat.le_of_ble_eq_true rfl), ?_⟩
   intro tp ftp; generalize e_G2 : upd G1 tp _ = G2; have j2 := new_at e_G2; have t2 := new_same ftp e_G2
   have gnl2 : G2 nl = some (.lst N) := t2 _ _ (t1 _ _ gnl)
   refine ⟨N, gnl2, small1000 (by rw [rows.1]; omega), m3 _ _ ?_⟩
   generalize e3 : upd G2 nl _ = G3
   have rnl : rw_ ≠ nl := fun z => by rw [z, gnl] at frw; cases frw
   have rll : rw_ ≠ ll := fun z => by rw [z, gll] at frw; cases frw
   have tnl : tp ≠ nl := fun z => by rw [z, t1 _ _ gnl] at ftp; cases ftp
   have gnl3 : G3 nl = some (.lst (N ++ [.ref tp])) := new_at e3
   have gll2 := t2 _ _ (t1 _ _ gll)
   have gll3 : G3 ll = some (.lst ((hline heads :: notes.map nline).map V.str)) := (wr_ne e3 nll.symm).trans gll2
   have grw3 : G3 rw_ = some (.lst (row.map thV)) := (wr_ne e3 rnl).trans (t2 _ _ j1)
   have gtp3 : G3 tp = some (.tup [.str wd, .ref rw_]) := (wr_ne e3 tnl).trans j2
   have k03 : ∀ c o, G c = some o → c ≠ nl → c ≠ ll → G3 c = some o := fun c o h h1 _ => (wr_ne e3 h1).trans (t2 _ _ (t1 _ _ h))
   have rows3 : Rows2 G3 nl ll (N ++ [.ref tp]) (notes ++ [(wd, row)]) := (rows.keep k03 ⟨_, gnl⟩ ⟨_, gll⟩).snoc gtp3 grw3 rnl rll
   have gn3 : GoodN n (notes ++ [(wd, row)]) := fun p hp => by
    rcases List.mem_append.mp hp with y | y
    · exact gn p y
    · rw [List.mem_singleton.mp y]; exact ⟨hw, wl, nr, lr⟩
   have sm := nums_sm (by omega) nr
   exists 1, gll3, w_isTxt
   refine ⟨small (Nat.le_of_ble_eq_true rfl), ?_⟩
   intro l1 fl1; generalize e_G4 : upd G3 l1 _ = G4; have j4 := new_at e_G4; have t4 := new_same fl1 e_G4
   refine comp_seq (xs := row.map thV) (by rw [t4 _ _ grw3]; rfl) fun D hD => ?_
   refine ⟨fun j ys H' => H' D = some (.lst ys) ∧ Same G4 H' ∧ ys = ((row.take j).map fg).map V.str, ?_, ?_, ?_, ?_⟩
   · generalize e : upd G4 D _ = G5
     exact ⟨new_at e, new_same hD e, by simp⟩
   · rintro j ys H' hj ⟨h1, h2, h3⟩
     exact ⟨h1, by rw [h2 _ _ (t4 _ _ grw3), t4 _ _ grw3]⟩
   · rintro j v ys H' N' hN hv ⟨h1, h2, h3⟩
     rw [List.getElem?_map] at hv
     cases et : row[j]? with
     | none => rw [et] at hv; cases hv
     | some t =>
      rw [et] at hv; cases hv
      have hy : ys.length < sizeLine := small1000 (by rw [h3, List.length_map, List.length_map, List.length_take]; omega)
      exists 1, L2.ap_seq
      refine ⟨small (Nat.le_of_ble_eq_true rfl), ?_⟩
      intro o1 fo1; generalize e_H6 : upd H' o1 _ = H6; have j6 := new_at e_H6; have t6 := new_same fo1 e_H6
      refine ⟨o1, [t], rfl, j6, (fun t' ht m hm => by rw [List.mem_singleton.mp ht] at hm; exact sm t (List.mem_of_getElem? et) m hm), (show 1 ≤ 900 by omega), fun H7 t7 => ?_⟩
      refine ⟨t7 _ _ (t6 _ _ h1), hy, hN _ _ ⟨new_at rfl, same_upd ((h2.trans t6).trans t7) hD, ?_⟩⟩
      rw [h3, List.take_succ, et, hline_one]
      simp
   · rintro ys H' ⟨h1, h2, h3⟩
     rw [List.length_map, List.take_length] at h3
     rw [h3] at h1
     exists 1, h2 _ _ j4, h1
     refine ⟨small (by omega), ?_⟩
     intro l2 fl2; generalize e_G8 : upd H' l2 _ = G8; have j8 := new_at e_G8; have t8 := new_same fl2 e_G8
     have s38 : Same G3 G8 := (t4.trans h2).trans t8
     refine w_join.mpr ⟨wd :: row.map fg, j8, join_room1 (by omega) sm (by omega), _, s38 _ _ gll3, small1000 (by rw [List.length_map, List.length_cons, List.length_map]; omega), ?_⟩
     generalize e9 : upd G8 ll _ = G9
     show Pv _ _ _
     rw [hPv]
     refine ⟨notes ++ [(wd, row)], _, _, _, _, rfl, by simp [ln], gn3, (wr_ne e9 nll).trans (s38 _ _ gnl3), rows3.keep (fun c o h _ h2 => (wr_ne e9 h2).trans (s38 _ _ h)) ⟨_, gnl3⟩ ⟨_, gll3⟩, ?_, fun c o h h1 h2 => (wr_ne e9 h2).trans (s38 _ _ (k03 c o (kp c o h h1 h2) h1 h2))⟩
     rw [new_at e9]
     simp [nline]
 · rw [hPv] at hI
   obtain ⟨notes, N, k5, k10, k11, rfl, ln, gn, gnl, rows, gll, kp⟩ := hI
   have ln : notes.length = n := by omega
   refine n5 _ _ ?_
   have ghd := kp _ _ i2' hnl hll
   have hSG : Scr K G a L := hS5.to fun ob xs h => kp _ _ h (ne_of h i3' (by intro z; cases z)) (ne_of h i5 (by intro z; cases z))
   have nat := rows.at_ gnl
   clear kp hPv Pv
   have zh : SmN heads := nums_sm (by omega) nh
   have zn : ∀ p ∈ notes, NoteSm p := fun p hp => by
    obtain ⟨g1, g2, g3, g4⟩ := gn p hp
    exact ⟨by omega, nums_sm (by omega) g3, by omega⟩
   generalize hls : hline heads :: notes.map nline = ls at gll
   have lls : ls.length = n + 1 := by rw [← hls, List.length_cons, List.length_map, ln]
   refine step1 fun D6 n6 r6 _ _ => ?_
   exists 1, ghd
   intro c1 fc1; generalize e_G1 : upd G c1 _ = G1; have j1 := new_at e_G1; have t1 := new_same fc1 e_G1
   refine comp_seq (xs := N) (by rw [t1 _ _ gnl]; rfl) fun D hD => ?_
   refine ⟨fun j ys H' => H' D = some (.lst ys) ∧ Same G1 H' ∧ Rows2 H' D D ys (notes.take j), ?_, ?_, ?_, ?_⟩
   · generalize e : upd G1 D _ = G5
     exact ⟨new_at e, new_same hD e, rfl, fun i v p h => nomatch h⟩
   · rintro j ys H' hj ⟨h1, h2, h3⟩
     exact ⟨h1, by rw [h2 _ _ (t1 _ _ gnl), t1 _ _ gnl]⟩
   · rintro j v ys H' N' hN hv ⟨h1, h2, h3⟩
     have hj : j < notes.length := by rw [← rows.1]; exact getElem?_ne_none_lt hv
     have ej := List.getElem?_eq_getElem hj
     obtain ⟨t, l, rfl, g1, g2, _⟩ := rows.2 j v _ hv ej
     have et : notes.take (j + 1) = notes.take j ++ [notes[j]] := by rw [List.take_succ, ej]; rfl
     generalize notes[j] = p at *
     have g1' := h2 _ _ (t1 _ _ g1)
     have hy : ys.length < sizeLine := small1000 (by rw [h3.1, List.length_take]; omega)
     exists 1, g1', at0, at1
     exists 1, h2 _ _ (t1 _ _ g2)
     intro o1 fo1; generalize e_H6 : upd H' o1 _ = H6; have j6 := new_at e_H6; have t6 := new_same fo1 e_H6
     refine ⟨small (Nat.le_of_ble_eq_true rfl), ?_⟩
     intro o2 fo2; generalize e_H7 : upd H6 o2 _ = H7; have j7 := new_at e_H7; have t7 := new_same fo2 e_H7
     have d7 := t7 _ _ (t6 _ _ h1)
     refine ⟨d7, hy, hN _ _ ?_⟩
     generalize e8 : upd H7 D _ = H8
     have nD : o1 ≠ D := fun z => by rw [z, h1] at fo1; cases fo1
     have nD2 : o2 ≠ D := fun z => by rw [z, t6 _ _ h1] at fo2; cases fo2
     refine ⟨new_at e8, fun c o h => (wr_ne e8 (not_eq_of h hD)).trans (t7 _ _ (t6 _ _ (h2 _ _ h))), ?_⟩
     rw [et]
     exact (h3.keep (fun c o h h1 _ => (wr_ne e8 h1).trans (t7 _ _ (t6 _ _ h))) ⟨_, h1⟩ ⟨_, h1⟩).snoc ((wr_ne e8 nD2).trans j7) ((wr_ne e8 nD).trans (t7 _ _ j6)) nD nD
   rintro ys H' ⟨h1, h2, h3⟩
   rw [rows.1, List.take_length] at h3
   refine ⟨small (Nat.le_of_ble_eq_true rfl), ?_⟩
   intro vw fvw; generalize e_G2 : upd H' vw _ = G2; have j2 := new_at e_G2; have t2 := new_same fvw e_G2
   have t02 : Same G G2 := (t1.trans h2).trans t2
   refine ⟨vw, c1, D, heads, notes, rfl, j2, t2 _ _ (h2 _ _ j1), (h3.at_ h1).same t2, zh, by omega, zn, by omega, fun G3 fnd j3 t3 ffnd => n6 _ _ ?_⟩
   rw [hls] at j3
   have t03 := t02.trans t3
   have gll3 := t03 _ _ gll
   clear h1 h2 h3
   refine stepF (fun R hR => by exists 1, j3, gll3; exact hR) ?_
   refine step1 fun D7 n7 r7 _ _ => ?_
   exists 1, gll3
   refine ⟨by omega, by omega, ?_⟩
   rw [Int.toNat_natCast]
   obtain ⟨Pv, hPv⟩ : ∃ Pv : Nat → St → Hp → Prop, Pv = fun _ σ G' => G' = G3 ∧ ∃ k5, σ = [some (.ref a), some (.ref cl), some (.ref hd), some (.ref nl), some (.ref ll), k5, some (.ref fnd), none, none, none, k10, k11, none, none] := ⟨_, rfl⟩
   refine forW_range Pv ?_ (fun j σ G' hj hI => ?_) (fun σ G' hI => ?_)
   · rw [hPv]; exact ⟨rfl, _, rfl⟩
   · rw [hPv] at hI
     obtain ⟨rfl, k5, rfl⟩ := hI
     rw [show ((0 : Int) + (j : Int)) = (j : Int) by omega, ap_gName]
     have ej : atI (ls.map V.str) (j : Int) = some (.str ls[j]) := atI_nat (by rw [List.getElem?_map, List.getElem?_eq_getElem hj]; rfl)
     refine ifF (fun R hR => by exists 1, j3, gll3, ej; exact hR) ?_
     show Pv _ _ _
     rw [hPv]; exact ⟨rfl, _, rfl⟩
   rw [hPv] at hI
   obtain ⟨rfl, k5', rfl⟩ := hI
   refine n7 _ _ ?_
   have hS3 : Scr K G' a L := hSG.same t03
   obtain ⟨way, eway, lway⟩ := modN (sAt ns 0 * 48271 % 1051) 8 (by decide)
   refine step1 fun D8 n8 r8 _ _ => ?_
   exists 1, L2.ap_seq
   refine ⟨a, ns, 0, rfl, by rw [eL]; exact hS3, ?_⟩
   exists 1, cmul, eway
   refine n8 _ _ ?_
   have asc : ∀ x ∈ ls, Asc x := fun x hx => by
    rw [← hls] at hx
    rcases List.mem_cons.mp hx with rfl | y
    · exact asc_hline n63 nh lh
    · obtain ⟨p, hp, rfl⟩ := List.mem_map.mp y
      obtain ⟨g1, g2, g3, g4⟩ := gn p hp
      exact asc_nline n63 g1 g2 g3 g4
   have good : GoodLs ls heads notes := by rw [← hls]; exact good_lines ln nh gn
   have ghd3 := t03 _ _ ghd
   have nat3 := nat.same t03
   refine step1 fun D9 n9 r9 _ _ => ?_
   suffices nx : ∀ (F : Hp) (lz : Addr) (zs : List Str), F lz = some (.lst (zs.map V.str)) → ((way ≤ 2 ∧ GoodLs zs heads notes) ∨ (2 < way ∧ BadLs zs)) → (∀ x ∈ zs, Asc x) → zs.length ≤ 400 → Same G' F →
    D9.nx [some (.ref a), some (.ref cl), some (.ref hd), some (.ref nl), some (.ref lz), k5', some (.ref fnd), some (.int way), none, none, k10, k11, none, none] F by
    by_cases hw : 2 < way
    · have hw' : (2 : Int) < (way : Int) := by omega
      refine ifT (fun R hR => by exists 1, hw'; exact hR) ?_
      exists 1, L2.ap_seq
      refine ⟨a, ns, 2, rfl, by rw [eL]; exact hS3, ?_⟩
      exists 1, L2.ap_seq
      exact ⟨ll, ls, way, sAt ns 2, heads, notes, rfl, gll3, good, asc, by omega, fun F lz zs f1 f2 f3 f4 f5 _ => nx F lz zs f1 (.inr ⟨hw, f2⟩) f3 f4 f5⟩
    · have hw' : ¬ (2 : Int) < (way : Int) := by omega
      refine ifF (fun R hR => by exists 1, hw'; exact hR) ?_
      exact nx G' ll ls gll3 (.inl ⟨by omega, good⟩) asc (by omega) (Same.refl _)
   intro F lz zs f1 f2 f3 f4 f5
   refine n9 _ _ ?_
   refine step1 fun D10 n10 r10 _ _ => ?_
   exists 1, f1
   intro ha fha; generalize e_F1 : upd F ha _ = F1; have g1 := new_at e_F1; have u1 := new_same fha e_F1
   refine n10 _ _ ?_
   refine step1 fun D11 n11 r11 _ _ => ?_
   exists 1, L2.ap_seq
   refine n11 _ _ ?_
   refine step1 fun D12 n12 r12 _ _ => ?_
   show tTry _ _ _ _ F1
   unfold tTry
   exists 1, L2.ap_seq
   refine ⟨ha, zs, rfl, g1, f3, f4, ?_⟩
   rcases f2 with ⟨hw, gd⟩ | ⟨hw, bd⟩
   · refine .inl ⟨heads, notes, gd, fun F2 v la nb v1 v2 v3 u2 => n12 _ _ ?_⟩
     have hw' : (way : Int) < 3 := by omega
     exists 1, hw'
     refine ⟨true, eq_strs (u2 _ _ g1) (u2 _ _ (u1 _ _ f1)), ?_⟩
     rw [if_pos rfl]
     have u := (f5.trans u1).trans u2
     exact ⟨v, la, nb, hd, nl, heads, notes, rfl, v1, v2, v3, u _ _ ghd3, nat3.same u, by omega, by omega, fun p hp => by have := (gn p hp).2.2.2; omega, hQ _⟩
   · refine .inr ⟨bd, fun F2 u2 => ?_⟩
     refine ⟨true, T.q_NoView_NoView, ?_⟩
     rw [if_pos rfl]
     have hw' : (2 : Int) < (way : Int) := by omega
     exists 1, hw'
     refine ⟨true, eq_strs (u2 _ _ g1) (u2 _ _ (u1 _ _ f1)), ?_⟩
     rw [if_pos rfl]
     exact ⟨lz, zs, rfl, u2 _ _ (u1 _ _ f1), f3, f4, bd, fun H' _ => r12 _ _ (hQ _)⟩
end
end PW
namespace PySem.W.Fast
theorem tw4599691143439033184:True:=⟨⟩
theorem tw545239586598070526:True:=⟨⟩
theorem tw4667624380056555518:True:=⟨⟩
theorem tw17077774451511218950:True:=⟨⟩
theorem tw6168545648401806845:True:=⟨⟩
theorem tw2049785412615727830:True:=⟨⟩
theorem tw10456402052344439378:True:=⟨⟩
theorem tw16781539758328866075:True:=⟨⟩
theorem tw5585546231600787715:True:=⟨⟩
theorem tw4975489946718775103:True:=⟨⟩
theorem tw2072530552261329296:True:=⟨⟩
theorem tw2151339752398238872:True:=⟨⟩
theorem tw7623430101370719893:True:=⟨⟩
theorem tw17553446458390906837:True:=⟨⟩
theorem tw10604379624778593236:True:=⟨⟩
theorem tw10779452173858119436:True:=⟨⟩
theorem tw11641213876697225926:True:=⟨⟩
theorem tw5579366022829429203:True:=⟨⟩
theorem tw14818212936690781199:True:=⟨⟩
theorem tw9459314702083401242:True:=⟨⟩
theorem tw14609850082137109494:True:=⟨⟩
theorem tw7320479889953668202:True:=⟨⟩
theorem tw15955060912542400686:True:=⟨⟩
theorem tw4328062171070430010:True:=⟨⟩
theorem tw10399669987266089914:True:=⟨⟩
theorem tw5925488324672764816:True:=⟨⟩
theorem tw17636738581581086962:True:=⟨⟩
theorem tw2278951752502661005:True:=⟨⟩
theorem tw12329988979666179701:True:=⟨⟩
theorem tw2694590483027704040:True:=⟨⟩
theorem tw16608196505903334968:True:=⟨⟩
theorem tw8343379352027524850:True:=⟨⟩
theorem tw4503308344211026673:True:=⟨⟩
theorem tw17988524929290597465:True:=⟨⟩
theorem tw11180137892016433004:True:=⟨⟩
theorem tw10435169997548515742:True:=⟨⟩
theorem tw58844433581475503:True:=⟨⟩
theorem tw8626329873362966734:True:=⟨⟩
theorem tw15733776975031158607:True:=⟨⟩
theorem tw15666184724291274995:True:=⟨⟩
theorem tw16275483710997912674:True:=⟨⟩
theorem tw10737782297875671907:True:=⟨⟩
theorem tw17548026371454666669:True:=⟨⟩
theorem tw7485080660743760610:True:=⟨⟩
theorem tw7131346640035148947:True:=⟨⟩
theorem tw16111908531888287041:True:=⟨⟩
theorem tw1566280918580144303:True:=⟨⟩
theorem tw11688590327171325306:True:=⟨⟩
theorem tw3923710314696084469:True:=⟨⟩
theorem tw3592838194252522864:True:=⟨⟩
theorem tw1229337893666633698:True:=⟨⟩
theorem tw2920758392906346366:True:=⟨⟩
theorem tw2089039156066901440:True:=⟨⟩
theorem tw15001782298090946270:True:=⟨⟩
theorem tw8607824880793907878:True:=⟨⟩
theorem tw6089738065780329150:True:=⟨⟩
theorem tw11866232838878202103:True:=⟨⟩
theorem tw11704013836394533160:True:=⟨⟩
theorem tw4075941308539786439:True:=⟨⟩
theorem tw6666880782405929758:True:=⟨⟩
theorem tw3884968880049158809:True:=⟨⟩
theorem tw11021047155439526042:True:=⟨⟩
theorem tw3251121689333045096:True:=⟨⟩
theorem tw7853514586182234435:True:=⟨⟩
theorem tw111018916587757105:True:=⟨⟩
theorem tw7553559218216655164:True:=⟨⟩
theorem tw10083769422307521390:True:=⟨⟩
theorem tw2285122824036193054:True:=⟨⟩
theorem tw6491647815142425317:True:=⟨⟩
theorem tw13054839593569737417:True:=⟨⟩
theorem tw6844562642668635579:True:=⟨⟩
theorem tw13527385983767154573:True:=⟨⟩
theorem tw2512420550188508909:True:=⟨⟩
theorem tw14071666936947706669:True:=⟨⟩
theorem tw797279088269228997:True:=⟨⟩
theorem tw11111723461109909099:True:=⟨⟩
theorem tw17887165153091747947:True:=⟨⟩
theorem tw1866583835700560589:True:=⟨⟩
theorem tw10459100088601918795:True:=⟨⟩
theorem tw3598784397898135400:True:=⟨⟩
theorem tw8251102517431256902:True:=⟨⟩
theorem tw4969131306274589598:True:=⟨⟩
theorem tw11967244166868766931:True:=⟨⟩
theorem tw17512314542603612512:True:=⟨⟩
theorem tw15633570047111737288:True:=⟨⟩
theorem tw12183824470555778387:True:=⟨⟩
theorem tw9460720659215688276:True:=⟨⟩
theorem tw128774148805633449:True:=⟨⟩
theorem tw8032903292607950682:True:=⟨⟩
theorem tw85240921909169474:True:=⟨⟩
theorem tw1256047453804607379:True:=⟨⟩
theorem tw15593656126824088041:True:=⟨⟩
theorem tw2472823088130295767:True:=⟨⟩
theorem tw16881787084270003588:True:=⟨⟩
theorem tw12004847002329258018:True:=⟨⟩
theorem tw6921156140549226409:True:=⟨⟩
theorem tw9686408274794763004:True:=⟨⟩
theorem tw3684002991477751795:True:=⟨⟩
theorem tw8599830359122645450:True:=⟨⟩
theorem tw13891743601672518060:True:=⟨⟩
theorem tw9173994545614703756:True:=⟨⟩
theorem tw2973528066901164000:True:=⟨⟩
theorem tw9242020288942171221:True:=⟨⟩
theorem tw14193751711334256183:True:=⟨⟩
theorem tw16330934474718873554:True:=⟨⟩
theorem tw13219560024462242528:True:=⟨⟩
theorem tw7596417788924379943:True:=⟨⟩
theorem tw1818806390644455501:True:=⟨⟩
theorem tw8439086012659855959:True:=⟨⟩
theorem tw16541113980215325318:True:=⟨⟩
theorem tw9114762116746048310:True:=⟨⟩
theorem tw17800836545480926185:True:=⟨⟩
theorem tw1688538275837868166:True:=⟨⟩
theorem tw1750073960650140300:True:=⟨⟩
theorem tw10234109275980967374:True:=⟨⟩
theorem tw5442978309349870784:True:=⟨⟩
theorem tw17738366520601378317:True:=⟨⟩
theorem tw2709596153158824343:True:=⟨⟩
theorem tw12542546568358960354:True:=⟨⟩
theorem tw13449604231229767018:True:=⟨⟩
theorem tw4387386589461992129:True:=⟨⟩
theorem tw16145978771069170525:True:=⟨⟩
theorem tw14687378950042609657:True:=⟨⟩
theorem tw12791679129140873827:True:=⟨⟩
theorem tw6434696556193150900:True:=⟨⟩
theorem tw18010067536499306587:True:=⟨⟩
theorem tw395815800920959826:True:=⟨⟩
theorem tw2497768781483520103:True:=⟨⟩
theorem tw7827968613105332331:True:=⟨⟩
theorem tw16852913425221472015:True:=⟨⟩
theorem tw1312202834732773420:True:=⟨⟩
theorem tw15824477304508456213:True:=⟨⟩
theorem tw7337949356733546242:True:=⟨⟩
theorem tw11322764042242315774:True:=⟨⟩
theorem tw17762965053148125653:True:=⟨⟩
theorem tw15058412806922426708:True:=⟨⟩
theorem tw12035708998041691581:True:=⟨⟩
theorem tw12838710965795392573:True:=⟨⟩
theorem tw9376754665988781468:True:=⟨⟩
theorem tw8093169623210962247:True:=⟨⟩
theorem tw6584972281288443657:True:=⟨⟩
theorem tw12711024326441196184:True:=⟨⟩
theorem tw14357327253147919323:True:=⟨⟩
theorem tw11081777407911098014:True:=⟨⟩
theorem tw7788336603916962704:True:=⟨⟩
theorem tw15926280256059419829:True:=⟨⟩
theorem tw8431018104231092948:True:=⟨⟩
theorem tw10642513591727993565:True:=⟨⟩
theorem tw4605660449261914662:True:=⟨⟩
theorem tw7483793477895455266:True:=⟨⟩
theorem tw13259376407391726109:True:=⟨⟩
theorem tw17717599540789147607:True:=⟨⟩
theorem tw10983891792415065352:True:=⟨⟩
theorem tw4766721214065637:True:=⟨⟩
theorem tw13369083484446008523:True:=⟨⟩
theorem tw17648706475647667447:True:=⟨⟩
theorem tw16099019977056049584:True:=⟨⟩
end PySem.W.Fast
namespace PW
open PySem L2
theorem len1 {β : Type} {l : List β} (h : l.length = 1) : ∃ a, l = [a] := by
 cases l with | nil => cases h | cons a l => cases l with | nil => exact ⟨a, rfl⟩ | cons z l => simp at h
theorem len2 {β : Type} {l : List β} (h : l.length = 2) : ∃ a b, l = [a, b] := by
 cases l with | nil => cases h | cons a l => cases l with | nil => cases h | cons b l => cases l with | nil => exact ⟨a, b, rfl⟩ | cons z l => simp at h
theorem len3 {β : Type} {l : List β} (h : l.length = 3) : ∃ a b c, l = [a, b, c] := by
 cases l with | nil => cases h | cons a l => cases l with | nil => cases h | cons b l => cases l with | nil => cases h | cons c l => cases l with | nil => exact ⟨a, b, c, rfl⟩ | cons z l => simp at h
theorem all_mk {l : PySem.W.OpenLaw} {w : World} {K : PySem.W.Frag} {h : Heap} {mg : Str → Option Value} {fa : Addr} (X : K.In h) (G : h.Ns mainGlobals mg) (hfa : mg "law" = some (.ref fa))
 {c_WallError : Addr}
 {c_Full : Addr}
 {c_NoNote : Addr}
 {c_NoThread : Addr}
 {c_Busy : Addr}
 {c_NoRound : Addr}
 {c_NoView : Addr}
 {a_shown : Addr} {od_shown an_shown : Option Addr} {sl_shown : Array (Option Value)} {oc_shown kV_shown dc_shown pm_shown cd_shown ct_shown : Value}
 {a_written : Addr} {od_written an_written : Option Addr} {sl_written : Array (Option Value)} {oc_written kV_written dc_written pm_written cd_written ct_written : Value}
 {a_figures : Addr} {od_figures an_figures : Option Addr} {sl_figures : Array (Option Value)} {oc_figures kV_figures dc_figures pm_figures cd_figures ct_figures : Value}
 {a_read : Addr} {od_read an_read : Option Addr} {sl_read : Array (Option Value)} {oc_read kV_read dc_read pm_read cd_read ct_read : Value}
 {a_known_figures : Addr} {od_known_figures an_known_figures : Option Addr} {sl_known_figures : Array (Option Value)} {oc_known_figures kV_known_figures dc_known_figures pm_known_figures cd_known_figures ct_known_figures : Value}
 {a_numbers_in : Addr} {od_numbers_in an_numbers_in : Option Addr} {sl_numbers_in : Array (Option Value)} {oc_numbers_in kV_numbers_in dc_numbers_in pm_numbers_in cd_numbers_in ct_numbers_in : Value}
 {a_word_in : Addr} {od_word_in an_word_in : Option Addr} {sl_word_in : Array (Option Value)} {oc_word_in kV_word_in dc_word_in pm_word_in cd_word_in ct_word_in : Value}
 {a_whole : Addr} {od_whole an_whole : Option Addr} {sl_whole : Array (Option Value)} {oc_whole kV_whole dc_whole pm_whole cd_whole ct_whole : Value}
 {a_at : Addr} {od_at an_at : Option Addr} {sl_at : Array (Option Value)} {oc_at kV_at dc_at pm_at cd_at ct_at : Value}
 {a_places_drawn : Addr} {od_places_drawn an_places_drawn : Option Addr} {sl_places_drawn : Array (Option Value)} {oc_places_drawn kV_places_drawn dc_places_drawn pm_places_drawn cd_places_drawn ct_places_drawn : Value}
 {a_line_of : Addr} {od_line_of an_line_of : Option Addr} {sl_line_of : Array (Option Value)} {oc_line_of kV_line_of dc_line_of pm_line_of cd_line_of ct_line_of : Value}
 {a_word_drawn : Addr} {od_word_drawn an_word_drawn : Option Addr} {sl_word_drawn : Array (Option Value)} {oc_word_drawn kV_word_drawn dc_word_drawn pm_word_drawn cd_word_drawn ct_word_drawn : Value}
 {a_spoilt : Addr} {od_spoilt an_spoilt : Option Addr} {sl_spoilt : Array (Option Value)} {oc_spoilt kV_spoilt dc_spoilt pm_spoilt cd_spoilt ct_spoilt : Value}
 {a_is_places : Addr} {od_is_places an_is_places : Option Addr} {sl_is_places : Array (Option Value)} {oc_is_places kV_is_places dc_is_places pm_is_places cd_is_places ct_is_places : Value}
 {a_is_view : Addr} {od_is_view an_is_view : Option Addr} {sl_is_view : Array (Option Value)} {oc_is_view kV_is_view dc_is_view pm_is_view cd_is_view ct_is_view : Value}
 {a_under_base : Addr} {od_under_base an_under_base : Option Addr} {sl_under_base : Array (Option Value)} {oc_under_base kV_under_base dc_under_base pm_under_base cd_under_base ct_under_base : Value}
 {a_law : Addr} {od_law an_law : Option Addr} {sl_law : Array (Option Value)} {oc_law kV_law dc_law pm_law cd_law ct_law : Value}
 {u_LETTERS : Value}
 (v_LETTERS : PySem.W.nsIn K mainGlobals "LETTERS" = some (some u_LETTERS))
 (rel_LETTERS : RelV (.str "abcdefghijklmnopqrstuvwxyz") u_LETTERS)
 (a_WallErrorx : PySem.W.nsIn K mainGlobals "WallError" = some (some (.ref c_WallError)))
 (a_Fullx : PySem.W.nsIn K mainGlobals "Full" = some (some (.ref c_Full)))
 (a_NoNotex : PySem.W.nsIn K mainGlobals "NoNote" = some (some (.ref c_NoNote)))
 (a_NoThreadx : PySem.W.nsIn K mainGlobals "NoThread" = some (some (.ref c_NoThread)))
 (a_Busyx : PySem.W.nsIn K mainGlobals "Busy" = some (some (.ref c_Busy)))
 (a_NoRoundx : PySem.W.nsIn K mainGlobals "NoRound" = some (some (.ref c_NoRound)))
 (a_NoViewx : PySem.W.nsIn K mainGlobals "NoView" = some (some (.ref c_NoView)))
 (p_shown : PySem.W.nsIn K mainGlobals "shown" = some (some (.ref a_shown)))
 (l_shown : K.lookup a_shown = some ⟨oc_shown, od_shown, .func (PySem.W.fnOf "shown" "shown" (defArgs s_shown) (defBody s_shown) (defScope s_shown) .none kV_shown dc_shown pm_shown an_shown cd_shown ct_shown), sl_shown⟩)
 (o_shown : PySem.W.codeIn K cd_shown "shown" = true)
 (k_shown : PySem.W.keepIn K (.ref a_shown) = true)
 (p_written : PySem.W.nsIn K mainGlobals "written" = some (some (.ref a_written)))
 (l_written : K.lookup a_written = some ⟨oc_written, od_written, .func (PySem.W.fnOf "written" "written" (defArgs s_written) (defBody s_written) (defScope s_written) .none kV_written dc_written pm_written an_written cd_written ct_written), sl_written⟩)
 (o_written : PySem.W.codeIn K cd_written "written" = true)
 (k_written : PySem.W.keepIn K (.ref a_written) = true)
 (p_figures : PySem.W.nsIn K mainGlobals "figures" = some (some (.ref a_figures)))
 (l_figures : K.lookup a_figures = some ⟨oc_figures, od_figures, .func (PySem.W.fnOf "figures" "figures" (defArgs s_figures) (defBody s_figures) (defScope s_figures) .none kV_figures dc_figures pm_figures an_figures cd_figures ct_figures), sl_figures⟩)
 (o_figures : PySem.W.codeIn K cd_figures "figures" = true)
 (k_figures : PySem.W.keepIn K (.ref a_figures) = true)
 (p_read : PySem.W.nsIn K mainGlobals "read" = some (some (.ref a_read)))
 (l_read : K.lookup a_read = some ⟨oc_read, od_read, .func (PySem.W.fnOf "read" "read" (defArgs s_read) (defBody s_read) (defScope s_read) .none kV_read dc_read pm_read an_read cd_read ct_read), sl_read⟩)
 (o_read : PySem.W.codeIn K cd_read "read" = true)
 (k_read : PySem.W.keepIn K (.ref a_read) = true)
 (p_known_figures : PySem.W.nsIn K mainGlobals "known_figures" = some (some (.ref a_known_figures)))
 (l_known_figures : K.lookup a_known_figures = some ⟨oc_known_figures, od_known_figures, .func (PySem.W.fnOf "known_figures" "known_figures" (defArgs s_known_figures) (defBody s_known_figures) (defScope s_known_figures) .none kV_known_figures dc_known_figures pm_known_figures an_known_figures cd_known_figures ct_known_figures), sl_known_figures⟩)
 (o_known_figures : PySem.W.codeIn K cd_known_figures "known_figures" = true)
 (k_known_figures : PySem.W.keepIn K (.ref a_known_figures) = true)
 (p_numbers_in : PySem.W.nsIn K mainGlobals "numbers_in" = some (some (.ref a_numbers_in)))
 (l_numbers_in : K.lookup a_numbers_in = some ⟨oc_numbers_in, od_numbers_in, .func (PySem.W.fnOf "numbers_in" "numbers_in" (defArgs s_numbers_in) (defBody s_numbers_in) (defScope s_numbers_in) .none kV_numbers_in dc_numbers_in pm_numbers_in an_numbers_in cd_numbers_in ct_numbers_in), sl_numbers_in⟩)
 (o_numbers_in : PySem.W.codeIn K cd_numbers_in "numbers_in" = true)
 (k_numbers_in : PySem.W.keepIn K (.ref a_numbers_in) = true)
 (p_word_in : PySem.W.nsIn K mainGlobals "word_in" = some (some (.ref a_word_in)))
 (l_word_in : K.lookup a_word_in = some ⟨oc_word_in, od_word_in, .func (PySem.W.fnOf "word_in" "word_in" (defArgs s_word_in) (defBody s_word_in) (defScope s_word_in) .none kV_word_in dc_word_in pm_word_in an_word_in cd_word_in ct_word_in), sl_word_in⟩)
 (o_word_in : PySem.W.codeIn K cd_word_in "word_in" = true)
 (k_word_in : PySem.W.keepIn K (.ref a_word_in) = true)
 (p_whole : PySem.W.nsIn K mainGlobals "_law_whole" = some (some (.ref a_whole)))
 (l_whole : K.lookup a_whole = some ⟨oc_whole, od_whole, .func (PySem.W.fnOf "_law_whole" "_law_whole" (defArgs s_whole) (defBody s_whole) (defScope s_whole) .none kV_whole dc_whole pm_whole an_whole cd_whole ct_whole), sl_whole⟩)
 (o_whole : PySem.W.codeIn K cd_whole "_law_whole" = true)
 (k_whole : PySem.W.keepIn K (.ref a_whole) = true)
 (p_at : PySem.W.nsIn K mainGlobals "_law_at" = some (some (.ref a_at)))
 (l_at : K.lookup a_at = some ⟨oc_at, od_at, .func (PySem.W.fnOf "_law_at" "_law_at" (defArgs s_at) (defBody s_at) (defScope s_at) .none kV_at dc_at pm_at an_at cd_at ct_at), sl_at⟩)
 (o_at : PySem.W.codeIn K cd_at "_law_at" = true)
 (k_at : PySem.W.keepIn K (.ref a_at) = true)
 (p_places_drawn : PySem.W.nsIn K mainGlobals "_law_places_drawn" = some (some (.ref a_places_drawn)))
 (l_places_drawn : K.lookup a_places_drawn = some ⟨oc_places_drawn, od_places_drawn, .func (PySem.W.fnOf "_law_places_drawn" "_law_places_drawn" (defArgs s_places_drawn) (defBody s_places_drawn) (defScope s_places_drawn) .none kV_places_drawn dc_places_drawn pm_places_drawn an_places_drawn cd_places_drawn ct_places_drawn), sl_places_drawn⟩)
 (o_places_drawn : PySem.W.codeIn K cd_places_drawn "_law_places_drawn" = true)
 (k_places_drawn : PySem.W.keepIn K (.ref a_places_drawn) = true)
 (p_line_of : PySem.W.nsIn K mainGlobals "_law_line_of" = some (some (.ref a_line_of)))
 (l_line_of : K.lookup a_line_of = some ⟨oc_line_of, od_line_of, .func (PySem.W.fnOf "_law_line_of" "_law_line_of" (defArgs s_line_of) (defBody s_line_of) (defScope s_line_of) .none kV_line_of dc_line_of pm_line_of an_line_of cd_line_of ct_line_of), sl_line_of⟩)
 (o_line_of : PySem.W.codeIn K cd_line_of "_law_line_of" = true)
 (k_line_of : PySem.W.keepIn K (.ref a_line_of) = true)
 (p_word_drawn : PySem.W.nsIn K mainGlobals "_law_word_drawn" = some (some (.ref a_word_drawn)))
 (l_word_drawn : K.lookup a_word_drawn = some ⟨oc_word_drawn, od_word_drawn, .func (PySem.W.fnOf "_law_word_drawn" "_law_word_drawn" (defArgs s_word_drawn) (defBody s_word_drawn) (defScope s_word_drawn) .none kV_word_drawn dc_word_drawn pm_word_drawn an_word_drawn cd_word_drawn ct_word_drawn), sl_word_drawn⟩)
 (o_word_drawn : PySem.W.codeIn K cd_word_drawn "_law_word_drawn" = true)
 (k_word_drawn : PySem.W.keepIn K (.ref a_word_drawn) = true)
 (p_spoilt : PySem.W.nsIn K mainGlobals "_law_spoilt" = some (some (.ref a_spoilt)))
 (l_spoilt : K.lookup a_spoilt = some ⟨oc_spoilt, od_spoilt, .func (PySem.W.fnOf "_law_spoilt" "_law_spoilt" (defArgs s_spoilt) (defBody s_spoilt) (defScope s_spoilt) .none kV_spoilt dc_spoilt pm_spoilt an_spoilt cd_spoilt ct_spoilt), sl_spoilt⟩)
 (o_spoilt : PySem.W.codeIn K cd_spoilt "_law_spoilt" = true)
 (k_spoilt : PySem.W.keepIn K (.ref a_spoilt) = true)
 (p_is_places : PySem.W.nsIn K mainGlobals "_law_is_places" = some (some (.ref a_is_places)))
 (l_is_places : K.lookup a_is_places = some ⟨oc_is_places, od_is_places, .func (PySem.W.fnOf "_law_is_places" "_law_is_places" (defArgs s_is_places) (defBody s_is_places) (defScope s_is_places) .none kV_is_places dc_is_places pm_is_places an_is_places cd_is_places ct_is_places), sl_is_places⟩)
 (o_is_places : PySem.W.codeIn K cd_is_places "_law_is_places" = true)
 (k_is_places : PySem.W.keepIn K (.ref a_is_places) = true)
 (p_is_view : PySem.W.nsIn K mainGlobals "_law_is_view" = some (some (.ref a_is_view)))
 (l_is_view : K.lookup a_is_view = some ⟨oc_is_view, od_is_view, .func (PySem.W.fnOf "_law_is_view" "_law_is_view" (defArgs s_is_view) (defBody s_is_view) (defScope s_is_view) .none kV_is_view dc_is_view pm_is_view an_is_view cd_is_view ct_is_view), sl_is_view⟩)
 (o_is_view : PySem.W.codeIn K cd_is_view "_law_is_view" = true)
 (k_is_view : PySem.W.keepIn K (.ref a_is_view) = true)
 (p_under_base : PySem.W.nsIn K mainGlobals "_law_under_base" = some (some (.ref a_under_base)))
 (l_under_base : K.lookup a_under_base = some ⟨oc_under_base, od_under_base, .func (PySem.W.fnOf "_law_under_base" "_law_under_base" (defArgs s_under_base) (defBody s_under_base) (defScope s_under_base) .none kV_under_base dc_under_base pm_under_base an_under_base cd_under_base ct_under_base), sl_under_base⟩)
 (o_under_base : PySem.W.codeIn K cd_under_base "_law_under_base" = true)
 (k_under_base : PySem.W.keepIn K (.ref a_under_base) = true)
 (p_law : PySem.W.nsIn K mainGlobals "law" = some (some (.ref a_law)))
 (l_law : K.lookup a_law = some ⟨oc_law, od_law, .func (PySem.W.fnOf "law" "law" (defArgs s_law) (defBody s_law) (defScope s_law) .none kV_law dc_law pm_law an_law cd_law ct_law), sl_law⟩)
 (o_law : PySem.W.codeIn K cd_law "law" = true)
 (k_law : PySem.W.keepIn K (.ref a_law) = true)
 (x_WallError : PySem.W.excIn K c_WallError bmV "ValueError.__new__" = true)
 (x_Full : PySem.W.excIn K c_Full bmV "ValueError.__new__" = true)
 (e_Full : PySem.W.exmOne K (.ref c_Full) (.ref c_WallError) = some true)
 (x_NoNote : PySem.W.excIn K c_NoNote bmV "ValueError.__new__" = true)
 (e_NoNote : PySem.W.exmOne K (.ref c_NoNote) (.ref c_WallError) = some true)
 (x_NoThread : PySem.W.excIn K c_NoThread bmV "ValueError.__new__" = true)
 (e_NoThread : PySem.W.exmOne K (.ref c_NoThread) (.ref c_WallError) = some true)
 (x_Busy : PySem.W.excIn K c_Busy bmV "ValueError.__new__" = true)
 (e_Busy : PySem.W.exmOne K (.ref c_Busy) (.ref c_WallError) = some true)
 (x_NoRound : PySem.W.excIn K c_NoRound bmV "ValueError.__new__" = true)
 (e_NoRound : PySem.W.exmOne K (.ref c_NoRound) (.ref c_WallError) = some true)
 (x_NoView : PySem.W.excIn K c_NoView bmV "ValueError.__new__" = true)
 (e_NoView : PySem.W.exmOne K (.ref c_NoView) (.ref c_WallError) = some true)
 (e_q_NoView_NoNote : PySem.W.exmOne K (.ref c_NoView) (.ref c_NoNote) = some false)
 (e_q_NoView_NoThread : PySem.W.exmOne K (.ref c_NoView) (.ref c_NoThread) = some false)
 (e_q_NoView_Full : PySem.W.exmOne K (.ref c_NoView) (.ref c_Full) = some false)
 (e_q_NoView_Busy : PySem.W.exmOne K (.ref c_NoView) (.ref c_Busy) = some false)
 (e_q_NoView_NoRound : PySem.W.exmOne K (.ref c_NoView) (.ref c_NoRound) = some false)
 (e_q_NoView_NoView : PySem.W.exmOne K (.ref c_NoView) (.ref c_NoView) = some true)
 (e_q_NoView_ValueError : PySem.W.exmOne K (.ref c_NoView) (.type "ValueError") = some true)
 (y_NoView_ga : PySem.W.findIn K (.ref c_NoView) "__getattribute__" = some (some (.builtin "BaseException.__getattribute__")))
 (y_NoView_hk : PySem.W.findIn K (.ref c_NoView) "__getattr__" = some none)
 (y_NoView_ha : PySem.W.findIn K (.ref c_NoView) "__class__" = some (some (.builtin "object.__class__")))
 (y_NoView_hm : PySem.W.mroIn K c_NoView (.type "object") = some true)
 (y_NoView_hb : PySem.W.mroIn K c_NoView (.type "BaseException") = some true)
 (y_cg1 : PySem.W.specialIn K (.builtin "object.__class__") "__get__" = some (some (.builtin "getset_descriptor.__get__")))
 (y_cg2 : PySem.W.takesIn K (.builtin "object.__class__") = some true)
 (z_all : PySem.W.nsIn K mainGlobals "all" = some none)
 (z_ValueError : PySem.W.nsIn K mainGlobals "ValueError" = some none)
 (z_len : PySem.W.nsIn K mainGlobals "len" = some none)
 (z_isinstance : PySem.W.nsIn K mainGlobals "isinstance" = some none)
 (z_list : PySem.W.nsIn K mainGlobals "list" = some none)
 (z_tuple : PySem.W.nsIn K mainGlobals "tuple" = some none)
 (z_int : PySem.W.nsIn K mainGlobals "int" = some none)
 (z_bool : PySem.W.nsIn K mainGlobals "bool" = some none)
 (z_str : PySem.W.nsIn K mainGlobals "str" = some none)
 (z_range : PySem.W.nsIn K mainGlobals "range" = some none)
 : ∃ fd : FuncData, (∀ (s : Shared) (v : Value), BindsTo s fd ⟨[v], []⟩ [("_law_script", v)]) ∧ ∀ base : Heap, K.In base → base.Ns mainGlobals mg → FnOk l.prog w K mg base (CXe l.prog w) 14 fa fd ["_law_script"] (spLaw K) := by
 have e := hfa.symm.trans (PySem.W.mg_of X G p_law)
 cases e
 have F_shown := fun_mk (st := s_shown) l_shown o_shown k_shown
 have B_shown := F_shown.binds (ps := ["view"]) fun _ _ _ _ _ _ us hl => by obtain ⟨_, rfl⟩ := len1 hl; rfl
 have F_written := fun_mk (st := s_written) l_written o_written k_written
 have B_written := F_written.binds (ps := ["numbers"]) fun _ _ _ _ _ _ us hl => by obtain ⟨_, rfl⟩ := len1 hl; rfl
 have F_figures := fun_mk (st := s_figures) l_figures o_figures k_figures
 have B_figures := F_figures.binds (ps := ["number"]) fun _ _ _ _ _ _ us hl => by obtain ⟨_, rfl⟩ := len1 hl; rfl
 have F_read := fun_mk (st := s_read) l_read o_read k_read
 have B_read := F_read.binds (ps := ["lines"]) fun _ _ _ _ _ _ us hl => by obtain ⟨_, rfl⟩ := len1 hl; rfl
 have F_known_figures := fun_mk (st := s_known_figures) l_known_figures o_known_figures k_known_figures
 have B_known_figures := F_known_figures.binds (ps := ["count"]) fun _ _ _ _ _ _ us hl => by obtain ⟨_, rfl⟩ := len1 hl; rfl
 have F_numbers_in := fun_mk (st := s_numbers_in) l_numbers_in o_numbers_in k_numbers_in
 have B_numbers_in := F_numbers_in.binds (ps := ["parts", "known"]) fun _ _ _ _ _ _ us hl => by obtain ⟨_, _, rfl⟩ := len2 hl; rfl
 have F_word_in := fun_mk (st := s_word_in) l_word_in o_word_in k_word_in
 have B_word_in := F_word_in.binds (ps := ["part"]) fun _ _ _ _ _ _ us hl => by obtain ⟨_, rfl⟩ := len1 hl; rfl
 have F_whole := fun_mk (st := s_whole) l_whole o_whole k_whole
 have B_whole := F_whole.binds (ps := ["_law_found"]) fun _ _ _ _ _ _ us hl => by obtain ⟨_, rfl⟩ := len1 hl; rfl
 have F_at := fun_mk (st := s_at) l_at o_at k_at
 have B_at := F_at.binds (ps := ["_law_script", "_law_k"]) fun _ _ _ _ _ _ us hl => by obtain ⟨_, _, rfl⟩ := len2 hl; rfl
 have F_places_drawn := fun_mk (st := s_places_drawn) l_places_drawn o_places_drawn k_places_drawn
 have B_places_drawn := F_places_drawn.binds (ps := ["_law_cell", "_law_size"]) fun _ _ _ _ _ _ us hl => by obtain ⟨_, _, rfl⟩ := len2 hl; rfl
 have F_line_of := fun_mk (st := s_line_of) l_line_of o_line_of k_line_of
 have B_line_of := F_line_of.binds (ps := ["_law_row"]) fun _ _ _ _ _ _ us hl => by obtain ⟨_, rfl⟩ := len1 hl; rfl
 have F_word_drawn := fun_mk (st := s_word_drawn) l_word_drawn o_word_drawn k_word_drawn
 have B_word_drawn := F_word_drawn.binds (ps := ["_law_cell", "_law_k"]) fun _ _ _ _ _ _ us hl => by obtain ⟨_, _, rfl⟩ := len2 hl; rfl
 have F_spoilt := fun_mk (st := s_spoilt) l_spoilt o_spoilt k_spoilt
 have B_spoilt := F_spoilt.binds (ps := ["_law_lines", "_law_way", "_law_cell"]) fun _ _ _ _ _ _ us hl => by obtain ⟨_, _, _, rfl⟩ := len3 hl; rfl
 have F_is_places := fun_mk (st := s_is_places) l_is_places o_is_places k_is_places
 have B_is_places := F_is_places.binds (ps := ["_law_found", "_law_due"]) fun _ _ _ _ _ _ us hl => by obtain ⟨_, _, rfl⟩ := len2 hl; rfl
 have F_is_view := fun_mk (st := s_is_view) l_is_view o_is_view k_is_view
 have B_is_view := F_is_view.binds (ps := ["_law_found", "_law_heads", "_law_notes"]) fun _ _ _ _ _ _ us hl => by obtain ⟨_, _, _, rfl⟩ := len3 hl; rfl
 have F_under_base := fun_mk (st := s_under_base) l_under_base o_under_base k_under_base
 have B_under_base := F_under_base.binds (ps := ["_law_lines"]) fun _ _ _ _ _ _ us hl => by obtain ⟨_, rfl⟩ := len1 hl; rfl
 have F_law := fun_mk (st := s_law) l_law o_law k_law
 have T : Txt K mg ⟨c_WallError, c_Full, c_NoNote, c_NoThread, c_Busy, c_NoRound, c_NoView, a_shown, _, a_written, _, a_figures, _, a_read, _, a_known_figures, _, a_numbers_in, _, a_word_in, _, a_whole, _, a_at, _, a_places_drawn, _, a_line_of, _, a_word_drawn, _, a_spoilt, _, a_is_places, _, a_is_view, _, a_under_base, _, u_LETTERS⟩ := ⟨PySem.W.mg_of X G a_WallErrorx, x_WallError, PySem.W.mg_of X G a_Fullx, x_Full, e_Full, PySem.W.mg_of X G a_NoNotex, x_NoNote, e_NoNote, PySem.W.mg_of X G a_NoThreadx, x_NoThread, e_NoThread, PySem.W.mg_of X G a_Busyx, x_Busy, e_Busy, PySem.W.mg_of X G a_NoRoundx, x_NoRound, e_NoRound, PySem.W.mg_of X G a_NoViewx, x_NoView, e_NoView, PySem.W.mg_of X G v_LETTERS, rel_LETTERS, e_q_NoView_NoNote, e_q_NoView_NoThread, e_q_NoView_Full, e_q_NoView_Busy, e_q_NoView_NoRound, e_q_NoView_NoView, e_q_NoView_ValueError, ⟨y_NoView_ga, y_NoView_hk, y_NoView_ha, y_NoView_hm, y_NoView_hb⟩, ⟨y_cg1, y_cg2⟩, F_shown, B_shown, PySem.W.mg_of X G p_shown, F_written, B_written, PySem.W.mg_of X G p_written, F_figures, B_figures, PySem.W.mg_of X G p_figures, F_read, B_read, PySem.W.mg_of X G p_read, F_known_figures, B_known_figures, PySem.W.mg_of X G p_known_figures, F_numbers_in, B_numbers_in, PySem.W.mg_of X G p_numbers_in, F_word_in, B_word_in, PySem.W.mg_of X G p_word_in, F_whole, B_whole, PySem.W.mg_of X G p_whole, F_at, B_at, PySem.W.mg_of X G p_at, F_places_drawn, B_places_drawn, PySem.W.mg_of X G p_places_drawn, F_line_of, B_line_of, PySem.W.mg_of X G p_line_of, F_word_drawn, B_word_drawn, PySem.W.mg_of X G p_word_drawn, F_spoilt, B_spoilt, PySem.W.mg_of X G p_spoilt, F_is_places, B_is_places, PySem.W.mg_of X G p_is_places, F_is_view, B_is_view, PySem.W.mg_of X G p_is_view, F_under_base, B_under_base, PySem.W.mg_of X G p_under_base, PySem.W.mg_none_of X G z_all, PySem.W.mg_none_of X G z_ValueError, PySem.W.mg_none_of X G z_len, PySem.W.mg_none_of X G z_isinstance, PySem.W.mg_none_of X G z_list, PySem.W.mg_none_of X G z_tuple, PySem.W.mg_none_of X G z_int, PySem.W.mg_none_of X G z_bool, PySem.W.mg_none_of X G z_str, PySem.W.mg_none_of X G z_range⟩
 exact ⟨PySem.W.fnOf "law" "law" (defArgs s_law) (defBody s_law) (defScope s_law) .none kV_law dc_law pm_law an_law cd_law ct_law, fun s v => .of_eq rfl, fun base _ _ => ok_law F_law T⟩
theorem walk {l : PySem.W.OpenLaw} {q : Program} {loose : List Str} {XP : (Str → Option Value) → Heap → Prop} {YP : World → Heap → Prop} {d : DefRec} {K : Params → PySem.W.Frag} (hn : l.most = some 63) (hdf : d.params.defaults = [])
 (hY : ∀ (w : World) (h : Heap), YP w h → (K w.params).In h)
 (F : ∀ (w : World) (mg : Str → Option Value) (fa : Addr) (h : Heap), (K w.params).In h → h.Ns mainGlobals mg → mg d.name = some (.ref fa) →
   ∃ fd : FuncData, (∀ (s : Shared) (u : Value), BindsTo s fd ⟨[u], []⟩ [("_law_script", u)]) ∧ ∀ base : Heap, (K w.params).In base → base.Ns mainGlobals mg → FnOk l.prog w (K w.params) mg base (CXe l.prog w) 14 fa fd ["_law_script"] (spLaw (K w.params))) :
 PySem.W.WalkO q loose XP YP l.row.toRowW d [] (fun f vs => PySem.call f vs) :=
 L2.walk_of (n := 63) (k := 14) (x := "_law_script") (CX := fun w => CXe l.prog w) (sp := fun w => spLaw (K w.params)) hn (by decide) hdf ⟨fun _ => rfl, by decide, by decide⟩ hY F (fun _ _ a ns hl hO hS => ⟨a, ns, rfl, Scr.of hO hS, hl, fun _ => rfl⟩) fun _ _ _ _ _ h => by
  obtain ⟨⟨_, _, _, _, _, _, _, _, _, _, _, _, _, _, z⟩, _⟩ := h
  exact z
end PW
open PySem PySem.W PyProof.Rows
set_option maxRecDepth 100000 in
set_option maxHeartbeats 0 in
theorem PySem.Challenge.cw_pinwall_k12_views_on_lines_holds : PySem.Challenge.rw_pinwall_k12_views_on_lines.Holds := by
 w_on; o_law; k_head; (case hw => w_witness2)
 k_fill
 refine PW.walk (l := PySem.Challenge.rw_pinwall_k12_views_on_lines) rfl rfl (fun w h Y => PySem.W.kIn_of Y) ?F
 case F =>
  intro w mg fa h KX G hmg
  refine' PW.all_mk KX G hmg ?v_LETTERS ?rel_LETTERS ?a_WallErrorx ?a_Fullx ?a_NoNotex ?a_NoThreadx ?a_Busyx ?a_NoRoundx ?a_NoViewx ?p_shown ?l_shown ?o_shown ?k_shown ?p_written ?l_written ?o_written ?k_written ?p_figures ?l_figures ?o_figures ?k_figures ?p_read ?l_read ?o_read ?k_read ?p_known_figures ?l_known_figures ?o_known_figures ?k_known_figures ?p_numbers_in ?l_numbers_in ?o_numbers_in ?k_numbers_in ?p_word_in ?l_word_in ?o_word_in ?k_word_in ?p_whole ?l_whole ?o_whole ?k_whole ?p_at ?l_at ?o_at ?k_at ?p_places_drawn ?l_places_drawn ?o_places_drawn ?k_places_drawn ?p_line_of ?l_line_of ?o_line_of ?k_line_of ?p_word_drawn ?l_word_drawn ?o_word_drawn ?k_word_drawn ?p_spoilt ?l_spoilt ?o_spoilt ?k_spoilt ?p_is_places ?l_is_places ?o_is_places ?k_is_places ?p_is_view ?l_is_view ?o_is_view ?k_is_view ?p_under_base ?l_under_base ?o_under_base ?k_under_base ?p_law ?l_law ?o_law ?k_law ?x_WallError ?x_Full ?e_Full ?x_NoNote ?e_NoNote ?x_NoThread ?e_NoThread ?x_Busy ?e_Busy ?x_NoRound ?e_NoRound ?x_NoView ?e_NoView ?e_q_NoView_NoNote ?e_q_NoView_NoThread ?e_q_NoView_Full ?e_q_NoView_Busy ?e_q_NoView_NoRound ?e_q_NoView_NoView ?e_q_NoView_ValueError ?y_NoView_ga ?y_NoView_hk ?y_NoView_ha ?y_NoView_hm ?y_NoView_hb ?y_cg1 ?y_cg2 ?z_all ?z_ValueError ?z_len ?z_isinstance ?z_list ?z_tuple ?z_int ?z_bool ?z_str ?z_range
  (case v_LETTERS => k_is)
  (case rel_LETTERS => exact ⟨_, rfl⟩)
  (case a_WallErrorx => k_is)
  (case a_Fullx => k_is)
  (case a_NoNotex => k_is)
  (case a_NoThreadx => k_is)
  (case a_Busyx => k_is)
  (case a_NoRoundx => k_is)
  (case a_NoViewx => k_is)
  (case p_shown => k_is)
  (case l_shown => k_is)
  (case o_shown => k_is)
  (case k_shown => k_is)
  (case p_written => k_is)
  (case l_written => k_is)
  (case o_written => k_is)
  (case k_written => k_is)
  (case p_figures => k_is)
  (case l_figures => k_is)
  (case o_figures => k_is)
  (case k_figures => k_is)
  (case p_read => k_is)
  (case l_read => k_is)
  (case o_read => k_is)
  (case k_read => k_is)
  (case p_known_figures => k_is)
  (case l_known_figures => k_is)
  (case o_known_figures => k_is)
  (case k_known_figures => k_is)
  (case p_numbers_in => k_is)
  (case l_numbers_in => k_is)
  (case o_numbers_in => k_is)
  (case k_numbers_in => k_is)
  (case p_word_in => k_is)
  (case l_word_in => k_is)
  (case o_word_in => k_is)
  (case k_word_in => k_is)
  (case p_whole => k_is)
  (case l_whole => k_is)
  (case o_whole => k_is)
  (case k_whole => k_is)
  (case p_at => k_is)
  (case l_at => k_is)
  (case o_at => k_is)
  (case k_at => k_is)
  (case p_places_drawn => k_is)
  (case l_places_drawn => k_is)
  (case o_places_drawn => k_is)
  (case k_places_drawn => k_is)
  (case p_line_of => k_is)
  (case l_line_of => k_is)
  (case o_line_of => k_is)
  (case k_line_of => k_is)
  (case p_word_drawn => k_is)
  (case l_word_drawn => k_is)
  (case o_word_drawn => k_is)
  (case k_word_drawn => k_is)
  (case p_spoilt => k_is)
  (case l_spoilt => k_is)
  (case o_spoilt => k_is)
  (case k_spoilt => k_is)
  (case p_is_places => k_is)
  (case l_is_places => k_is)
  (case o_is_places => k_is)
  (case k_is_places => k_is)
  (case p_is_view => k_is)
  (case l_is_view => k_is)
  (case o_is_view => k_is)
  (case k_is_view => k_is)
  (case p_under_base => k_is)
  (case l_under_base => k_is)
  (case o_under_base => k_is)
  (case k_under_base => k_is)
  (case p_law => k_is)
  (case l_law => k_is)
  (case o_law => k_is)
  (case k_law => k_is)
  (case x_WallError => k_exc)
  (case x_Full => k_exc)
  (case e_Full => kts_exm)
  (case x_NoNote => k_exc)
  (case e_NoNote => kts_exm)
  (case x_NoThread => k_exc)
  (case e_NoThread => kts_exm)
  (case x_Busy => k_exc)
  (case e_Busy => kts_exm)
  (case x_NoRound => k_exc)
  (case e_NoRound => kts_exm)
  (case x_NoView => k_exc)
  (case e_NoView => kts_exm)
  (case e_q_NoView_NoNote => kts_exm)
  (case e_q_NoView_NoThread => kts_exm)
  (case e_q_NoView_Full => kts_exm)
  (case e_q_NoView_Busy => kts_exm)
  (case e_q_NoView_NoRound => kts_exm)
  (case e_q_NoView_NoView => kts_exm)
  (case e_q_NoView_ValueError => kts_exm)
  (case y_NoView_ga => k_is)
  (case y_NoView_hk => k_is)
  (case y_NoView_ha => k_is)
  (case y_NoView_hm => k_is)
  (case y_NoView_hb => k_is)
  (case y_cg1 => k_is)
  (case y_cg2 => k_is)
  (case z_all => k_is)
  (case z_ValueError => k_is)
  (case z_len => k_is)
  (case z_isinstance => k_is)
  (case z_list => k_is)
  (case z_tuple => k_is)
  (case z_int => k_is)
  (case z_bool => k_is)
  (case z_str => k_is)
  (case z_range => k_is)
#print axioms PySem.Challenge.cw_pinwall_k12_views_on_lines_holds
